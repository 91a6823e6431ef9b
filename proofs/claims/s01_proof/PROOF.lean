import PyProof.Rows.All
import Wide.All
import OpenK.AllK
import Wide.FinOn
import PyProof.EqAt
import PyProof.EqKinds
import PyProof.TupleCall
import KE.BitLaws
import KE.OsGo
import PySem.Challenge.RW_twoends_s01_answers
set_option Elab.async false
set_option linter.all false
set_option maxRecDepth 100000
namespace L2
open PySem PySem.Spec PyProof.Rows
abbrev Key := Sum Int Str
def keyIs : Key → Value → Bool
  | .inl k, v => Value.isInt k v
  | .inr x, v => Value.isStrOf x v
def keyH (w : World) : Key → Int
  | .inl k => hashInt k
  | .inr x => hashStr w x
theorem keyIs_shape : ∀ {k : Key} {v : Value}, keyIs k v = true → (∃ i t, k = Sum.inl i ∧ v = Value.int i t) ∨ (∃ x t, k = Sum.inr x ∧ v = Value.str x t)
  | .inl i, v, h => by
    obtain ⟨t, e⟩ := Value.isInt_shape (k := i) (v := v) h
    exact .inl ⟨i, t, rfl, e⟩
  | .inr x, v, h => by
    obtain ⟨t, e⟩ := Value.isStrOf_shape (x := x) (v := v) h
    exact .inr ⟨x, t, rfl, e⟩
theorem keyIs_int (i : Int) (t : Tok) : keyIs (.inl i) (.int i t) = true := by simp [keyIs, Value.isInt]
theorem keyIs_str (x : Str) (t : Tok) : keyIs (.inr x) (.str x t) = true := by simp [keyIs, Value.isStrOf]
theorem key_ll (a b : Int) : decide ((Sum.inl a : Key) = Sum.inl b) = (a == b) := by
  by_cases e : a = b
  · subst e; simp
  · have h : ¬ (Sum.inl a : Key) = Sum.inl b := fun q => e (Sum.inl.inj q)
    rw [decide_eq_false h]
    exact (beq_eq_false_iff_ne.mpr e).symm
theorem key_rr (a b : Str) : decide ((Sum.inr a : Key) = Sum.inr b) = decide (a = b) := by
  by_cases e : a = b
  · subst e; simp
  · have h : ¬ (Sum.inr a : Key) = Sum.inr b := fun q => e (Sum.inr.inj q)
    rw [decide_eq_false h, decide_eq_false e]
theorem key_lr (a : Int) (b : Str) : decide ((Sum.inl a : Key) = Sum.inr b) = false := decide_eq_false (fun q => nomatch q)
theorem key_rl (a : Str) (b : Int) : decide ((Sum.inr a : Key) = Sum.inl b) = false := decide_eq_false (fun q => nomatch q)
def mixKind (prog : Program) (w : World) : PySem.KeyKind prog w Key where
  is := keyIs
  hash := keyH w
  inj := fun v a b ha hb => by
    rcases keyIs_shape ha with ⟨i, t, rfl, rfl⟩ | ⟨x, t, rfl, rfl⟩
    · rcases keyIs_shape hb with ⟨j, u, rfl, e⟩ | ⟨y, u, rfl, e⟩
      · injection e with e1 _; rw [e1]
      · exact nomatch e
    · rcases keyIs_shape hb with ⟨j, u, rfl, e⟩ | ⟨y, u, rfl, e⟩
      · exact nomatch e
      · injection e with e1 _; rw [e1]
  byValue := fun k v h => by
    rcases keyIs_shape h with ⟨i, t, rfl, rfl⟩ | ⟨x, t, rfl, rfl⟩ <;> rfl
  pyHash := fun hv h => by
    rcases keyIs_shape hv with ⟨i, t, rfl, rfl⟩ | ⟨x, t, rfl, rfl⟩
    · exact wpAny_pyHash_int h
    · exact wpAny_pyHash_str h
  eqBool := fun hu hv h => by
    rcases keyIs_shape hu with ⟨i, t, rfl, rfl⟩ | ⟨x, t, rfl, rfl⟩
    · rcases keyIs_shape hv with ⟨j, u, rfl, rfl⟩ | ⟨y, u, rfl, rfl⟩
      · rw [key_ll] at h; exact wpAny_eqBool_int h
      · rw [key_lr] at h; exact SeqAt.EqAt.int_str i t y u _ _ _ _ h
    · rcases keyIs_shape hv with ⟨j, u, rfl, rfl⟩ | ⟨y, u, rfl, rfl⟩
      · rw [key_rl] at h; exact SeqAt.EqAt.str_int x t j u _ _ _ _ h
      · rw [key_rr] at h; exact wpAny_eqBool_str h
  «strs» := fun k x t v h => by
    rcases keyIs_shape h with ⟨i, u, rfl, e⟩ | ⟨y, u, rfl, e⟩
    · exact nomatch e
    · injection e with e1 _
      subst e1
      cases v <;> rfl
theorem mixKind_int (prog : Program) (w : World) (i : Int) (t : Tok) : (mixKind prog w).is (.inl i) (.int i t) = true := keyIs_int i t
theorem mixKind_str (prog : Program) (w : World) (x : Str) (t : Tok) : (mixKind prog w).is (.inr x) (.str x t) = true := keyIs_str x t
end L2
namespace L2
open PySem PySem.Spec PyProof.Rows
inductive V where
  | non | bl (b : Bool) | int (i : Int) | str (x : Str) | byt (b : Array UInt8) | flt (b : UInt64) | ref (a : Addr) | ty (n : String)
  deriving DecidableEq
def RelV : V → Value → Prop
  | .non, u => u = Value.none
  | .bl b, u => u = Value.bool b
  | .int i, u => ∃ t, u = Value.int i t
  | .str x, u => ∃ t, u = Value.str x t
  | .byt b, u => ∃ t, u = Value.bytes b t
  | .flt b, u => ∃ t, u = Value.float b t
  | .ref a, u => u = Value.ref a
  | .ty n, u => u = Value.type n
abbrev Vals : List V → List Value → Prop := Paired RelV
theorem Vals.length {xs : List V} {us : List Value} (r : Vals xs us) : xs.length = us.length := Paired.length r
theorem Vals.get : ∀ {xs : List V} {us : List Value} {i : Nat} {x : V}, Vals xs us → xs[i]? = some x → ∃ u, us[i]? = some u ∧ RelV x u
  | _, _, _, _, .nil, e => by simp at e
  | _, _, 0, _, .cons r _, e => by simp at e; subst e; exact ⟨_, rfl, r⟩
  | _, _, i + 1, x, .cons _ t, e => by
    obtain ⟨u, h1, h2⟩ := Vals.get (i := i) (x := x) t (by simpa using e)
    exact ⟨u, by simpa using h1, h2⟩
theorem Vals.set {x : V} {u : Value} (r : RelV x u) : ∀ {xs : List V} {us : List Value} (i : Nat), Vals xs us → Vals (xs.set i x) (us.set i u)
  | _, _, _, .nil => .nil
  | _, _, 0, .cons _ t => .cons r t
  | _, _, i + 1, .cons q t => .cons q (Vals.set r i t)
theorem Vals.append : ∀ {xs ys : List V} {us ws : List Value}, Vals xs us → Vals ys ws → Vals (xs ++ ys) (us ++ ws)
  | _, _, _, _, .nil, s => s
  | _, _, _, _, .cons r t, s => .cons r (Vals.append t s)
theorem Vals.take : ∀ {xs : List V} {us : List Value} (n : Nat), Vals xs us → Vals (xs.take n) (us.take n)
  | _, _, 0, _ => .nil
  | _, _, _ + 1, .nil => .nil
  | _, _, n + 1, .cons r t => .cons r (Vals.take n t)
theorem Vals.drop : ∀ {xs : List V} {us : List Value} (n : Nat), Vals xs us → Vals (xs.drop n) (us.drop n)
  | _, _, 0, r => r
  | _, _, _ + 1, .nil => .nil
  | _, _, n + 1, .cons _ t => Vals.drop n t
def RelO : Option V → Option Value → Prop
  | some v, some u => RelV v u
  | none, none => True
  | _, _ => False
def KV {κ : Type} : List (κ × V) → List (κ × Value) → Prop := Paired fun (p : κ × V) (q : κ × Value) => p.1 = q.1 ∧ RelV p.2 q.2
def kV : Key → V
  | .inl i => .int i
  | .inr x => .str x
inductive HO where
    | lst (xs : List V)
    | tup (xs : List V)
    | dK (kvs : List (Key × V)) | dT (kvs : List (List Key × V))
    | set (S : Int → Bool) (n : Nat)
    | ins (C dx : Addr) (fs : List (Str × V))
    | own (x : Addr)
    | xd (fs : List (Str × V))
    | met (f x : Addr)
    | rng (lo hi : Int)
    | frz (o : Obj) (u : HO)
    | tbl (ps : Array Value)
    | ext (φ : Heap → Prop)
abbrev Hp := Addr → Option HO
def upd (H : Hp) (a : Addr) (o : HO) : Hp := fun b => if b = a then some o else H b
theorem upd_same {H : Hp} {a : Addr} {o : HO} : upd H a o a = some o := by unfold upd; rw [if_pos rfl]
theorem upd_ne {H : Hp} {a b : Addr} {o : HO} (h : b ≠ a) : upd H a o b = H b := by unfold upd; rw [if_neg h]
theorem upd_upd {H : Hp} {a : Addr} {o u : HO} : upd (upd H a o) a u = upd H a u := by
  funext b; unfold upd; split <;> rfl
theorem ne_of {H : Hp} {a b : Addr} {o u : HO} (h : H a = some o) (h' : H b = some u) (d : o ≠ u) : a ≠ b := by
  intro e; subst e; rw [h] at h'; exact d (Option.some.inj h')
theorem ne_of_none {H : Hp} {a b : Addr} {o : HO} (h : H a = some o) (h' : H b = none) : a ≠ b := by
  intro e; subst e; rw [h] at h'; cases h'
section
variable (P : Program) (w : World)
def ObjOk (H : Hp) (h : Heap) (a : Addr) : HO → Prop
  | .lst xs => xs.length ≤ sizeLine ∧ ∃ (its : List Value) (n : Nat), Vals xs its ∧ h.get? a = some { cls := .type "list", data := .seq its.toArray n }
  | .tup xs => xs.length ≤ sizeLine ∧ ∃ its : List Value, Vals xs its ∧ IsTup h a its.toArray
  | .dK kvs => kvs.length ≤ sizeLine ∧ (a == sysModules) = false ∧ ∃ vs, KV kvs vs ∧ h.DictOf (mixKind P w) a vs
  | .dT kvs => kvs.length ≤ sizeLine ∧ (a == sysModules) = false ∧ ∃ xs : List (List Key × Addr × Value),
      Paired (fun (p : List Key × V) (q : List Key × Addr × Value) => p.1 = q.1 ∧ H q.2.1 = some (.tup (p.1.map kV)) ∧ RelV p.2 q.2.2) kvs xs ∧
      ∃ o es ep, h.get? a = some o ∧ o.ExactDict ∧ o.data = .dict es ep ∧ es.toList = xs.map (entryOfKey (tupleKind (mixKind P w))) ∧ (xs.map (·.1)).Nodup
  | .set S n => h.SetOf (intKind P w) a S n
  | .ins C dx fs => H dx = some (.own a) ∧ fs.length ≤ 1000 ∧ dx ≠ a ∧ h.get? a = some (PySem.W.instObj C dx) ∧
      ∃ mA, h.Ns1 dx mA ∧ (∀ f, RelO (fs.lookup f) (mA f)) ∧ PySem.Within mA (fs.map (·.1))
  | .own _ => ∃ o, h.get? a = some o
  | .xd fs => ∃ mA, h.Ns1 a mA ∧ ∀ f, RelO (fs.lookup f) (mA f)
  | .rng lo hi => ∃ t u v, h.get? a = some { cls := .type "range", data := .fields #[.int lo t, .int hi u, .int 1 v] }
  | .frz o u => h.get? a = some o ∧ ObjOk H h a u
  | .tbl ps => h.get? a = some { cls := .none, data := .fields ps }
  | .met f x => h.get? a = some (PySem.W.methodObj (.ref f) (.ref x))
  | .ext φ => φ h ∧ (∃ o, h.get? a = some o) ∧ ∀ h1 h2 : Heap, φ h1 → (∀ o, h1.get? a = some o → h2.get? a = some o) → φ h2
def HOk (H : Hp) (h : Heap) : Prop := ∀ a o, H a = some o → ObjOk P w H h a o
end
section
variable {P : Program} {w : World} {H H' : Hp} {h h' : Heap} {a : Addr} {o : HO}
theorem ObjOk.lt (x : ObjOk P w H h a o) : a < h.objs.size := by
  cases o with
  | lst xs => obtain ⟨_, _, _, _, e⟩ := x; exact Heap.lt_size e
  | tup xs => obtain ⟨_, _, _, p⟩ := x; exact p.lt
  | dK kvs => obtain ⟨_, _, _, _, o, _, _, e, _⟩ := x; exact Heap.lt_size e
  | dT kvs => obtain ⟨_, _, _, _, o, _, _, e, _⟩ := x; exact Heap.lt_size e
  | set S n => obtain ⟨o, _, _, _, e, _⟩ := x; exact Heap.lt_size e
  | ins C dx fs => obtain ⟨_, _, _, e, _⟩ := x; exact Heap.lt_size e
  | own y => obtain ⟨_, e⟩ := x; exact Heap.lt_size e
  | xd fs => obtain ⟨_, ⟨_, _, _, e, _⟩, _⟩ := x; exact Heap.lt_size e
  | rng lo hi => obtain ⟨_, _, _, e⟩ := x; exact Heap.lt_size e
  | frz ob u => obtain ⟨e, _⟩ := x; exact Heap.lt_size e
  | tbl ps => exact Heap.lt_size (show h.get? a = some _ from x)
  | met f y => exact Heap.lt_size (show h.get? a = some _ from x)
  | ext φ => obtain ⟨_, ⟨_, e⟩, _⟩ := x; exact Heap.lt_size e
theorem Paired.mapP {α β : Type} {F G : α → β → Prop} : ∀ {l₁ : List α} {l₂ : List β}, Paired F l₁ l₂ → (∀ a b, F a b → G a b) → Paired G l₁ l₂
  | _, _, .nil, _ => .nil
  | _, _, .cons r t, f => .cons (f _ _ r) (Paired.mapP t f)
theorem ObjOk.stay (x : ObjOk P w H h a o) (k : ∀ b u, (b = a ∨ H b = some (.own a)) → h.get? b = some u → h'.get? b = some u)
    (ho : ∀ b, H b = some (.own a) → H' b = some (.own a)) (ht : ∀ b xs, H b = some (.tup xs) → H' b = some (.tup xs)) : ObjOk P w H' h' a o := by
  induction o with
  | lst xs => obtain ⟨z, its, n, r, e⟩ := x; exact ⟨z, its, n, r, k _ _ (.inl rfl) e⟩
  | tup xs => obtain ⟨z, its, r, ob, e, c⟩ := x; exact ⟨z, its, r, ob, k _ _ (.inl rfl) e, c⟩
  | dK kvs => obtain ⟨z, y, vs, r, ob, es, ep, e, c⟩ := x; exact ⟨z, y, vs, r, ob, es, ep, k _ _ (.inl rfl) e, c⟩
  | dT kvs =>
    obtain ⟨z, y, xs, r, ob, es, ep, e, c⟩ := x
    exact ⟨z, y, xs, Paired.mapP r fun p q z => ⟨z.1, ht _ _ z.2.1, z.2.2⟩, ob, es, ep, k _ _ (.inl rfl) e, c⟩
  | set S n => obtain ⟨ob, es, ep, t, e, c⟩ := x; exact ⟨ob, es, ep, t, k _ _ (.inl rfl) e, c⟩
  | ins C dx fs =>
    obtain ⟨d, z, ne, e, mA, ⟨od, es, ep, e2, c⟩, r⟩ := x
    exact ⟨ho _ d, z, ne, k _ _ (.inl rfl) e, mA, ⟨od, es, ep, k _ _ (.inr d) e2, c⟩, r⟩
  | own y => obtain ⟨ob, e⟩ := x; exact ⟨ob, k _ _ (.inl rfl) e⟩
  | xd fs => obtain ⟨mA, ⟨od, es, ep, e, c⟩, r⟩ := x; exact ⟨mA, ⟨od, es, ep, k _ _ (.inl rfl) e, c⟩, r⟩
  | rng lo hi => obtain ⟨t, u, v, e⟩ := x; exact ⟨t, u, v, k _ _ (.inl rfl) e⟩
  | frz ob u ih => obtain ⟨e, q⟩ := x; exact ⟨k _ _ (.inl rfl) e, ih q⟩
  | tbl ps =>
    have e : h.get? a = some { cls := .none, data := .fields ps } := x
    show h'.get? a = some { cls := .none, data := .fields ps }
    exact k a _ (.inl rfl) e
  | met f y =>
    have e : h.get? a = some (PySem.W.methodObj (.ref f) (.ref y)) := x
    show h'.get? a = some (PySem.W.methodObj (.ref f) (.ref y))
    exact k a _ (.inl rfl) e
  | ext φ => obtain ⟨p, ⟨o, e⟩, st⟩ := x; exact ⟨st _ _ p fun o q => k _ _ (.inl rfl) q, ⟨o, k _ _ (.inl rfl) e⟩, st⟩
theorem HOk.lt (x : HOk P w H h) (e : H a = some o) : a < h.objs.size := (x a o e).lt
theorem HOk.fresh (x : HOk P w H h) (e : h.objs.size ≤ a) : H a = none := by
  cases q : H a with
  | none => rfl
  | some u => exact absurd (Nat.lt_of_lt_of_le (x.lt q) e) (Nat.lt_irrefl _)
theorem HOk.kept (x : HOk P w H h) (k : ∀ b u, h.get? b = some u → h'.get? b = some u) : HOk P w H h' := fun a o e =>
  (x a o e).stay (fun b u _ q => k b u q) (fun _ q => q) fun _ _ q => q
theorem HOk.laid (x : HOk P w H h) (k : ∀ b u, h.get? b = some u → h'.get? b = some u) (hp : h.objs.size ≤ a) (new : ObjOk P w (upd H a o) h' a o) : HOk P w (upd H a o) h' := fun b u e => by
  have hn := x.fresh hp
  by_cases hb : b = a
  · subst hb; rw [upd_same] at e; cases e; exact new
  · rw [upd_ne hb] at e
    exact (x b u e).stay (fun c v _ q => k c v q) (fun c q => by rw [upd_ne (ne_of_none q hn)]; exact q) fun c xs q => by rw [upd_ne (ne_of_none q hn)]; exact q
end
def Rd (H : Hp) (a : Addr) (u : HO) : Prop := H a = some u ∨ ∃ o, H a = some (.frz o u)
theorem Rd.ok {P : Program} {w : World} {H : Hp} {h : Heap} {a : Addr} {u : HO} (r : Rd H a u) (x : HOk P w H h) : ObjOk P w H h a u := by
  rcases r with r | ⟨o, r⟩
  · exact x a u r
  · obtain ⟨_, q⟩ := x a _ r
    exact q
def Mut : Option HO → Prop
  | some (.lst _) => True
  | some (.dK _) => True
  | some (.dT _) => True
  | some (.set _ _) => True
  | some (.ins _ _ _) => True
  | some (.ext _) => True
  | _ => False
section
variable {P : Program} {w : World} {H : Hp} {h h' : Heap} {x e : Addr} {o' : HO}
theorem HOk.write (ok : HOk P w H h) (mu : Mut (H x)) (he : e = x ∨ H e = some (.own x)) (k : ∀ b u, b ≠ e → h.get? b = some u → h'.get? b = some u) (heo : ∃ u, h'.get? e = some u)
    (new : ObjOk P w (upd H x o') h' x o') : HOk P w (upd H x o') h' := fun b u q => by
  have nown : ∀ c y, H c = some (.own y) → c ≠ x := fun c y r z => by subst z; rw [r] at mu; exact mu
  have ntup : ∀ c xs, H c = some (.tup xs) → c ≠ x := fun c xs r z => by subst z; rw [r] at mu; exact mu
  by_cases hb : b = x
  · subst hb; rw [upd_same] at q; cases q; exact new
  · rw [upd_ne hb] at q
    by_cases hbe : b = e
    · have q' : H b = some (.own x) := by
        rcases he with z | z
        · exact absurd (hbe.trans z) hb
        · rw [hbe]; exact z
      rw [q] at q'; cases q'
      obtain ⟨v, hv⟩ := heo
      exact ⟨v, by rw [hbe]; exact hv⟩
    · refine (ok b u q).stay (fun c v hc r => k c v ?_ r) (fun c r => by rw [upd_ne (nown c b r)]; exact r) fun c xs r => by rw [upd_ne (ntup c xs r)]; exact r
      rcases hc with rfl | hc
      · exact hbe
      · rintro rfl
        rcases he with z | z
        · exact nown c b hc z
        · rw [hc] at z; cases z; exact hb rfl
end
structure Un (fs ex : List Addr) (H H' : Hp) (h h' : Heap) : Prop where
  keep : ∀ b o, h.get? b = some o → H b = none → b ∉ fs → b ∉ ex → h'.get? b = some o
  slot : ∀ b o, h.get? b = some o → H b = none → b ∈ fs → b ∉ ex → ∃ sl, h'.get? b = some { o with slots := sl }
  free : ∀ b o, h.get? b = some o → H b = none → b ∉ ex → H' b = none
  there : ∀ b o, h.get? b = some o → b ∉ ex → ∃ o', h'.get? b = some o'
  tups : ∀ b xs, H b = some (.tup xs) → H' b = some (.tup xs)
  frzs : ∀ b o u, H b = some (.frz o u) → H' b = some (.frz o u)
  tbls : ∀ b ps, H b = some (.tbl ps) → ∃ more, H' b = some (.tbl (ps ++ more))
section
variable {fs fs' ex ex' : List Addr} {H H1 H2 : Hp} {h h1 h2 h' : Heap} {a x e : Addr} {o : HO}
theorem Un.any (u : Un fs ex H H1 h h1) {b : Addr} {ob : Obj} (q : h.get? b = some ob) (n : H b = none) (hx : b ∉ ex) : ∃ sl, h1.get? b = some { ob with slots := sl } := by
  by_cases hb : b ∈ fs
  · exact u.slot b ob q n hb hx
  · exact ⟨ob.slots, u.keep b ob q n hb hx⟩
theorem Un.kept (k : ∀ b u, h.get? b = some u → h'.get? b = some u) : Un fs ex H H h h' :=
  ⟨fun b ob q _ _ _ => k b ob q, fun b ob q _ _ _ => ⟨ob.slots, k b ob q⟩, fun _ _ _ n _ => n, fun b ob q _ => ⟨ob, k b ob q⟩, fun _ _ q => q, fun _ _ _ q => q, fun _ ps q => ⟨#[], by rw [q]; simp⟩⟩
theorem Un.refl : Un fs ex H H h h := Un.kept fun _ _ q => q
theorem Un.laid (k : ∀ b u, h.get? b = some u → h'.get? b = some u) (hp : h.objs.size ≤ a) (hn : H a = none) : Un fs ex H (upd H a o) h h' where
  keep := fun b u q _ _ _ => k b u q
  slot := fun b u q _ _ _ => ⟨u.slots, k b u q⟩
  free := fun b u q n _ => by rw [upd_ne (Nat.ne_of_lt (Nat.lt_of_lt_of_le (Heap.lt_size q) hp))]; exact n
  there := fun b u q _ => ⟨u, k b u q⟩
  tups := fun b xs q => by rw [upd_ne (ne_of_none q hn)]; exact q
  frzs := fun b u xs q => by rw [upd_ne (ne_of_none q hn)]; exact q
  tbls := fun b ps q => ⟨#[], by rw [upd_ne (ne_of_none q hn), q]; simp⟩
theorem Un.write (mu : Mut (H x)) (he : e = x ∨ H e = some (.own x)) (k : ∀ b u, b ≠ e → h.get? b = some u → h'.get? b = some u) (heo : ∃ u, h'.get? e = some u) : Un fs ex H (upd H x o) h h' := by
  have hx : ∀ b, H b = none → b ≠ x := fun b n z => by subst z; rw [n] at mu; exact mu
  have hb : ∀ b, H b = none → b ≠ e := fun b n z => by
    subst z
    rcases he with r | r
    · exact hx b n r
    · rw [n] at r; cases r
  have hm : ∀ b u, H b = some u → ¬ Mut (some u) → b ≠ x := fun b u q nm z => by subst z; rw [q] at mu; exact nm mu
  refine ⟨fun b u q n _ _ => k b u (hb b n) q, fun b u q n _ _ => ⟨u.slots, k b u (hb b n) q⟩, fun b u q n _ => by rw [upd_ne (hx b n)]; exact n, fun b u q _ => ?_,
    fun b xs q => by rw [upd_ne (hm b _ q fun z => z)]; exact q, fun b u xs q => by rw [upd_ne (hm b _ q fun z => z)]; exact q, fun b ps q => ⟨#[], by rw [upd_ne (hm b _ q fun z => z), q]; simp⟩⟩
  by_cases hbe : b = e
  · subst hbe; exact heo
  · exact ⟨u, k b u hbe q⟩
end
def trk (h : Heap) (H : Hp) : List Addr := (List.range h.objs.size).filter fun a => (H a).isSome
def hidT (h : Heap) (H : Hp) : Heap := PySem.W.hideAll h (trk h H)
theorem hidT_size (h : Heap) (H : Hp) : (hidT h H).objs.size = h.objs.size := PySem.W.hideAll_size _ _
theorem hidT_get {h : Heap} {H : Hp} {b : Addr} {o : Obj} (e : h.get? b = some o) (n : H b = none) : (hidT h H).get? b = some o :=
  PySem.W.hideAll_get _ e fun hm => by
    have q : (H b).isSome = true := (List.mem_filter.mp hm).2
    rw [n] at q; simp at q
theorem of_hidT {h : Heap} {H : Hp} {b : Addr} {o : Obj} (e : (hidT h H).get? b = some o) : h.get? b = some o ∧ H b = none := by
  have e' : h.get? b = some o := PySem.W.of_hideAll (trk h H) e
  refine ⟨e', ?_⟩
  cases q : H b with
  | none => rfl
  | some x =>
    have hm : b ∈ trk h H := List.mem_filter.mpr ⟨List.mem_range.mpr (Heap.lt_size e'), by simp [q]⟩
    have z : (hidT h H).get? b = none := PySem.W.hideAll_none (trk h H) hm
    rw [z] at e; cases e
end L2
namespace L2
open PySem PySem.Spec PyProof.Rows
structure Mod (K : PySem.W.Frag) (mg : Str → Option Value) (base : Heap) : Prop where
  kin : K.In base
  glob : base.Ns mainGlobals mg
  blt : ∃ mb, base.Ns builtinsNs mb ∧ ∀ x : Str, x ≠ "__name__" → mb x = bootBuiltins x
  nolimit : base.NoLimit
structure Cx where
  prog : Program
  w : World
  K : PySem.W.Frag
  mg : Str → Option Value
  base : Heap
  A : Around
  N : List Str
  s₀ : Shared
  H₀ : Hp
  env : Env
  outer : List Env
  stack : List Env
  ex : List Addr
  fn : Str → Bool
  calm : Bool
  pn : List (Addr × Obj)
  xe : Value → Shared → Prop
def frs (l : List Env) : List Addr := l.filterMap (·.frame)
abbrev Cx.fs (X : Cx) : List Addr := frs X.outer
def Vis (sc : Scope) (x : Str) : Prop := sc.names.lookup x = some .local ∨ sc.names.lookup x = some .cell ∨ sc.names.lookup x = some .free
def Loc (sc : Scope) (x : Str) : Prop := sc.names.lookup x = some .local ∨ sc.names.lookup x = some .cell
def Look (env : Env) (h : Heap) (m : Str → Option Value) (x : Str) (u : Value) : Prop :=
  (env.kindOf x = some .local ∧ m x = some u) ∨ ((env.kindOf x = some .cell ∨ env.kindOf x = some .free) ∧ ∃ c, env.cells.lookup x = some c ∧ h.IsCell c (some u))
structure Cx.Ok (X : Cx) : Prop where
  mod : Mod X.K X.mg X.base
  kind : X.env.scope.kind = .function
  glob : X.env.globals = mainGlobals
  blt : X.env.builtins = builtinsNs
  above : X.s₀.heap.objs.size ≤ X.env.locals
  inj : ∀ x y c, X.env.cells.lookup x = some c → X.env.cells.lookup y = some c → x = y
  has : ∀ x, (X.env.kindOf x = some .cell ∨ X.env.kindOf x = some .free) → ∃ c, X.env.cells.lookup x = some c
  cab : ∀ x c, X.fn x = true → X.env.cells.lookup x = some c → X.s₀.heap.objs.size ≤ c
  hd : X.calm = true → X.A.handled = none
  frames : X.A.frames = some X.stack
  stk : X.stack = X.outer ∨ (X.stack = X.env :: X.outer ∧ X.env.frame = some X.env.locals)
  exf : ∀ b ∈ X.ex, b ≠ X.env.locals ∧ ∀ x c, X.env.cells.lookup x = some c → c ≠ b
  bs : ∀ b o, X.base.get? b = some o → X.s₀.heap.get? b = some o ∧ X.H₀ b = none
  bsz : X.base.objs.size ≤ X.s₀.heap.objs.size
  noex : ∀ b o, X.base.get? b = some o → b ∉ X.ex
  exfs : ∀ b ∈ X.ex, b ∉ X.fs
  funs : X.s₀.heap.FunFrames X.base X.outer
  frf : ∀ b ∈ X.fs, X.H₀ b = none
structure Inv (X : Cx) (pins : List (Addr × Obj)) (σ : List (Option V)) (H : Hp) (s : Shared) : Prop where
  ok : X.Ok
  os : s.os = X.s₀.os
  bare : AllBare s.gens
  base : Un X.fs X.ex X.H₀ H X.s₀.heap s.heap
  loc : ∃ m, s.heap.Ns X.env.locals m ∧ ∀ (i : Nat) (x : Str) (v : V), X.N[i]? = some x → σ[i]? = some (some v) → Vis X.env.scope x → ∃ u, RelV v u ∧ Look X.env s.heap m x u
  cell : ∀ x c, X.env.cells.lookup x = some c → ∃ v, s.heap.IsCell c v
  free : H X.env.locals = none
  freeC : ∀ x c, X.env.cells.lookup x = some c → H c = none
  pin : ∀ p ∈ X.pn ++ pins, s.heap.get? p.1 = some p.2 ∧ H p.1 = none ∧ p.1 ≠ X.env.locals ∧ p.1 ∉ X.fs ∧ ∀ v, p.2.data ≠ .cell v
  hok : HOk X.prog X.w H s.heap
  len : σ.length = X.N.length
section
variable {X : Cx} {pins : List (Addr × Obj)} {σ : List (Option V)} {H H' : Hp} {s : Shared} {h' : Heap}
theorem Cx.Ok.nofr (ok : X.Ok) {b : Addr} {o : Obj} (e : X.base.get? b = some o) : b ∉ X.fs := fun hb => by
  have := (ok.funs.mem hb).1
  rw [e] at this; cases this
theorem Inv.bs (I : Inv X pins σ H s) : ∀ b o, X.base.get? b = some o → s.heap.get? b = some o ∧ H b = none := fun b o e =>
  ⟨I.base.keep b o (I.ok.bs b o e).1 (I.ok.bs b o e).2 (I.ok.nofr e) (I.ok.noex b o e), I.base.free b o (I.ok.bs b o e).1 (I.ok.bs b o e).2 (I.ok.noex b o e)⟩
theorem Inv.bk (I : Inv X pins σ H s) : ∀ b o, X.base.get? b = some o → s.heap.get? b = some o := fun b o e => (I.bs b o e).1
theorem Inv.mod (I : Inv X pins σ H s) : Mod X.K X.mg X.base := I.ok.mod
theorem Inv.kIn (I : Inv X pins σ H s) : X.K.In s.heap := I.ok.mod.kin.keeps I.bk
theorem Inv.fr (I : Inv X pins σ H s) : ∃ m, Fr X.base X.env.locals s.heap m :=
  let ⟨m, hn, _⟩ := I.loc
  ⟨m, hn, I.bk, Nat.le_trans I.ok.bsz I.ok.above⟩
theorem Inv.lt (I : Inv X pins σ H s) : X.env.locals < s.heap.objs.size := let ⟨_, hn, _⟩ := I.loc; hn.lt
theorem Inv.sz (I : Inv X pins σ H s) : X.s₀.heap.objs.size ≤ s.heap.objs.size := Nat.le_trans I.ok.above (Nat.le_of_lt I.lt)
theorem Inv.nofs (I : Inv X pins σ H s) {a : Addr} (h : s.heap.objs.size ≤ a) : a ∉ X.fs := fun hb => by
  obtain ⟨_, o, ho, _⟩ := I.ok.funs.mem hb
  exact absurd (Nat.lt_of_lt_of_le (Heap.lt_size ho) (Nat.le_trans I.sz h)) (Nat.lt_irrefl _)
theorem Inv.cne (I : Inv X pins σ H s) : ∀ x c, X.env.cells.lookup x = some c → c ≠ X.env.locals := fun x c e z => by
  obtain ⟨v, o, ho, hd⟩ := I.cell x c e
  obtain ⟨m, ⟨o', es, ep, ho', hd', _⟩, _⟩ := I.loc
  rw [z, ho'] at ho; cases ho; rw [hd'] at hd; cases hd
theorem Inv.funs (I : Inv X pins σ H s) : s.heap.FunFrames X.base X.outer := by
  have all : ∀ (l : List Env), (∀ b ∈ frs l, b ∈ X.fs) → X.s₀.heap.FunFrames X.base l → s.heap.FunFrames X.base l := by
    intro l
    induction l with
    | nil => intro _ _; trivial
    | cons env r ih =>
      intro hs hl
      obtain ⟨hk, ⟨L, o, hf, hn, ho, hd⟩, hr⟩ := hl
      have hL : L ∈ X.fs := hs L (by unfold frs; rw [List.filterMap_cons, hf]; exact List.mem_cons_self)
      obtain ⟨sl, e⟩ := I.base.slot L o ho (I.ok.frf L hL) hL fun z => I.ok.exfs L z hL
      exact ⟨hk, ⟨L, _, hf, hn, e, hd⟩, ih (fun b hb => hs b (by unfold frs; rw [List.filterMap_cons, hf]; exact List.mem_cons_of_mem _ hb)) hr⟩
  exact all X.outer (fun _ hb => hb) I.ok.funs
theorem Inv.stack (I : Inv X pins σ H s) : s.heap.FunFrames X.base X.stack := by
  rcases I.ok.stk with e | ⟨e, hf⟩
  · rw [e]; exact I.funs
  · rw [e]
    obtain ⟨m, hn, _⟩ := I.loc
    refine .cons (by rw [I.ok.kind]; decide) hf hn ?_ I.funs
    exact Heap.get?_none_of_le (Nat.le_trans I.ok.bsz I.ok.above)
theorem Inv.stkSub (I : Inv X pins σ H s) : ∀ b ∈ frs X.stack, b ∈ X.env.locals :: X.fs := fun b hb => by
  rcases I.ok.stk with e | ⟨e, hf⟩
  · rw [e] at hb; exact List.mem_cons_of_mem _ hb
  · rw [e] at hb
    unfold frs at hb
    rw [List.filterMap_cons, hf] at hb
    exact hb
theorem Inv.stkFree (I : Inv X pins σ H s) : ∀ b ∈ frs X.stack, H b = none := fun b hb => by
  rcases List.mem_cons.mp (I.stkSub b hb) with e | hb
  · rw [e]; exact I.free
  · obtain ⟨_, o, ho, _⟩ := I.ok.funs.mem hb
    exact I.base.free b o ho (I.ok.frf b hb) fun z => I.ok.exfs b z hb
theorem Inv.step {g' : Array GenState} {t' : Nat} {d' : Drawn} {ch : List Addr} (I : Inv X pins σ H s)
    (hch : ∀ b ∈ ch, (b ∈ X.ex ∨ X.s₀.heap.objs.size ≤ b) ∧ b ≠ X.env.locals ∧ (∀ x c, X.env.cells.lookup x = some c → c ≠ b) ∧ ∀ p ∈ X.pn ++ pins, p.1 ≠ b)
    (keep : ∀ b o, b ≠ X.env.locals → b ∉ X.fs → b ∉ ch → s.heap.get? b = some o → H b = none → h'.get? b = some o)
    (slot : ∀ b o, b ≠ X.env.locals → b ∈ X.fs → b ∉ ch → s.heap.get? b = some o → H b = none → ∃ sl, h'.get? b = some { o with slots := sl }) (free : ∀ b o, b ∉ ch → s.heap.get? b = some o → H b = none → H' b = none)
    (there : ∀ b o, b ∉ ch → s.heap.get? b = some o → ∃ o', h'.get? b = some o')
    (tups : ∀ b xs, H b = some (.tup xs) → H' b = some (.tup xs)) (frzs : ∀ b o u, H b = some (.frz o u) → H' b = some (.frz o u)) (tbls : ∀ b ps, H b = some (.tbl ps) → ∃ more, H' b = some (.tbl (ps ++ more)))
    (ns : ∀ m, s.heap.Ns X.env.locals m → h'.Ns X.env.locals m) (hok : HOk X.prog X.w H' h') (hg : AllBare g') :
    Inv X pins σ H' { s with heap := h', gens := g', drawn := d', toks := t' } := by
  have neL : ∀ b o, X.s₀.heap.get? b = some o → b ≠ X.env.locals := fun b o e => Nat.ne_of_lt (Nat.lt_of_lt_of_le (Heap.lt_size e) I.ok.above)
  have neC : ∀ b o, X.s₀.heap.get? b = some o → b ∉ X.ex → b ∉ ch := fun b o e hx hb => by
    rcases (hch b hb).1 with z | z
    · exact hx z
    · exact absurd (Nat.lt_of_lt_of_le (Heap.lt_size e) z) (Nat.lt_irrefl _)
  have cellK : ∀ x c, X.env.cells.lookup x = some c → ∀ v, s.heap.IsCell c v → h'.IsCell c v := fun x c e v ⟨o, ho, hd⟩ => by
    have nch : c ∉ ch := fun z => (hch c z).2.2.1 x c e rfl
    by_cases hc : c ∈ X.fs
    · obtain ⟨sl, q⟩ := slot c o (I.cne x c e) hc nch ho (I.freeC x c e)
      exact ⟨_, q, hd⟩
    · exact ⟨o, keep c o (I.cne x c e) hc nch ho (I.freeC x c e), hd⟩
  refine ⟨I.ok, I.os, hg, ⟨fun b o e n hb hx => ?_, fun b o e n hb hx => ?_, fun b o e n hx => ?_, fun b o e hx => ?_, fun b xs e => tups b xs (I.base.tups b xs e), fun b o xs e => frzs b o xs (I.base.frzs b o xs e), fun b ps e => ?_⟩, ?_, fun x c e => ?_, ?_, fun x c e => ?_, fun p hp => ?_, hok, I.len⟩
  · exact keep b o (neL b o e) hb (neC b o e hx) (I.base.keep b o e n hb hx) (I.base.free b o e n hx)
  · obtain ⟨sl, e1⟩ := I.base.slot b o e n hb hx
    obtain ⟨sl', e2⟩ := slot b _ (neL b o e) hb (neC b o e hx) e1 (I.base.free b o e n hx)
    exact ⟨sl', e2⟩
  · obtain ⟨o', e1⟩ := I.base.there b o e hx
    exact free b o' (neC b o e hx) e1 (I.base.free b o e n hx)
  · obtain ⟨o', e1⟩ := I.base.there b o e hx
    exact there b o' (neC b o e hx) e1
  · obtain ⟨m1, e1⟩ := I.base.tbls b ps e
    obtain ⟨m2, e2⟩ := tbls b _ e1
    exact ⟨m1 ++ m2, by rw [e2, Array.append_assoc]⟩
  · obtain ⟨m, hn, hl⟩ := I.loc
    refine ⟨m, ns m hn, fun i x v e1 e2 e3 => ?_⟩
    obtain ⟨u, r, l⟩ := hl i x v e1 e2 e3
    refine ⟨u, r, ?_⟩
    rcases l with l | ⟨k, c, e, z⟩
    · exact .inl l
    · exact .inr ⟨k, c, e, cellK x c e _ z⟩
  · obtain ⟨v, z⟩ := I.cell x c e
    exact ⟨v, cellK x c e v z⟩
  · obtain ⟨m, ⟨o, _, _, ho, _⟩, _⟩ := I.loc
    exact free _ o (fun z => (hch _ z).2.1 rfl) ho I.free
  · obtain ⟨v, o, ho, hd⟩ := I.cell x c e
    exact free c o (fun z => (hch c z).2.2.1 x c e rfl) ho (I.freeC x c e)
  · obtain ⟨e, n, ne, nf, d⟩ := I.pin p hp
    have nch : p.1 ∉ ch := fun z => (hch p.1 z).2.2.2 p hp rfl
    exact ⟨keep p.1 p.2 ne nf nch e n, free p.1 p.2 nch e n, ne, nf, d⟩
theorem Inv.un {t' : Nat} (I : Inv X pins σ H s) (u : Un X.fs [] H H' s.heap h') (hok : HOk X.prog X.w H' h') : Inv X pins σ H' { s with heap := h', toks := t' } := by
  obtain ⟨m, ⟨o, es, ep, ho, r⟩, _⟩ := id I.loc
  obtain ⟨sl, hL⟩ := u.any ho I.free (by simp)
  exact I.step (g' := s.gens) (d' := s.drawn) (ch := []) (fun _ z => nomatch z) (fun b o _ hb _ e n => u.keep b o e n hb (by simp)) (fun b o _ hb _ e n => u.slot b o e n hb (by simp)) (fun b o _ e n => u.free b o e n (by simp)) (fun b o _ e => u.there b o e (by simp)) u.tups u.frzs u.tbls (fun m' hm => by
    obtain ⟨o', es', ep', ho', r'⟩ := hm
    rw [ho] at ho'; cases ho'
    exact ⟨_, es', ep', hL, r'⟩) hok I.bare
theorem Inv.call {g' : Array GenState} {t' : Nat} {d' : Drawn} {ch : List Addr} (I : Inv X pins σ H s) (u : Un (frs X.stack) ch H H' s.heap h') (hok : HOk X.prog X.w H' h') (hg : AllBare g')
    (hch : ∀ b ∈ ch, (b ∈ X.ex ∨ X.s₀.heap.objs.size ≤ b) ∧ b ≠ X.env.locals ∧ (∀ x c, X.env.cells.lookup x = some c → c ≠ b) ∧ ∀ p ∈ X.pn ++ pins, p.1 ≠ b) :
    Inv X pins σ H' { s with heap := h', gens := g', drawn := d', toks := t' } := by
  obtain ⟨m, ⟨o, es, ep, ho, r⟩, _⟩ := id I.loc
  obtain ⟨sl, hL⟩ := u.any ho I.free fun z => (hch _ z).2.1 rfl
  exact I.step (ch := ch) hch (fun b o hL hb hc e n => u.keep b o e n (fun z => (List.mem_cons.mp (I.stkSub b z)).elim hL hb) hc) (fun b o _ _ hc e n => u.any e n hc) (fun b o hc e n => u.free b o e n hc) (fun b o hc e => u.there b o e hc) u.tups u.frzs u.tbls (fun m' hm => by
    obtain ⟨o', es', ep', ho', r'⟩ := hm
    rw [ho] at ho'; cases ho'
    exact ⟨_, es', ep', hL, r'⟩) hok hg
theorem Inv.turned {t' : Nat} {it : Addr} (I : Inv X pins σ H s) (k : ∀ b o, b ≠ it → s.heap.get? b = some o → h'.get? b = some o) (hn : H it = none) (hL : it ≠ X.env.locals)
    (h1 : it ∈ X.ex ∨ X.s₀.heap.objs.size ≤ it) (h2 : ∀ x c, X.env.cells.lookup x = some c → c ≠ it) (h3 : ∀ p ∈ X.pn ++ pins, p.1 ≠ it) : Inv X pins σ H { s with heap := h', toks := t' } := by
  have nit : ∀ b u, H b = some u → b ≠ it := fun b u e z => by rw [z, hn] at e; cases e
  refine I.step (g' := s.gens) (d' := s.drawn) (ch := [it]) (fun b hb => ?_) (fun b o _ _ hc e _ => k b o (fun z => hc (by simp [z])) e) (fun b o _ _ hc e _ => ⟨o.slots, k b o (fun z => hc (by simp [z])) e⟩) (fun _ _ _ _ n => n)
    (fun b o hc e => ⟨o, k b o (fun z => hc (by simp [z])) e⟩) (fun _ _ e => e) (fun _ _ _ e => e) (fun b ps e => ⟨#[], by rw [e]; simp⟩) (fun m hm => ?_) (fun b u e => ?_) I.bare
  · have e : b = it := by simpa using hb
    subst e
    exact ⟨h1, hL, h2, h3⟩
  · obtain ⟨o, es, ep, ho, r⟩ := hm
    exact ⟨o, es, ep, k _ o (Ne.symm hL) ho, r⟩
  · refine (I.hok b u e).stay (fun c v hc q => k c v ?_ q) (fun _ q => q) fun _ _ q => q
    rcases hc with z | z
    · rw [z]; exact nit b u e
    · exact nit c _ z
theorem Inv.tok (I : Inv X pins σ H s) (t : Nat) : Inv X pins σ H { s with toks := t } := I.un (h' := s.heap) (t' := t) Un.refl I.hok
theorem Inv.kept {t' : Nat} (I : Inv X pins σ H s) (k : ∀ b u, s.heap.get? b = some u → h'.get? b = some u) : Inv X pins σ H { s with heap := h', toks := t' } := I.un (Un.kept k) (I.hok.kept k)
theorem Inv.laid {a : Addr} {o : HO} {t' : Nat} (I : Inv X pins σ H s) (k : ∀ b u, s.heap.get? b = some u → h'.get? b = some u) (hp : s.heap.objs.size ≤ a) (new : ObjOk X.prog X.w (upd H a o) h' a o) :
    Inv X pins σ (upd H a o) { s with heap := h', toks := t' } := I.un (Un.laid k hp (I.hok.fresh hp)) (I.hok.laid k hp new)
theorem Inv.write {x e : Addr} {o : HO} {t' : Nat} (I : Inv X pins σ H s) (mu : Mut (H x)) (he : e = x ∨ H e = some (.own x)) (k : ∀ b u, b ≠ e → s.heap.get? b = some u → h'.get? b = some u) (heo : ∃ u, h'.get? e = some u)
    (new : ObjOk X.prog X.w (upd H x o) h' x o) : Inv X pins σ (upd H x o) { s with heap := h', toks := t' } := I.un (Un.write mu he k heo) (I.hok.write mu he k heo new)
theorem Inv.weak {σ' : List (Option V)} (I : Inv X pins σ H s) (hl : σ'.length = σ.length) (w : ∀ (i : Nat) v, σ'[i]? = some (some v) → σ[i]? = some (some v)) : Inv X pins σ' H s :=
  ⟨I.ok, I.os, I.bare, I.base, let ⟨m, hn, hl'⟩ := I.loc; ⟨m, hn, fun i x v e1 e2 e3 => hl' i x v e1 (w i v e2) e3⟩, I.cell, I.free, I.freeC, I.pin, I.hok, hl.trans I.len⟩
theorem Inv.pins_of {pins' : List (Addr × Obj)} (I : Inv X pins σ H s) (h : ∀ p ∈ pins', s.heap.get? p.1 = some p.2 ∧ H p.1 = none ∧ p.1 ≠ X.env.locals ∧ p.1 ∉ X.fs ∧ ∀ v, p.2.data ≠ .cell v) : Inv X pins' σ H s :=
  ⟨I.ok, I.os, I.bare, I.base, I.loc, I.cell, I.free, I.freeC, fun p hp => (List.mem_append.mp hp).elim (fun z => I.pin p (List.mem_append_left _ z)) (h p), I.hok, I.len⟩
theorem nodup_ix {N : List Str} (hN : N.Nodup) {i j : Nat} {x : Str} (a : N[i]? = some x) (b : N[j]? = some x) : i = j := by
  obtain ⟨h1, e1⟩ := List.getElem?_eq_some_iff.mp a
  obtain ⟨h2, e2⟩ := List.getElem?_eq_some_iff.mp b
  exact (List.getElem_inj hN).mp (e1.trans e2.symm)
theorem store_ok2 {M : Model} {A : Around} {E : Value → Shared → Prop} {i : Nat} {x : Str} {v : V} {u : Value} {Q : Unit → Shared → Prop} (I : Inv X pins σ H s) (hN : X.N.Nodup) (hi : X.N[i]? = some x) (hx : Loc X.env.scope x) (r : RelV v u)
    (h : ∀ s', Inv X pins (σ.set i (some v)) H s' → (∃ a, Heap.SameBut a s.heap s'.heap ∧ (a = X.env.locals ∨ X.env.cells.lookup x = some a)) → Q () s') (hf : X.fn x = true ∨ X.env.scope.names.lookup x = some .local := by first | exact .inl rfl | exact .inr rfl | assumption) : wpAny M A (storeName X.env x u) Q E s := by
  obtain ⟨m, hn, hl⟩ := id I.loc
  have hcls : (X.env.scope.kind == .class || (X.env.scope.kind == .module && X.env.locals != X.env.globals)) = false := by rw [I.ok.kind]; rfl
  have hiσ : i < σ.length := by rw [I.len]; exact (List.getElem?_eq_some_iff.mp hi).1
  have cne := I.cne
  have tracked : ∀ {a : Addr} {h' : Heap}, (∃ o, s.heap.get? a = some o ∧ H a = none) → Heap.SameBut a s.heap h' → HOk X.prog X.w H h' := fun {a h'} ha hs b ob e => by
    obtain ⟨_, _, hfree⟩ := ha
    refine (I.hok b ob e).stay (fun c w' hc q => (hs.2 c ?_).trans q) (fun _ q => q) fun _ _ q => q
    rintro rfl
    rcases hc with rfl | hc
    · rw [hfree] at e; cases e
    · rw [hfree] at hc; cases hc
  rcases hx with hk | hk
  · refine wpAny_storeName_local hk hn (fun h' hn' hs => ?_) hcls
    obtain ⟨oL, _, _, hoL, _⟩ := id hn
    refine h _ ⟨I.ok, I.os, I.bare, ⟨fun b o e n hb hx => ?_, fun b o e n hb hx => ?_, I.base.free, fun b o e hx => ?_, I.base.tups, I.base.frzs, I.base.tbls⟩, ⟨_, hn', fun j y v' e1 e2 e3 => ?_⟩, fun y c e => ?_, I.free, I.freeC, fun p hp => ?_, tracked ⟨oL, hoL, I.free⟩ hs, by simpa using I.len⟩ ⟨_, hs, .inl rfl⟩
    · exact (hs.2 b (Nat.ne_of_lt (Nat.lt_of_lt_of_le (Heap.lt_size e) I.ok.above))).trans (I.base.keep b o e n hb hx)
    · obtain ⟨sl, e1⟩ := I.base.slot b o e n hb hx
      exact ⟨sl, (hs.2 b (Nat.ne_of_lt (Nat.lt_of_lt_of_le (Heap.lt_size e) I.ok.above))).trans e1⟩
    · obtain ⟨o', e1⟩ := I.base.there b o e hx
      exact ⟨o', (hs.2 b (Nat.ne_of_lt (Nat.lt_of_lt_of_le (Heap.lt_size e) I.ok.above))).trans e1⟩
    · by_cases hj : j = i
      · subst hj
        rw [hi] at e1; cases e1
        rw [List.getElem?_set_self hiσ] at e2
        cases e2
        exact ⟨u, r, .inl ⟨hk, by simp⟩⟩
      · rw [List.getElem?_set_ne (Ne.symm hj)] at e2
        obtain ⟨u', r', q⟩ := hl j y v' e1 e2 e3
        refine ⟨u', r', ?_⟩
        rcases q with ⟨k, e⟩ | ⟨k, c, e, z⟩
        · refine .inl ⟨k, ?_⟩
          have : y ≠ x := fun e => hj (nodup_ix hN e1 (e ▸ hi))
          simp [this, e]
        · exact .inr ⟨k, c, e, z.sameBut hs (cne y c e)⟩
    · obtain ⟨w', z⟩ := I.cell y c e
      exact ⟨w', z.sameBut hs (cne y c e)⟩
    · obtain ⟨e, n, ne, nf, d⟩ := I.pin p hp
      exact ⟨(hs.2 p.1 ne).trans e, n, ne, nf, d⟩
  · have hfn : X.fn x = true := by
      rcases hf with z | z
      · exact z
      · rw [z] at hk; cases hk
    obtain ⟨c, hc⟩ := I.ok.has x (.inl hk)
    obtain ⟨w', z⟩ := I.cell x c hc
    refine wpAny_storeName_cell I.ok.kind hk hc z (fun h' hc' hs => ?_)
    obtain ⟨oc, hoc, hocd⟩ := id z
    refine h { s with heap := h' } ⟨I.ok, I.os, I.bare, ⟨fun b o e n hb hx => ?_, fun b o e n hb hx => ?_, I.base.free, fun b o e hx => ?_, I.base.tups, I.base.frzs, I.base.tbls⟩, ⟨m, hn.sameBut hs (Ne.symm (cne x c hc)), fun j y v' e1 e2 e3 => ?_⟩, fun y c' e => ?_, I.free, I.freeC, fun p hp => ?_, tracked ⟨oc, hoc, I.freeC x c hc⟩ hs, by simpa using I.len⟩ ⟨c, hs, .inr hc⟩
    · exact (hs.2 b (Nat.ne_of_lt (Nat.lt_of_lt_of_le (Heap.lt_size e) (I.ok.cab x c hfn hc)))).trans (I.base.keep b o e n hb hx)
    · obtain ⟨sl, e1⟩ := I.base.slot b o e n hb hx
      exact ⟨sl, (hs.2 b (Nat.ne_of_lt (Nat.lt_of_lt_of_le (Heap.lt_size e) (I.ok.cab x c hfn hc)))).trans e1⟩
    · obtain ⟨o', e1⟩ := I.base.there b o e hx
      exact ⟨o', (hs.2 b (Nat.ne_of_lt (Nat.lt_of_lt_of_le (Heap.lt_size e) (I.ok.cab x c hfn hc)))).trans e1⟩
    · by_cases hj : j = i
      · subst hj
        rw [hi] at e1; cases e1
        rw [List.getElem?_set_self hiσ] at e2
        cases e2
        exact ⟨u, r, .inr ⟨.inl hk, c, hc, hc'⟩⟩
      · rw [List.getElem?_set_ne (Ne.symm hj)] at e2
        obtain ⟨u', r', q⟩ := hl j y v' e1 e2 e3
        refine ⟨u', r', ?_⟩
        rcases q with q | ⟨k, c', e, z'⟩
        · exact .inl q
        · refine .inr ⟨k, c', e, z'.sameBut hs ?_⟩
          rintro rfl
          exact hj (nodup_ix hN e1 (I.ok.inj _ _ _ e hc ▸ hi))
    · by_cases hcc : c' = c
      · subst hcc; exact ⟨_, hc'⟩
      · obtain ⟨w2, z2⟩ := I.cell y c' e
        exact ⟨w2, z2.sameBut hs hcc⟩
    · obtain ⟨e, n, ne, nf, d⟩ := I.pin p hp
      refine ⟨(hs.2 p.1 ?_).trans e, n, ne, nf, d⟩
      intro q
      rw [q, hoc] at e
      have q' : oc = p.2 := Option.some.inj e
      exact d w' (by rw [← q']; exact hocd)
theorem store_ok {M : Model} {A : Around} {E : Value → Shared → Prop} {i : Nat} {x : Str} {v : V} {u : Value} {Q : Unit → Shared → Prop} (I : Inv X pins σ H s) (hN : X.N.Nodup) (hi : X.N[i]? = some x) (hx : Loc X.env.scope x) (r : RelV v u)
    (h : ∀ s', Inv X pins (σ.set i (some v)) H s' → Q () s') (hf : X.fn x = true ∨ X.env.scope.names.lookup x = some .local := by first | exact .inl rfl | exact .inr rfl | assumption) : wpAny M A (storeName X.env x u) Q E s :=
  store_ok2 I hN hi hx r (fun s' I' _ => h s' I') hf
theorem Inv.call' {s' : Shared} {ch : List Addr} (I : Inv X pins σ H s) (ho : s'.os = s.os) (u : Un (frs X.stack) ch H H' s.heap s'.heap) (hok : HOk X.prog X.w H' s'.heap) (hg : AllBare s'.gens)
    (hch : ∀ b ∈ ch, (b ∈ X.ex ∨ X.s₀.heap.objs.size ≤ b) ∧ b ≠ X.env.locals ∧ (∀ x c, X.env.cells.lookup x = some c → c ≠ b) ∧ ∀ p ∈ X.pn ++ pins, p.1 ≠ b) : Inv X pins σ H' s' := by
  obtain ⟨h', g', d', t', o'⟩ := s'
  have e : o' = s.os := ho
  subst e
  exact I.call (g' := g') (t' := t') (d' := d') u hok hg hch
end
abbrev XK := Value → Option Addr → Hp → Prop
abbrev St := List (Option V)
abbrev VK := V → Hp → Prop
abbrev TE := St → Hp → VK → Prop
abbrev TT := St → Hp → (Bool → Hp → Prop) → Prop
abbrev TA := St → Hp → (List V → Hp → Prop) → Prop
structure Ends where
  nx : St → Hp → Prop
  rt : VK
  bk : St → Hp → Prop := fun _ _ => False
  ct : St → Hp → Prop := fun _ _ => False
abbrev TS := Ends → St → Hp → Prop
def EP (X : Cx) (pins : List (Addr × Obj)) (σ : St) (Q : VK) (u : Value) (s' : Shared) : Prop := ∃ v H', Inv X pins σ H' s' ∧ RelV v u ∧ Q v H'
def TP (X : Cx) (pins : List (Addr × Obj)) (σ : St) (Q : Bool → Hp → Prop) (b : Bool) (s' : Shared) : Prop := ∃ H', Inv X pins σ H' s' ∧ Q b H'
def AP (X : Cx) (pins : List (Addr × Obj)) (σ : St) (Q : List V → Hp → Prop) (us : List Value) (s' : Shared) : Prop := ∃ vs H', Inv X pins σ H' s' ∧ Vals vs us ∧ Q vs H'
def SP (X : Cx) (pins : List (Addr × Obj)) (D : Ends) (f : Flow) (s' : Shared) : Prop :=
  match f with
  | .next => ∃ σ' H', Inv X pins σ' H' s' ∧ D.nx σ' H'
  | .brk => ∃ σ' H', Inv X pins σ' H' s' ∧ D.bk σ' H'
  | .cont => ∃ σ' H', Inv X pins σ' H' s' ∧ D.ct σ' H'
  | .ret u => ∃ v σ' H', Inv X pins σ' H' s' ∧ RelV v u ∧ D.rt v H'
def PE (X : Cx) (e : Expr) (t : TE) : Prop :=
  ∀ (pins : List (Addr × Obj)) (s : Shared) (σ : St) (H : Hp) (Q : VK), Inv X pins σ H s → t σ H Q → wpAny (model X.prog X.w) X.A (eval e X.env) (EP X pins σ Q) X.xe s
def PT (X : Cx) (e : Expr) (t : TT) : Prop :=
  ∀ (pins : List (Addr × Obj)) (s : Shared) (σ : St) (H : Hp) (Q : Bool → Hp → Prop), Inv X pins σ H s → t σ H Q → wpAny (model X.prog X.w) X.A (isTrue e X.env (eval e X.env)) (TP X pins σ Q) X.xe s
def PW (X : Cx) (e : Expr) (t : TT) : Prop :=
  ∀ (whole : Sem Value) (pins : List (Addr × Obj)) (s : Shared) (σ : St) (H : Hp) (Q : Bool → Hp → Prop), Inv X pins σ H s → t σ H Q → wpAny (model X.prog X.w) X.A (isTrue e X.env whole) (TP X pins σ Q) X.xe s
theorem PW.pt {X : Cx} {e : Expr} {t : TT} (h : PW X e t) : PT X e t := h _
def PA (X : Cx) (es : List Expr) (t : TA) : Prop :=
  ∀ (pos : Pos) (pins : List (Addr × Obj)) (s : Shared) (σ : St) (H : Hp) (Q : List V → Hp → Prop), Inv X pins σ H s → t σ H Q → wpAny (model X.prog X.w) X.A (spliced (backTo pos (starEach es X.env))) (AP X pins σ Q) X.xe s
def PS (X : Cx) (st : Stmt) (t : TS) : Prop :=
  ∀ (pins : List (Addr × Obj)) (s : Shared) (σ : St) (H : Hp) (D : Ends), Inv X pins σ H s → t D σ H → wpAny (model X.prog X.w) X.A (exec st X.env) (SP X pins D) X.xe s
def PSs (X : Cx) (st : List Stmt) (t : TS) : Prop :=
  ∀ (pins : List (Addr × Obj)) (s : Shared) (σ : St) (H : Hp) (D : Ends), Inv X pins σ H s → t D σ H → wpAny (model X.prog X.w) X.A (execs st X.env) (SP X pins D) X.xe s
theorem thn {α : Type} {t : Sem α} {Q Q' : α → Shared → Prop} {M : Model} {A : Around} {E : Value → Shared → Prop} {s : Shared} (h : wpAny M A t Q E s) (hQ : ∀ a s, Q a s → Q' a s) : wpAny M A t Q' E s := wpAny_mono h hQ fun _ _ x => x
end L2
namespace L2
open PySem PySem.Spec PyProof.Rows
section
variable {X : Cx}
theorem bin {a b : Expr} {ta tb : TE} (ha : PE X a ta) (hb : PE X b tb) {pins : List (Addr × Obj)} {s : Shared} {σ : St} {H : Hp} {R : V → V → Hp → Prop} (I : Inv X pins σ H s) (h : ta σ H fun x H1 => tb σ H1 fun y H2 => R x y H2)
    {α : Type} {Q : α → Shared → Prop} {f : Value → Value → Sem α}
    (hf : ∀ v u s2 x y H2, Inv X pins σ H2 s2 → RelV x v → RelV y u → R x y H2 → wpAny (model X.prog X.w) X.A (f v u) Q X.xe s2) :
    wpAny (model X.prog X.w) X.A (eval a X.env) (fun v s₁ => wpAny (model X.prog X.w) X.A (eval b X.env) (fun u s₂ => wpAny (model X.prog X.w) X.A (f v u) Q X.xe s₂) X.xe s₁) X.xe s := by
  refine thn (ha pins s σ H _ I h) fun v s1 ⟨x, H1, I1, r1, q1⟩ => ?_
  refine thn (hb pins s1 σ H1 _ I1 q1) fun u s2 ⟨y, H2, I2, r2, q2⟩ => ?_
  exact hf v u s2 x y H2 I2 r1 r2 q2
def tVar (i : Nat) : TE := fun σ H Q => ∃ v, σ[i]? = some (some v) ∧ Q v H
def tC (v : V) : TE := fun _ H Q => Q v H
theorem pe_var {i : Nat} {x : Str} {pos : Pos} (hN : X.N[i]? = some x) (hv : Vis X.env.scope x) (hd : (x == ("__debug__" : Str)) = false := by decide) (hcd : (x == ("__classdict__" : Str)) = false := by decide) : PE X (.Name x pos) (tVar i) := by
  intro pins s σ H Q I h
  obtain ⟨v, e, h⟩ := h
  obtain ⟨m, hn, hl⟩ := I.loc
  obtain ⟨u, r, l⟩ := hl i x v hN e hv
  have fin : EP X pins σ Q u s := ⟨v, H, I, r, h⟩
  rcases l with ⟨hk, hm⟩ | ⟨hk, c, hc, hcell⟩
  · exact wpAny_Name (wpAny_loadName_local I.ok.kind hk hn hm fin) hd
  · rcases hk with hk | hk
    · exact wpAny_Name (wpAny_loadName_cell I.ok.kind hk hc hcell fin) hd
    · exact wpAny_Name (wpAny_loadName_free I.ok.kind hk hc hcell fin hcd) hd
theorem pe_int {i j pos} : PE X (.Constant (.int i) j pos) (tC (.int i)) := fun _ _ _ H _ I h => wpAny_Constant_int ⟨.int i, H, I.tok _, ⟨_, rfl⟩, h⟩
theorem pe_bl {b j pos} : PE X (.Constant (.bool b) j pos) (tC (.bl b)) := fun _ _ _ H _ I h => Constant_bool ⟨.bl b, H, I, rfl, h⟩
theorem pe_non {j pos} : PE X (.Constant .none j pos) (tC .non) := fun _ _ _ H _ I h => Constant_none ⟨.non, H, I, rfl, h⟩
def Gl (X : Cx) (x : Str) : Prop := X.env.kindOf x = some .globalImplicit
theorem ld_glob {E : Value → Shared → Prop} {pins : List (Addr × Obj)} {s : Shared} {σ : St} {H : Hp} {x : Str} {u : Value} {pos : Pos} {Q : Value → Shared → Prop} (I : Inv X pins σ H s) (hg : Gl X x) (hm : X.mg x = some u) (h : Q u s)
    (hd : (x == ("__debug__" : Str)) = false := by decide) : wpAny (model X.prog X.w) X.A (eval (.Name x pos) X.env) Q E s :=
  Calls.Name_function_global I.ok.kind hg (Calls.loadGlobal_global (by rw [I.ok.glob]; exact I.mod.glob.keeps I.bk) hm h) hd
theorem ld_blt {E : Value → Shared → Prop} {pins : List (Addr × Obj)} {s : Shared} {σ : St} {H : Hp} {x : Str} {u : Value} {pos : Pos} {Q : Value → Shared → Prop} (I : Inv X pins σ H s) (hg : Gl X x) (hm : X.mg x = none) (hv : bootBuiltins x = some u) (h : Q u s)
    (hn : x ≠ "__name__" := by decide) (hd : (x == ("__debug__" : Str)) = false := by decide) : wpAny (model X.prog X.w) X.A (eval (.Name x pos) X.env) Q E s := by
  obtain ⟨mb, h1, h2⟩ := I.mod.blt
  exact Calls.Name_function_global I.ok.kind hg (Calls.loadGlobal_builtin (by rw [I.ok.glob]; exact I.mod.glob.keeps I.bk) hm (by rw [I.ok.blt]; exact h1.keeps I.bk) ((h2 x hn).trans hv) h) hd
theorem pe_glob {x : Str} {v : V} {u : Value} {pos : Pos} (hg : Gl X x) (hm : X.mg x = some u) (r : RelV v u) (hd : (x == ("__debug__" : Str)) = false := by decide) : PE X (.Name x pos) (tC v) :=
  fun _ _ _ H _ I h => ld_glob I hg hm ⟨v, H, I, r, h⟩ hd
variable {a b : Expr} {ta tb : TE} {pos : Pos}
def PC (X : Cx) (op : CmpOp) (a b : Expr) (t : TE) : Prop :=
  ∀ (pins : List (Addr × Obj)) (s : Shared) (σ : St) (H : Hp) (Q : VK), Inv X pins σ H s → t σ H Q →
    wpAny (model X.prog X.w) X.A (eval a X.env) (fun v s₁ => wpAny (model X.prog X.w) X.A (eval b X.env) (fun u s₂ => wpAny (model X.prog X.w) X.A (compareOp op v u) (EP X pins σ Q) X.xe s₂) X.xe s₁) X.xe s
theorem nobehind (b : Expr) {op : CmpOp} (h : op ≠ .In) (h2 : op ≠ .NotIn) : behindInMarks op b = false := by
  have e1 : (op == CmpOp.In) = false := by cases op <;> first | rfl | exact absurd rfl h
  have e2 : (op == CmpOp.NotIn) = false := by cases op <;> first | rfl | exact absurd rfl h2
  cases b <;> simp [behindInMarks, e1, e2]
def tIsN (ta : TE) : TE := fun σ H Q => ta σ H fun x H1 => Q (.bl (decide (x = .non))) H1
def tNotN (ta : TE) : TE := fun σ H Q => ta σ H fun x H1 => Q (.bl (!decide (x = .non))) H1
theorem RelV.none_iff {x : V} {v : Value} (r : RelV x v) : (v == Value.none) = decide (x = .non) := by
  cases x with
  | non => cases r; rfl
  | bl _ => cases r; rfl
  | int _ => obtain ⟨t, rfl⟩ := r; rfl
  | str _ => obtain ⟨t, rfl⟩ := r; rfl
  | byt _ => obtain ⟨t, rfl⟩ := r; rfl
  | flt _ => obtain ⟨t, rfl⟩ := r; rfl
  | ref _ => cases r; rfl
  | ty _ => cases r; rfl
theorem pc_isN {j pos'} (ha : PE X a ta) : PC X .Is a (.Constant .none j pos') (tIsN ta) := by
  intro pins s σ H Q I h
  refine thn (ha pins s σ H _ I h) fun v s1 ⟨x, H1, I1, r1, q1⟩ => ?_
  exact Constant_none (is_none_gen ⟨.bl _, H1, I1, by rw [r1.none_iff]; rfl, q1⟩)
theorem pc_notN {j pos'} (ha : PE X a ta) : PC X .IsNot a (.Constant .none j pos') (tNotN ta) := by
  intro pins s σ H Q I h
  refine thn (ha pins s σ H _ I h) fun v s1 ⟨x, H1, I1, r1, q1⟩ => ?_
  exact Constant_none (isnot_none_gen ⟨.bl _, H1, I1, by rw [r1.none_iff]; rfl, q1⟩)
def tB (t : TE) : TT := fun σ H Q => t σ H fun x H1 => ∃ c, x = .bl c ∧ Q c H1
theorem pe_cmp {op : CmpOp} {t : TE} (h : PC X op a b t) (h1 : behindInMarks op b = false := by first | exact nobehind _ (by decide) (by decide) | rfl) : PE X (.Compare a [op] [b] pos) t := fun pins s σ H Q I hw => wpAny_Compare1 (h pins s σ H Q I hw) h1
theorem pt_cmp {op : CmpOp} {t : TE} (h : PC X op a b t) (h1 : behindInMarks op b = false := by first | exact nobehind _ (by decide) (by decide) | rfl) : PT X (.Compare a [op] [b] pos) (tB t) := by
  intro pins s σ H Q I hw
  refine wpAny_isTrue_Compare1 (thn (h pins s σ H _ I hw) fun v s1 h1 => thn h1 fun u s2 h2 => thn h2 fun c s3 ⟨x, H1, I1, r1, q1⟩ => ?_) h1
  obtain ⟨d, rfl, q⟩ := q1
  cases r1
  exact wpAny_truthy_bool ⟨H1, I1, q⟩
theorem pt_val {e : Expr} {t : TE} (h : PE X e t) (he : ∀ whole, isTrue e X.env whole = (do let v ← whole; standAt e.pos; holding [v] (truthy v)) := by intro _; rfl) : PT X e (tB t) := by
  intro pins s σ H Q I hw
  refine isTrue_plain (thn (h pins s σ H _ I hw) fun v s1 ⟨x, H1, I1, r1, q1⟩ => ?_) (he _)
  obtain ⟨d, rfl, q⟩ := q1
  cases r1
  exact wpAny_truthy_bool ⟨H1, I1, q⟩
variable {tA tB' : TT} {rest : List Expr}
def tOr (t u : TT) : TT := fun σ H Q => t σ H fun c H1 => if c = true then Q true H1 else u σ H1 Q
def tNot (t : TT) : TT := fun σ H Q => t σ H fun c H1 => Q (!c) H1
theorem pw_or1 (ha : PT X a tA) : PW X (.BoolOp .Or [a] pos) tA := by
  intro wh pins s σ H Q I h
  refine isTrue_or (thn (ha pins s σ H Q I h) fun c s1 e => ?_)
  cases c with
  | false => exact isTrue_or_nil e
  | true => exact e
theorem pw_or (ha : PT X a tA) (hb : PW X (.BoolOp .Or (b :: rest) pos) tB') : PW X (.BoolOp .Or (a :: b :: rest) pos) (tOr tA tB') := by
  intro wh pins s σ H Q I h
  refine isTrue_or (thn (ha pins s σ H _ I h) fun c s1 ⟨H1, I1, q1⟩ => ?_)
  cases c with
  | true => exact ⟨H1, I1, q1⟩
  | false => exact hb wh pins s1 σ H1 Q I1 q1
theorem pt_not (ha : PT X a tA) : PT X (.UnaryOp .Not a pos) (tNot tA) := by
  intro pins s σ H Q I h
  exact isTrue_not (ha pins s σ H (fun c H1 => Q (!c) H1) I h)
def tAndV (ta tb : TE) : TE := fun σ H Q => ta σ H fun x H1 => ∃ c, x = .bl c ∧ if c = true then tb σ H1 Q else Q (.bl false) H1
def tOrV (ta tb : TE) : TE := fun σ H Q => ta σ H fun x H1 => ∃ c, x = .bl c ∧ if c = true then Q (.bl true) H1 else tb σ H1 Q
theorem pe_one {op} {t : TE} (h : PE X a t) : PE X (.BoolOp op [a] pos) t := fun pins s σ H Q I hw => BoolOp_one (h pins s σ H Q I hw)
theorem pe_and (ha : PE X a ta) (hb : PE X (.BoolOp .And (b :: rest) pos) tb) : PE X (.BoolOp .And (a :: b :: rest) pos) (tAndV ta tb) := by
  intro pins s σ H Q I h
  refine BoolOp_and (thn (ha pins s σ H _ I h) fun v s1 ⟨x, H1, I1, r1, q1⟩ => ?_)
  obtain ⟨c, rfl, q1⟩ := q1
  cases r1
  refine wpAny_truthy_bool ?_
  cases c with
  | true => exact hb pins s1 σ H1 Q I1 q1
  | false => exact ⟨.bl false, H1, I1, rfl, q1⟩
theorem pe_or (ha : PE X a ta) (hb : PE X (.BoolOp .Or (b :: rest) pos) tb) : PE X (.BoolOp .Or (a :: b :: rest) pos) (tOrV ta tb) := by
  intro pins s σ H Q I h
  refine BoolOp_or (thn (ha pins s σ H _ I h) fun v s1 ⟨x, H1, I1, r1, q1⟩ => ?_)
  obtain ⟨c, rfl, q1⟩ := q1
  cases r1
  refine wpAny_truthy_bool ?_
  cases c with
  | false => exact hb pins s1 σ H1 Q I1 q1
  | true => exact ⟨.bl true, H1, I1, rfl, q1⟩
def tIf (t : TT) (ta tb : TE) : TE := fun σ H Q => t σ H fun c H1 => if c = true then ta σ H1 Q else tb σ H1 Q
theorem pe_ifExp {c : Expr} (hc : PT X c tA) (ha : PE X a ta) (hb : PE X b tb) : PE X (.IfExp c a b pos) (tIf tA ta tb) := by
  intro pins s σ H Q I h
  refine wpAny_IfExp (thn (hc pins s σ H _ I h) fun d s1 ⟨H1, I1, q1⟩ => ?_)
  cases d with
  | true => exact ha pins s1 σ H1 Q I1 q1
  | false => exact hb pins s1 σ H1 Q I1 q1
end
end L2
namespace L2
open PySem PySem.Spec PyProof.Rows
def SqL (K : PySem.W.Frag) (H : Hp) (a : Addr) (xs : List V) : Prop :=
  Rd H a (.lst xs) ∨
    ∃ (o : Obj) (its : Array Value) (n : Nat), K.lookup a = some o ∧ o.cls = .type "list" ∧ o.dict = none ∧ o.data = .seq its n ∧ its.size ≤ sizeLine ∧ Vals xs its.toList
def SqT (K : PySem.W.Frag) (H : Hp) (a : Addr) (xs : List V) : Prop :=
  Rd H a (.tup xs) ∨
    ∃ (o : Obj) (its : Array Value) (n : Nat), K.lookup a = some o ∧ o.cls = .type "tuple" ∧ o.data = .seq its n ∧ its.size ≤ sizeLine ∧ Vals xs its.toList
def absV : Value → Option V
  | .none => some .non
  | .bool b => some (.bl b)
  | .int i _ => some (.int i)
  | .str x _ => some (.str x)
  | .bytes b _ => some (.byt b)
  | .float b _ => some (.flt b)
  | .ref a => some (.ref a)
  | .type n => some (.ty n)
  | _ => none
theorem RelV.abs {x : V} {u : Value} (r : RelV x u) : absV u = some x := by
  cases x with
  | non => cases r; rfl
  | bl _ => cases r; rfl
  | int _ => obtain ⟨t, rfl⟩ := r; rfl
  | str _ => obtain ⟨t, rfl⟩ := r; rfl
  | byt _ => obtain ⟨t, rfl⟩ := r; rfl
  | flt _ => obtain ⟨t, rfl⟩ := r; rfl
  | ref _ => cases r; rfl
  | ty _ => cases r; rfl
theorem RelV.inj {x y : V} {u : Value} (r : RelV x u) (q : RelV y u) : x = y := Option.some.inj (r.abs.symm.trans q.abs)
theorem Vals.inj : ∀ {xs ys : List V} {us : List Value}, Vals xs us → Vals ys us → xs = ys
  | _, _, _, .nil, .nil => rfl
  | _, _, _, .cons r t, .cons r' t' => by rw [r.inj r', Vals.inj t t']
section
variable {X : Cx} {pins : List (Addr × Obj)} {σ : St} {H : Hp} {s : Shared} {a : Addr} {xs ys : List V}
theorem SqL.of {K : PySem.W.Frag} (h : H a = some (.lst xs)) : SqL K H a xs := .inl (.inl h)
theorem SqT.of {K : PySem.W.Frag} (h : H a = some (.tup xs)) : SqT K H a xs := .inl (.inl h)
theorem Inv.list (I : Inv X pins σ H s) (h : SqL X.K H a xs) : ∃ its : List Value, Vals xs its ∧ PlainL s.heap a its.toArray ∧ xs.length ≤ sizeLine := by
  rcases h with h | ⟨o, its, n, hk, hc, hd, hs, hz, r⟩
  · obtain ⟨z, its, n, r, e⟩ := h.ok I.hok
    exact ⟨its, r, ⟨_, n, e, rfl, rfl, rfl⟩, z⟩
  · refine ⟨its.toList, r, ⟨o, n, I.kIn a o hk, hc, hd, by simpa using hs⟩, ?_⟩
    have e := r.length
    simp only [Array.length_toList] at e
    omega
theorem Inv.tuple (I : Inv X pins σ H s) (h : SqT X.K H a xs) : ∃ its : List Value, Vals xs its ∧ IsTup s.heap a its.toArray ∧ xs.length ≤ sizeLine := by
  rcases h with h | ⟨o, its, n, hk, hc, hs, hz, r⟩
  · obtain ⟨z, its, r, p⟩ := h.ok I.hok
    exact ⟨its, r, p, z⟩
  · refine ⟨its.toList, r, ⟨o, I.kIn a o hk, hc, n, by simpa using hs⟩, ?_⟩
    have e := r.length
    simp only [Array.length_toList] at e
    omega
theorem Inv.list_inj (I : Inv X pins σ H s) (h : SqL X.K H a xs) (h' : SqL X.K H a ys) : xs = ys := by
  obtain ⟨its, r, ⟨o, n, e, _, _, d⟩, _⟩ := I.list h
  obtain ⟨its', r', ⟨o', n', e', _, _, d'⟩, _⟩ := I.list h'
  rw [e] at e'; cases e'
  rw [d] at d'
  injection d' with d1 _
  have : its = its' := by simpa using congrArg Array.toList d1
  subst this
  exact r.inj r'
theorem Inv.tuple_inj (I : Inv X pins σ H s) (h : SqT X.K H a xs) (h' : SqT X.K H a ys) : xs = ys := by
  obtain ⟨its, r, ⟨o, e, _, n, d⟩, _⟩ := I.tuple h
  obtain ⟨its', r', ⟨o', e', _, n', d'⟩, _⟩ := I.tuple h'
  rw [e] at e'; cases e'
  rw [d] at d'
  injection d' with d1 _
  have : its = its' := by simpa using congrArg Array.toList d1
  subst this
  exact r.inj r'
end
abbrev Cx.wish (X : Cx) (E : Value → Shared → Prop) : Cx := { X with xe := E }
abbrev Cx.nox (X : Cx) : Cx := X.wish fun _ _ => False
theorem Cx.Ok.wish {X : Cx} (ok : X.Ok) (E : Value → Shared → Prop) : (X.wish E).Ok :=
  ⟨ok.mod, ok.kind, ok.glob, ok.blt, ok.above, ok.inj, ok.has, ok.cab, ok.hd, ok.frames, ok.stk, ok.exf, ok.bs, ok.bsz, ok.noex, ok.exfs, ok.funs, ok.frf⟩
theorem Cx.Ok.unwish {X : Cx} {E : Value → Shared → Prop} (ok : (X.wish E).Ok) : X.Ok :=
  ⟨ok.mod, ok.kind, ok.glob, ok.blt, ok.above, ok.inj, ok.has, ok.cab, ok.hd, ok.frames, ok.stk, ok.exf, ok.bs, ok.bsz, ok.noex, ok.exfs, ok.funs, ok.frf⟩
section
variable {X : Cx} {pins : List (Addr × Obj)} {σ : St} {H : Hp} {s : Shared} {E : Value → Shared → Prop}
theorem Inv.wish (I : Inv X pins σ H s) (E : Value → Shared → Prop) : Inv (X.wish E) pins σ H s := ⟨I.ok.wish E, I.os, I.bare, I.base, I.loc, I.cell, I.free, I.freeC, I.pin, I.hok, I.len⟩
theorem Inv.unwish (I : Inv (X.wish E) pins σ H s) : Inv X pins σ H s := ⟨I.ok.unwish, I.os, I.bare, I.base, I.loc, I.cell, I.free, I.freeC, I.pin, I.hok, I.len⟩
theorem SP.unwish {D : Ends} {f : Flow} {s' : Shared} (h : SP (X.wish E) pins D f s') : SP X pins D f s' := by
  cases f with
  | next => obtain ⟨σ', H', I, q⟩ := h; exact ⟨σ', H', I.unwish, q⟩
  | brk => obtain ⟨σ', H', I, q⟩ := h; exact ⟨σ', H', I.unwish, q⟩
  | cont => obtain ⟨σ', H', I, q⟩ := h; exact ⟨σ', H', I.unwish, q⟩
  | ret u => obtain ⟨v, σ', H', I, r, q⟩ := h; exact ⟨v, σ', H', I.unwish, r, q⟩
theorem PSs.nox {st : List Stmt} {t : TS} (h : PSs X.nox st t) : PSs X st t := fun pins s σ H D I hw =>
  wpAny_mono (h pins s σ H D (I.wish _) hw) (fun _ _ q => q.unwish) fun _ _ z => False.elim z
end
section
variable {X : Cx} {st : Stmt} {rest : List Stmt} {t u : TS} {e : Expr} {te : TE} {pos : Pos}
def tNext : TS := fun D σ H => D.nx σ H
def tSeq (t u : TS) : TS := fun D σ H => t { D with nx := u D } σ H
theorem pss_nil : PSs X [] tNext := fun _ _ σ H _ I h => wpAny_execs_nil ⟨σ, H, I, h⟩
theorem pss_cons (h1 : PS X st t) (h2 : PSs X rest u) : PSs X (st :: rest) (tSeq t u) := by
  intro pins s σ H D I h
  refine wpAny_execs_cons (thn (h1 pins s σ H { D with nx := u D } I h) fun f s1 q => ?_)
  cases f with
  | next =>
    obtain ⟨σ', H', I', q⟩ := q
    exact h2 pins s1 σ' H' D I' q
  | ret v => exact q
  | brk => exact q
  | cont => exact q
theorem pss_one (h1 : PS X st t) : PSs X [st] t := by
  intro pins s σ H D I h
  refine wpAny_execs_cons (thn (h1 pins s σ H D I h) fun f s1 q => ?_)
  cases f with
  | next => exact wpAny_execs_nil q
  | ret v => exact q
  | brk => exact q
  | cont => exact q
theorem Inv.quiet {pins : List (Addr × Obj)} {σ : St} {H : Hp} {s : Shared} (I : Inv X pins σ H s) : interactive X.env = false := by simp [interactive, I.ok.kind]
def tDrop (te : TE) : TS := fun D σ H => te σ H fun _ H1 => D.nx σ H1
theorem ps_expr (he : PE X e te) (hs : swapsWith e none pos.line X.env = pure false := by rfl) : PS X (.Expr e pos) (tDrop te) := by
  intro pins s σ H D I h
  exact wpAny_Expr_any (thn (he pins s σ H _ I h) fun v s1 ⟨x, H1, I1, r1, q1⟩ => ⟨σ, H1, I1, q1⟩) I.quiet hs
def tRet (te : TE) : TS := fun D σ H => te σ H D.rt
theorem ps_ret (he : PE X e te) : PS X (.Return (some e) pos) (tRet te) := by
  intro pins s σ H D I h
  exact wpAny_Return_some (thn (he pins s σ H _ I h) fun v s1 ⟨x, H1, I1, r1, q1⟩ => ⟨x, σ, H1, I1, r1, q1⟩)
def tIfS (c : TT) (t u : TS) : TS := fun D σ H => c σ H fun b H1 => if b = true then t D σ H1 else u D σ H1
theorem ps_if {c : Expr} {a b : List Stmt} {tc : TT} (hc : PT X c tc) (ha : PSs X a t) (hb : PSs X b u) : PS X (.If c a b pos) (tIfS tc t u) := by
  intro pins s σ H D I h
  refine wpAny_If (thn (hc pins s σ H _ I h) fun d s1 ⟨H1, I1, q1⟩ => ?_)
  cases d with
  | true => exact ha pins s1 σ H1 D I1 q1
  | false => exact hb pins s1 σ H1 D I1 q1
end
abbrev TG := V → St → Hp → (St → Hp → Prop) → Prop
abbrev TGs := List V → St → Hp → (St → Hp → Prop) → Prop
def PG (X : Cx) (target : Expr) (t : TG) : Prop :=
  ∀ (pins : List (Addr × Obj)) (s : Shared) (σ : St) (H : Hp) (v : V) (u : Value) (Q : St → Hp → Prop), Inv X pins σ H s → RelV v u → t v σ H Q →
    wpAny (model X.prog X.w) X.A (assign target X.env u) (fun _ s' => ∃ σ' H', Inv X pins σ' H' s' ∧ Q σ' H') X.xe s
def PGs (X : Cx) (ts : List Expr) (t : TGs) : Prop :=
  ∀ (pins : List (Addr × Obj)) (s : Shared) (σ : St) (H : Hp) (vs : List V) (us : List Value) (Q : St → Hp → Prop), Inv X pins σ H s → Vals vs us → t vs σ H Q →
    wpAny (model X.prog X.w) X.A (assignInOrder ((assignEach ts X.env).map (·.2)) us) (fun _ s' => ∃ σ' H', Inv X pins σ' H' s' ∧ Q σ' H') X.xe s
abbrev TSet := V → V → V → Hp → (Hp → Prop) → Prop
def PSet (X : Cx) (t : TSet) : Prop :=
  ∀ (pins : List (Addr × Obj)) (s : Shared) (σ : St) (H : Hp) (o i v : V) (ov iv u : Value) (Q : Hp → Prop), Inv X pins σ H s → RelV o ov → RelV i iv → RelV v u → t o i v H Q →
    wpAny (model X.prog X.w) X.A (setItem ov iv u) (fun _ s' => ∃ H', Inv X pins σ H' s' ∧ Q H') X.xe s
section
variable {X : Cx} {pos : Pos}
def gName (i : Nat) : TG := fun v σ H Q => Q (σ.set i (some v)) H
theorem pg_name {i : Nat} {x : Str} (hN : X.N.Nodup) (hi : X.N[i]? = some x) (hx : Loc X.env.scope x) (hf : X.fn x = true ∨ X.env.scope.names.lookup x = some .local := by first | exact .inl rfl | exact .inr rfl | assumption) : PG X (.Name x pos) (gName i) := by
  intro pins s σ H v u Q I r h
  exact wpAny_assign_Name (store_ok I hN hi hx r (fun s' I' => ⟨_, H, I', h⟩) hf)
def gNil : TGs := fun vs σ H Q => vs = [] ∧ Q σ H
def gCons (t : TG) (u : TGs) : TGs := fun vs σ H Q => ∃ v r, vs = v :: r ∧ t v σ H fun σ' H' => u r σ' H' Q
theorem pgs_nil : PGs X [] gNil := by
  intro pins s σ H vs us Q I r h
  obtain ⟨e, h⟩ := h
  subst e
  cases r
  exact assignInOrder_nil ⟨σ, H, I, h⟩
theorem pgs_cons {e : Expr} {es : List Expr} {t : TG} {u : TGs} (h1 : PG X e t) (h2 : PGs X es u)
    (hs : (assignEach (e :: es) X.env).map (·.2) = assign e X.env :: (assignEach es X.env).map (·.2) := by rfl) : PGs X (e :: es) (gCons t u) := by
  intro pins s σ H vs us Q I r h
  obtain ⟨v, vr, e1, h⟩ := h
  subst e1
  cases r with
  | cons r rr =>
    rw [hs]
    refine assignInOrder_cons (thn (h1 pins s σ H _ _ _ I r h) fun _ s1 ⟨σ1, H1, I1, q1⟩ => ?_)
    exact h2 pins s1 σ1 H1 _ _ Q I1 rr q1
def gTup (K : PySem.W.Frag) (n : Nat) (t : TGs) : TG := fun v σ H Q => ∃ a xs, v = .ref a ∧ SqT K H a xs ∧ xs.length = n ∧ t xs σ H Q
theorem pg_tup {es : List Expr} {k : Nat} {t : TGs} {n : Nat} (hc : X.calm = true) (h : PGs X es t)
    (hn : (assignEach es X.env).length = n := by rfl) (hst : (assignEach es X.env).findIdx? (·.1) = none := by rfl) : PG X (.Tuple es k pos) (gTup X.K n t) := by
  intro pins s σ H v u Q I r hw
  obtain ⟨a, xs, e1, hq, hl, hw⟩ := hw
  subst e1
  cases r
  obtain ⟨its, rv, ht, hz⟩ := I.tuple hq
  refine assign_Tuple_tuple (I.ok.hd hc) ht (by simp [hn, ← hl, rv.length]) hst fun h' hx => ?_
  have I1 : Inv X pins σ H { s with heap := h' } := I.kept (t' := s.toks) fun b o e => hx b o (Nat.ne_of_lt (Heap.lt_size e)) e
  exact h pins _ σ H xs _ Q I1 (by simpa using rv) hw
def gSub (to ti : TE) (t : TSet) : TG := fun v σ H Q => to σ H fun o H1 => ti σ H1 fun i H2 => t o i v H2 fun H3 => Q σ H3
theorem pg_sub {o i : Expr} {to ti : TE} {t : TSet} (ho : PE X o to) (hi : PE X i ti) (hs : PSet X t)
    (ha : ∀ v, assign (.Subscript o i pos) X.env v = (do
      let ov ← holding [v] (eval o X.env)
      let iv ← holding [v, ov] (eval i X.env)
      standAt pos
      holding [v, ov, iv] (setItem ov iv v)
      release [v, ov, iv] []) := by intro _; rfl) : PG X (.Subscript o i pos) (gSub to ti t) := by
  intro pins s σ H v u Q I r h
  rw [ha]
  refine wpAny_bind (wpAny_holding (thn (ho pins s σ H _ I h) fun ov s1 ⟨x, H1, I1, r1, q1⟩ => ?_))
  refine wpAny_bind (wpAny_holding (thn (hi pins s1 σ H1 _ I1 q1) fun iv s2 ⟨y, H2, I2, r2, q2⟩ => ?_))
  refine wpAny_bind (wpAny_standAt (wpAny_bind (wpAny_holding (thn (hs pins s2 σ H2 x y v ov iv u _ I2 r1 r2 r q2) fun _ s3 ⟨H3, I3, q3⟩ => ?_))))
  exact wpAny_release ⟨σ, H3, I3, q3⟩
def tAsg (te : TE) (g : TG) : TS := fun D σ H => te σ H fun x H1 => g x σ H1 D.nx
theorem ps_asg {tg e : Expr} {te : TE} {g : TG} (he : PE X e te) (hg : PG X tg g) (hs : swapsWithSole [tg] e pos.line X.env = pure false := by rfl) (hw : swappedStores [tg] e X.env = pure none := by rfl)
    (h1 : (assignEach [tg] X.env).map (·.2) = [assign tg X.env] := by rfl) : PS X (.Assign [tg] e pos) (tAsg te g) := by
  intro pins s σ H D I h
  refine wpAny_Assign_stores (thn (he pins s σ H _ I h) fun v s1 ⟨x, H1, I1, r1, q1⟩ => ?_) hs hw
  rw [h1]
  exact thn (hg pins s1 σ H1 x v _ I1 r1 q1) fun _ s2 q => q
theorem ps_set {i : Nat} {x : Str} {e : Expr} {te : TE} {pos' : Pos} (hN : X.N.Nodup) (hi : X.N[i]? = some x) (hx : Loc X.env.scope x) (he : PE X e te) (hs : swapsWith e (some (.Name x pos')) pos.line X.env = pure false := by rfl) (hf : X.fn x = true ∨ X.env.scope.names.lookup x = some .local := by first | exact .inl rfl | exact .inr rfl | assumption) :
    PS X (.Assign [.Name x pos'] e pos) (tAsg te (gName i)) := by
  intro pins s σ H D I h
  refine wpAny_Assign_Name (thn (he pins s σ H _ I h) fun v s1 ⟨y, H1, I1, r1, q1⟩ => ?_) hs
  exact store_ok I1 hN hi hx r1 (fun s2 I2 => ⟨_, H1, I2, q1⟩) hf
end
section
variable {X : Cx} {pos : Pos}
def tWhile (c : TT) (tb : TS) : TS := fun D σ H => ∃ W : Nat → St → Hp → Prop, (∃ m, W m σ H) ∧ ∀ m σ H, W m σ H →
  c σ H fun b H1 => if b = true then ∃ N : St → Hp → Prop, (∀ σ' H', N σ' H' → ∃ m', m' < m ∧ W m' σ' H') ∧ tb { D with nx := N, ct := N, bk := D.nx } σ H1 else D.nx σ H1
theorem ps_while {c : Expr} {body : List Stmt} {tc : TT} {tb : TS} (hp : PassesOwn (model X.prog X.w) X.A X.env X.xe) (hc : PT X c tc) (hb : PSs X body tb) : PS X (.While c body [] pos) (tWhile tc tb) := by
  intro pins s σ H D I h
  obtain ⟨W, ⟨m0, w0⟩, turn⟩ := h
  refine wpAny_While (codeAny_whileLoop (fun n s' => ∃ σ' H', Inv X pins σ' H' s' ∧ W n σ' H') ?_ m0 ⟨σ, H, I, w0⟩)
  rintro n s1 ⟨σ1, H1, I1, w1⟩
  refine wpAny_passesOwn hp (thn (hc pins s1 σ1 H1 _ I1 (turn n σ1 H1 w1)) fun b s2 ⟨H2, I2, q2⟩ => ?_)
  cases b with
  | true =>
    obtain ⟨N, hN, q2⟩ := q2
    rw [if_pos rfl]
    refine wpAny_passesOwn hp (thn (hb pins s2 σ1 H2 _ I2 q2) fun f s3 q3 => ?_)
    cases f with
    | next =>
      obtain ⟨σ3, H3, I3, n3⟩ := q3
      obtain ⟨m', hm, w3⟩ := hN σ3 H3 n3
      exact ⟨m', hm, σ3, H3, I3, w3⟩
    | cont =>
      obtain ⟨σ3, H3, I3, n3⟩ := q3
      obtain ⟨m', hm, w3⟩ := hN σ3 H3 n3
      exact ⟨m', hm, σ3, H3, I3, w3⟩
    | brk => exact q3
    | ret v => exact q3
  | false =>
    rw [if_neg Bool.false_ne_true]
    exact wpAny_execs_nil ⟨σ1, H2, I2, q2⟩
end
structure It where
  go : Nat → Hp → Prop
  yld : Nat → Hp → V → Hp → Prop
  stop : Nat → Hp → Prop
def FpOk (X : Cx) (pins : List (Addr × Obj)) (H : Hp) (b : Addr) : Prop :=
  H b = none ∧ b ≠ X.env.locals ∧ b ∉ X.fs ∧ (b ∈ X.ex ∨ X.s₀.heap.objs.size ≤ b) ∧ (∀ x c, X.env.cells.lookup x = some c → c ≠ b) ∧ ∀ p ∈ X.pn ++ pins, p.1 ≠ b
theorem Inv.fpOk {X : Cx} {pins : List (Addr × Obj)} {σ : St} {H H' : Hp} {s : Shared} {b : Addr} (I : Inv X pins σ H s) (hb : s.heap.objs.size ≤ b) (hn : H' b = none) : FpOk X pins H' b := by
  refine ⟨hn, Nat.ne_of_gt (Nat.lt_of_lt_of_le I.lt hb), I.nofs hb, .inr (Nat.le_trans I.sz hb), fun x c e z => ?_, fun p hp z => ?_⟩
  · obtain ⟨v, q⟩ := I.cell x c e
    exact absurd (Nat.lt_of_lt_of_le q.lt (by rw [z]; exact hb)) (Nat.lt_irrefl _)
  · exact absurd (Nat.lt_of_lt_of_le (Heap.lt_size (I.pin p hp).1) (by rw [z]; exact hb)) (Nat.lt_irrefl _)
structure Turn (P : Program) (w : World) (K : PySem.W.Frag) (tg : Expr) (J : It) (fp : List Addr) (it : Addr) (tn : Nat → Heap → Prop) : Prop where
  mem : it ∈ fp
  obj : ∀ i h, tn i h → ∀ b ∈ fp, ∃ o, h.get? b = some o ∧ ∀ v, o.data ≠ .cell v
  keep : ∀ i h h', tn i h → (∀ b ∈ fp, ∀ o, h.get? b = some o → h'.get? b = some o) → tn i h'
  item : ∀ (X : Cx), X.prog = P → X.w = w → X.K = K → X.calm = true → ∀ (i : Nat) (pins : List (Addr × Obj)) (s : Shared) (σ : St) (H : Hp) (E : Value → Shared → Prop), Inv X pins σ H s → (∀ b ∈ fp, FpOk X pins H b) → tn i s.heap → J.go i H →
    wpAny (model P w) X.A (pyNext (.ref it)) (fun r s1 => ∃ u, r = some u ∧
      wpAny (model P w) X.A (letOwnedTupleGo tg (.ref it) u) (fun _ s2 => ∃ x H', Inv X pins σ H' s2 ∧ RelV x u ∧ J.yld i H x H' ∧ tn (i + 1) s2.heap ∧ ∀ b ∈ fp, H' b = none) E s1) E s
  done : ∀ (X : Cx), X.prog = P → X.w = w → X.K = K → X.calm = true → ∀ (i : Nat) (pins : List (Addr × Obj)) (s : Shared) (σ : St) (H : Hp) (E : Value → Shared → Prop), Inv X pins σ H s → (∀ b ∈ fp, FpOk X pins H b) → tn i s.heap → J.stop i H →
    wpAny (model P w) X.A (pyNext (.ref it)) (fun r s1 => r = none ∧ Inv X pins σ H s1) E s
  self : ∀ (A : Around) (i : Nat) (s : Shared) (Q : Value → Shared → Prop) (E : Value → Shared → Prop), tn i s.heap → Q (.ref it) s → wpAny (model P w) A (pyIter (.ref it)) Q E s
abbrev TI := St → Hp → (It → Hp → Prop) → Prop
def PIE (X : Cx) (pins : List (Addr × Obj)) (σ : St) (tg : Expr) (R : It → Hp → Prop) (itv : Value) (s2 : Shared) : Prop :=
  ∃ (it : Addr) (fp : List Addr) (tn : Nat → Heap → Prop) (J : It) (H' : Hp), itv = .ref it ∧ Inv X pins σ H' s2 ∧ Turn X.prog X.w X.K tg J fp it tn ∧ tn 0 s2.heap ∧ (∀ b ∈ fp, FpOk X pins H' b) ∧ R J H'
def PI (X : Cx) (tg iter : Expr) (wi : TI) : Prop :=
  ∀ (pins : List (Addr × Obj)) (s : Shared) (σ : St) (H : Hp) (R : It → Hp → Prop), Inv X pins σ H s → wi σ H R →
    wpAny (model X.prog X.w) X.A (eval iter X.env) (fun v s1 => wpAny (model X.prog X.w) X.A (pyIter v) (PIE X pins σ tg R) X.xe s1) X.xe s
theorem go_of {M : Model} {A : Around} {E : Value → Shared → Prop} {s : Shared} {tg : Expr} {it : Addr} {u : Value} {o : Obj} {n : String} {vs : Array Value} {Q : Unit → Shared → Prop} (ho : s.heap.get? it = some o) (hc : o.cls = .type n) (hd : o.data = .fields vs)
    (hn : ["enumerate", "zip", "dict_itemiterator", "dict_reverseitemiterator", "odict_iterator", "itertools.zip_longest", "itertools.pairwise"].contains n = false) (hQ : Q () s) : wpAny M A (letOwnedTupleGo tg (.ref it) u) Q E s := by
  unfold letOwnedTupleGo
  cases tg <;> first
    | exact wpAny_pure hQ
    | (cases u <;> first
        | exact wpAny_pure hQ
        | (refine wpAny_bind (wpAny_load ho ?_)
           rw [hc, hd]
           show wpAny M A (if (["enumerate", "zip", "dict_itemiterator", "dict_reverseitemiterator", "odict_iterator", "itertools.zip_longest", "itertools.pairwise"].contains n && vs[0]? == some (rawInt _)) = true then _ else _) Q E s
           rw [if_neg (by intro h; rw [hn, Bool.false_and] at h; cases h)]
           exact wpAny_pure hQ))
def Itl (K : PySem.W.Frag) (a : Addr) : It :=
  ⟨fun i H => ∃ xs x, SqL K H a xs ∧ xs[i]? = some x, fun i H x H' => H' = H ∧ ∀ xs, SqL K H a xs → xs[i]? = some x, fun i H => ∃ xs, SqL K H a xs ∧ xs.length ≤ i⟩
def Itt (K : PySem.W.Frag) (a : Addr) : It :=
  ⟨fun i H => ∃ xs x, SqT K H a xs ∧ xs[i]? = some x, fun i H x H' => H' = H ∧ ∀ xs, SqT K H a xs → xs[i]? = some x, fun i H => ∃ xs, SqT K H a xs ∧ xs.length ≤ i⟩
def Itr (lo : Int) (n : Nat) : It := ⟨fun i _ => i < n, fun i H x H' => H' = H ∧ x = .int (lo + i), fun i _ => n ≤ i⟩
theorem turn_list {P : Program} {w : World} {K : PySem.W.Frag} {tg : Expr} (a it : Addr) : Turn P w K tg (Itl K a) [it] it (fun i h => h.IsListIter it a i) where
  mem := by simp
  obj := fun i h st b hb => by
    have e : b = it := by simpa using hb
    subst e
    obtain ⟨o, e, c, d⟩ := st
    exact ⟨o, e, fun v z => by rw [d] at z; cases z⟩
  keep := fun i h h' st k => st.at fun o e => k it (by simp) o e
  item := by
    intro X hP hw hK hc i pins s σ H E I hf st hg
    subst hP hw hK
    obtain ⟨xs, x, hq, hx⟩ := hg
    obtain ⟨its, rv, p, hz⟩ := I.list hq
    obtain ⟨u, hu, ru⟩ := rv.get hx
    obtain ⟨f0, f1, f2, f3, f4, f5⟩ := hf it (by simp)
    refine wpAny_pyNext_list_item st p.isList (x := u) (by simpa using hu) fun h' st' sb => ?_
    have I1 : Inv X pins σ H { s with heap := h' } := I.turned (t' := s.toks) (fun b o hb e => (sb.2 b hb).trans e) f0 f1 f3 f4 f5
    obtain ⟨o, e, c, d⟩ := id st'
    exact ⟨u, rfl, go_of (s := { s with heap := h' }) e c d (by decide) ⟨x, H, I1, ru, ⟨rfl, fun ys hy => by rw [I.list_inj hy hq]; exact hx⟩, st', fun b hb => (hf b hb).1⟩⟩
  done := by
    intro X hP hw hK hc i pins s σ H E I hf st hg
    subst hP hw hK
    obtain ⟨xs, hq, hx⟩ := hg
    obtain ⟨its, rv, p, hz⟩ := I.list hq
    obtain ⟨f0, f1, f2, f3, f4, f5⟩ := hf it (by simp)
    have hl := rv.length
    exact wpAny_pyNext_list_end (I.ok.hd hc) st p.isList (by simp; omega) fun h' eb => ⟨rfl, I.turned (t' := s.toks) (fun b o hb e => eb b o hb e) f0 f1 f3 f4 f5⟩
  self := fun _ _ _ _ _ st h => wpAny_pyIter_listiter st h
theorem turn_tuple {P : Program} {w : World} {K : PySem.W.Frag} {tg : Expr} (a it : Addr) : Turn P w K tg (Itt K a) [it] it (fun i h => h.IsTupleIter it a i) where
  mem := by simp
  obj := fun i h st b hb => by
    have e : b = it := by simpa using hb
    subst e
    obtain ⟨o, e, c, d⟩ := st
    exact ⟨o, e, fun v z => by rw [d] at z; cases z⟩
  keep := fun i h h' st k => st.at fun o e => k it (by simp) o e
  item := by
    intro X hP hw hK hc i pins s σ H E I hf st hg
    subst hP hw hK
    obtain ⟨xs, x, hq, hx⟩ := hg
    obtain ⟨its, rv, p, hz⟩ := I.tuple hq
    obtain ⟨u, hu, ru⟩ := rv.get hx
    obtain ⟨f0, f1, f2, f3, f4, f5⟩ := hf it (by simp)
    refine wpAny_pyNext_tuple_item st (show s.heap.IsTuple a its.toArray from p) (x := u) (by simpa using hu) fun h' st' sb => ?_
    have I1 : Inv X pins σ H { s with heap := h' } := I.turned (t' := s.toks) (fun b o hb e => (sb.2 b hb).trans e) f0 f1 f3 f4 f5
    obtain ⟨o, e, c, d⟩ := id st'
    exact ⟨u, rfl, go_of (s := { s with heap := h' }) e c d (by decide) ⟨x, H, I1, ru, ⟨rfl, fun ys hy => by rw [I.tuple_inj hy hq]; exact hx⟩, st', fun b hb => (hf b hb).1⟩⟩
  done := by
    intro X hP hw hK hc i pins s σ H E I hf st hg
    subst hP hw hK
    obtain ⟨xs, hq, hx⟩ := hg
    obtain ⟨its, rv, p, hz⟩ := I.tuple hq
    obtain ⟨f0, f1, f2, f3, f4, f5⟩ := hf it (by simp)
    have hl := rv.length
    exact wpAny_pyNext_tuple_end (I.ok.hd hc) st (show s.heap.IsTuple a its.toArray from p) (by simp; omega) fun h' eb => ⟨rfl, I.turned (t' := s.toks) (fun b o hb e => eb b o hb e) f0 f1 f3 f4 f5⟩
  self := fun _ _ _ _ _ st h => wpAny_pyIter_tupleiter st h
theorem turn_range {P : Program} {w : World} {K : PySem.W.Frag} {tg : Expr} (it : Addr) (lo : Int) (n : Nat) : Turn P w K tg (Itr lo n) [it] it (fun i h => IsRangeIter h it (lo + (i : Nat) * 1) ((n : Int) - (i : Nat)) 1) where
  mem := by simp
  obj := fun i h st b hb => by
    have e : b = it := by simpa using hb
    subst e
    exact ⟨_, st, fun v z => by
      have z' : Data.fields _ = Data.cell v := z
      cases z'⟩
  keep := fun i h h' st k => k it (by simp) _ st
  item := by
    intro X hP hw hK hc i pins s σ H E I hf st hg
    subst hP hw hK
    obtain ⟨f0, f1, f2, f3, f4, f5⟩ := hf it (by simp)
    have W := Walks.range (prog := X.prog) (w := X.w) (I.ok.hd hc) it lo 1 n
    refine W.item i s _ _ hg st fun v h' tk hv st' kk => ?_
    obtain ⟨t, rfl⟩ := hv
    have I1 : Inv X pins σ H { s with heap := h', toks := tk } := I.turned (fun b o hb e => kk b o (by simpa using hb) e) f0 f1 f3 f4 f5
    refine ⟨_, rfl, go_of (s := { s with heap := h', toks := tk }) (n := "range_iterator") st' rfl rfl (by decide) ⟨.int (lo + i), H, I1, ⟨t, ?_⟩, ⟨rfl, rfl⟩, st', fun b hb => (hf b hb).1⟩⟩
    rw [Int.mul_one]
  done := by
    intro X hP hw hK hc i pins s σ H E I hf st hg
    subst hP hw hK
    obtain ⟨f0, f1, f2, f3, f4, f5⟩ := hf it (by simp)
    exact wpAny_pyNext_range_end (I.ok.hd hc) st (by have : n ≤ i := hg; omega) fun h' eb => ⟨rfl, I.turned (t' := s.toks) (fun b o hb e => eb b o hb e) f0 f1 f3 f4 f5⟩
  self := fun _ _ _ _ _ st h => wpAny_pyIter_rangeiter st h
end L2
namespace L2
open PySem PySem.Spec PyProof.Rows
section
variable {X : Cx} {tg : Expr}
def iList (K : PySem.W.Frag) (tl : TE) : TI := fun σ H R => tl σ H fun x H1 => ∃ a, x = .ref a ∧ (∃ xs, SqL K H1 a xs) ∧ R (Itl K a) H1
def iTup (K : PySem.W.Frag) (tl : TE) : TI := fun σ H R => tl σ H fun x H1 => ∃ a, x = .ref a ∧ (∃ xs, SqT K H1 a xs) ∧ R (Itt K a) H1
theorem pi_list {l : Expr} {tl : TE} (hl : PE X l tl) : PI X tg l (iList X.K tl) := by
  intro pins s σ H R I h
  refine thn (hl pins s σ H _ I h) fun v s1 ⟨x, H1, I1, r1, q1⟩ => ?_
  obtain ⟨a, e, ⟨xs, hq⟩, q⟩ := q1
  subst e
  cases r1
  obtain ⟨its, rv, p, hz⟩ := I1.list hq
  refine wpAny_pyIter_list p.isList ?_
  refine ⟨s1.heap.objs.size, [s1.heap.objs.size], _, _, H1, rfl, I1.kept (t' := s1.toks) fun b o e => Heap.get?_push_of_some _ e, turn_list a _, ⟨_, Heap.get?_push_size _ rfl, rfl, rfl⟩, fun b hb => ?_, q⟩
  have e : b = s1.heap.objs.size := by simpa using hb
  subst e
  exact I1.fpOk (Nat.le_refl _) (I1.hok.fresh (Nat.le_refl _))
theorem pi_tup {l : Expr} {tl : TE} (hl : PE X l tl) : PI X tg l (iTup X.K tl) := by
  intro pins s σ H R I h
  refine thn (hl pins s σ H _ I h) fun v s1 ⟨x, H1, I1, r1, q1⟩ => ?_
  obtain ⟨a, e, ⟨xs, hq⟩, q⟩ := q1
  subst e
  cases r1
  obtain ⟨its, rv, p, hz⟩ := I1.tuple hq
  refine wpAny_pyIter_tuple (show s1.heap.IsTuple a its.toArray from p) ?_
  refine ⟨s1.heap.objs.size, [s1.heap.objs.size], _, _, H1, rfl, I1.kept (t' := s1.toks) fun b o e => Heap.get?_push_of_some _ e, turn_tuple a _, ⟨_, Heap.get?_push_size _ rfl, rfl, rfl⟩, fun b hb => ?_, q⟩
  have e : b = s1.heap.objs.size := by simpa using hb
  subst e
  exact I1.fpOk (Nat.le_refl _) (I1.hok.fresh (Nat.le_refl _))
theorem range_it {pins : List (Addr × Obj)} {σ : St} {H : Hp} {s : Shared} {R : It → Hp → Prop} {E : Value → Shared → Prop} {lo hi : Int} {t u v : Tok} {tk : Nat} (I : Inv X pins σ H s) (h1 : -(2 ^ 62) ≤ lo) (h2 : lo < 2 ^ 62) (h3 : -(2 ^ 62) ≤ hi) (h4 : hi < 2 ^ 62)
    (q : R (Itr lo (hi - lo).toNat) H) : wpAny (model X.prog X.w) X.A (pyIter (.ref s.heap.objs.size)) (PIE X pins σ tg R) E { s with heap := s.heap.push { cls := .type "range", data := .fields #[.int lo t, .int hi u, .int 1 v] }, toks := tk } := by
  refine wpAny_pyIter_range (IsRange.new ..) (small_one h1 h2 h3 h4) ?_
  have I1 : Inv X pins σ H { s with heap := s.heap.push { cls := .type "range", data := .fields #[.int lo t, .int hi u, .int 1 v] }, toks := tk } := I.kept fun b o e => Heap.get?_push_of_some _ e
  refine ⟨(s.heap.push { cls := .type "range", data := .fields #[.int lo t, .int hi u, .int 1 v] }).objs.size, [(s.heap.push { cls := .type "range", data := .fields #[.int lo t, .int hi u, .int 1 v] }).objs.size], _, _, H, rfl,
    I1.kept (t' := tk) fun b o e => Heap.get?_push_of_some _ e, turn_range _ lo (hi - lo).toNat, ?_, fun b hb => ?_, q⟩
  · have e1 : lo + ((0 : Nat) : Int) * 1 = lo := by simp
    have e2 : (((hi - lo).toNat : Nat) : Int) - ((0 : Nat) : Int) = Builtin.Range.rangeSize lo hi 1 := by rw [rangeSize_one]; split <;> omega
    show IsRangeIter _ _ (lo + ((0 : Nat) : Int) * 1) ((((hi - lo).toNat : Nat) : Int) - ((0 : Nat) : Int)) 1
    rw [e1, e2]
    exact Heap.get?_push_size _ rfl
  · have e : b = (s.heap.push { cls := .type "range", data := .fields #[.int lo t, .int hi u, .int 1 v] }).objs.size := by simpa using hb
    subst e
    exact I1.fpOk (Nat.le_refl _) (I1.hok.fresh (Nat.le_refl _))
def iRng1 (ta : TA) : TI := fun σ H R => ta σ H fun vs H1 => ∃ j : Int, vs = [.int j] ∧ -(2 ^ 62) ≤ j ∧ j < 2 ^ 62 ∧ R (Itr 0 j.toNat) H1
def iRng2 (ta : TA) : TI := fun σ H R => ta σ H fun vs H1 => ∃ i j : Int, vs = [.int i, .int j] ∧ (-(2 ^ 62) ≤ i ∧ i < 2 ^ 62 ∧ -(2 ^ 62) ≤ j ∧ j < 2 ^ 62) ∧ R (Itr i (j - i).toNat) H1
theorem pi_range1 {a : Expr} {ta : TA} {p pos : Pos} (hg : Gl X "range") (hm : X.mg "range" = none) (ha : PA X [a] ta) (hs : starEach [a] X.env = [(false, eval a X.env)] := by rfl) : PI X tg (.Call (.Name "range" p) [a] [] pos) (iRng1 ta) := by
  intro pins s σ H R I h
  refine Call_ (ld_blt I hg hm boot_range (PyProof.Rows.callWith_type1 (thn (ha pos pins s σ H _ I h) fun us s1 ⟨vs, H1, I1, r1, q1⟩ => ?_) hs rfl))
  obtain ⟨j, e, q1, q2, q⟩ := q1
  subst e
  cases r1 with
  | cons r rr =>
    cases rr
    obtain ⟨t, rfl⟩ := r
    exact call_range_1 (range_it I1 (by omega) (by omega) q1 q2 (by simpa using q))
theorem pi_range2 {a b : Expr} {ta : TA} {p pos : Pos} (hg : Gl X "range") (hm : X.mg "range" = none) (ha : PA X [a, b] ta) (hs : starEach [a, b] X.env = [(false, eval a X.env), (false, eval b X.env)] := by rfl) (hs2 : starEach [b] X.env = [(false, eval b X.env)] := by rfl) :
    PI X tg (.Call (.Name "range" p) [a, b] [] pos) (iRng2 ta) := by
  intro pins s σ H R I h
  refine Call_ (ld_blt I hg hm boot_range (PyProof.Rows.callWith_type1 (thn (ha pos pins s σ H _ I h) fun us s1 ⟨vs, H1, I1, r1, q1⟩ => ?_) (by rw [hs, hs2]) (by rw [hs2]; rfl)))
  obtain ⟨i, j, e, ⟨q1, q2, q3, q4⟩, q⟩ := q1
  subst e
  cases r1 with
  | cons r rr =>
    cases rr with
    | cons r' rr =>
      cases rr
      obtain ⟨t, rfl⟩ := r
      obtain ⟨t', rfl⟩ := r'
      exact call_range_2 (range_it I1 q1 q2 q3 q4 q)
def tFor (wi : TI) (g : TG) (tb : TS) : TS := fun D σ H => wi σ H fun J H1 => ∃ W : Nat → Nat → St → Hp → Prop, (∃ m, W 0 m σ H1) ∧ ∀ i m σ H, W i m σ H →
  (J.stop i H ∧ D.nx σ H) ∨ (J.go i H ∧ ∃ N : St → Hp → Prop, (∀ σ' H', N σ' H' → ∃ m', m' < m ∧ W (i + 1) m' σ' H') ∧ ∀ x H', J.yld i H x H' → g x σ H' fun σ2 H2 => tb { D with nx := N, ct := N, bk := D.nx } σ2 H2)
def pinsAt (fp : List Addr) (h : Heap) : List (Addr × Obj) := fp.filterMap fun b => (h.get? b).map fun o => (b, o)
theorem mem_pinsAt {fp : List Addr} {h : Heap} {b : Addr} {o : Obj} (hb : b ∈ fp) (e : h.get? b = some o) : (b, o) ∈ pinsAt fp h := List.mem_filterMap.mpr ⟨b, hb, by rw [e]; rfl⟩
theorem of_pinsAt {fp : List Addr} {h : Heap} {p : Addr × Obj} (hp : p ∈ pinsAt fp h) : p.1 ∈ fp ∧ h.get? p.1 = some p.2 := by
  obtain ⟨b, hb, e⟩ := List.mem_filterMap.mp hp
  cases q : h.get? b with
  | none => rw [q] at e; cases e
  | some o =>
    rw [q] at e
    have e' : (b, o) = p := Option.some.inj e
    subst e'
    exact ⟨hb, q⟩
theorem Inv.pinned {pins : List (Addr × Obj)} {σ : St} {H : Hp} {s : Shared} {fp : List Addr} (I : Inv X pins σ H s) (hf : ∀ b ∈ fp, FpOk X pins H b) (ho : ∀ b ∈ fp, ∃ o, s.heap.get? b = some o ∧ ∀ v, o.data ≠ .cell v) : Inv X (pins ++ pinsAt fp s.heap) σ H s :=
  I.pins_of fun p hp => (List.mem_append.mp hp).elim (fun z => I.pin p (List.mem_append_right _ z)) fun z => by
    obtain ⟨hb, e⟩ := of_pinsAt z
    obtain ⟨f0, f1, f2, _⟩ := hf p.1 hb
    obtain ⟨o, e', d⟩ := ho p.1 hb
    rw [e] at e'; cases e'
    exact ⟨e, f0, f1, f2, d⟩
theorem Inv.unpinned {pins pl : List (Addr × Obj)} {σ : St} {H : Hp} {s : Shared} (I : Inv X (pins ++ pl) σ H s) : Inv X pins σ H s := I.pins_of fun p hp => I.pin p (List.mem_append_right _ (List.mem_append_left _ hp))
theorem ps_for {iter : Expr} {body : List Stmt} {wi : TI} {g : TG} {tb : TS} {pos : Pos} (hp : PassesOwn (model X.prog X.w) X.A X.env X.xe) (hc : X.calm = true) (hi : PI X tg iter wi) (hg : PG X tg g) (hb : PSs X body tb)
    (hs : ∀ x, foldedSetIterable iter X.env x = pure x := by intro _; rfl) : PS X (.For tg iter body [] pos) (tFor wi g tb) := by
  intro pins s σ H D I h
  refine wpAny_For (thn (hi pins s σ H _ I h) fun v s1 h1 => thn h1 fun itv s2 h2 => ?_) hs
  obtain ⟨it, fp, tn, J, H2, e, I2, T, st2, f2, W, ⟨m0, w0⟩, turn⟩ := h2
  subst e
  have stat : ∀ {H' : Hp}, (∀ b ∈ fp, H' b = none) → ∀ b ∈ fp, FpOk X pins H' b := fun hn b hb => ⟨hn b hb, (f2 b hb).2⟩
  refine codeAny_forLoop_any (fun n s' => ∃ i σ' H', Inv X pins σ' H' s' ∧ tn i s'.heap ∧ (∀ b ∈ fp, H' b = none) ∧ W i n σ' H') ?_ m0 ⟨0, σ, H2, I2, st2, fun b hb => (f2 b hb).1, w0⟩
  rintro n s3 ⟨i, σ3, H3, I3, st3, fr3, w3⟩
  rcases turn i n σ3 H3 w3 with ⟨stop, qn⟩ | ⟨go, N, hN, step⟩
  · refine wpAny_passesOwn hp (thn (T.done X rfl rfl rfl hc i pins s3 σ3 H3 X.xe I3 (stat fr3) st3 stop) fun r s4 ⟨hr, I4⟩ => ?_)
    subst hr
    exact wpAny_execs_nil ⟨σ3, H3, I4, qn⟩
  · refine wpAny_passesOwn hp (thn (T.item X rfl rfl rfl hc i pins s3 σ3 H3 X.xe I3 (stat fr3) st3 go) fun r s4 ⟨u, hr, h4⟩ => ?_)
    subst hr
    refine wpAny_passesOwn hp (thn h4 fun _ s5 ⟨x, H5, I5, r5, y5, st5, fr5⟩ => ?_)
    have I5' := I5.pinned (stat fr5) (T.obj _ _ st5)
    refine wpAny_passesOwn hp (thn (hg _ s5 σ3 H5 x u _ I5' r5 (step x H5 y5)) fun _ s6 ⟨σ6, H6, I6, q6⟩ => ?_)
    refine wpAny_passesOwn hp (thn (hb _ s6 σ6 H6 _ I6 q6) fun f s7 q7 => ?_)
    have again : ∀ {σ7 : St} {H7 : Hp}, Inv X (pins ++ pinsAt fp s5.heap) σ7 H7 s7 → N σ7 H7 → ∃ m, m < n ∧ ∃ i σ' H', Inv X pins σ' H' s7 ∧ tn i s7.heap ∧ (∀ b ∈ fp, H' b = none) ∧ W i m σ' H' := fun {σ7 H7} I7 n7 => by
      obtain ⟨m', hm, w7⟩ := hN σ7 H7 n7
      refine ⟨m', hm, i + 1, σ7, H7, I7.unpinned, T.keep _ _ _ st5 fun b hb o e => (I7.pin (b, o) (List.mem_append_right _ (List.mem_append_right _ (mem_pinsAt hb e)))).1, fun b hb => ?_, w7⟩
      obtain ⟨o, e, d⟩ := T.obj _ _ st5 b hb
      exact (I7.pin (b, o) (List.mem_append_right _ (List.mem_append_right _ (mem_pinsAt hb e)))).2.1
    cases f with
    | next => obtain ⟨σ7, H7, I7, n7⟩ := q7; exact again I7 n7
    | cont => obtain ⟨σ7, H7, I7, n7⟩ := q7; exact again I7 n7
    | brk => obtain ⟨σ7, H7, I7, q7⟩ := q7; exact ⟨σ7, H7, I7.unpinned, q7⟩
    | ret v => obtain ⟨x7, σ7, H7, I7, r7, q7⟩ := q7; exact ⟨x7, σ7, H7, I7.unpinned, r7, q7⟩
end
theorem for_list {K : PySem.W.Frag} {a : Addr} {xs : List V} {g : TG} {tb : TS} {D : Ends} {σ : St} {H : Hp} (Pv : Nat → St → Hp → Prop) (h0 : Pv 0 σ H) (hl : ∀ i σ H, i ≤ xs.length → Pv i σ H → SqL K H a xs)
    (hs : ∀ i x σ H, xs[i]? = some x → Pv i σ H → g x σ H fun σ2 H2 => tb { D with nx := Pv (i + 1), ct := Pv (i + 1), bk := D.nx } σ2 H2) (hd : ∀ σ H, Pv xs.length σ H → D.nx σ H) :
    ∃ W : Nat → Nat → St → Hp → Prop, (∃ m, W 0 m σ H) ∧ ∀ i m σ H, W i m σ H →
      ((Itl K a).stop i H ∧ D.nx σ H) ∨ ((Itl K a).go i H ∧ ∃ N : St → Hp → Prop, (∀ σ' H', N σ' H' → ∃ m', m' < m ∧ W (i + 1) m' σ' H') ∧ ∀ x H', (Itl K a).yld i H x H' → g x σ H' fun σ2 H2 => tb { D with nx := N, ct := N, bk := D.nx } σ2 H2) := by
  refine ⟨fun i m σ H => m = xs.length - i ∧ i ≤ xs.length ∧ Pv i σ H, ⟨xs.length, by simp, Nat.zero_le _, h0⟩, ?_⟩
  rintro i m σ H ⟨rfl, hi, p⟩
  have q := hl i σ H hi p
  by_cases hlt : i < xs.length
  · refine .inr ⟨⟨xs, xs[i], q, by simp [hlt]⟩, Pv (i + 1), fun σ' H' p' => ⟨xs.length - (i + 1), by omega, rfl, hlt, p'⟩, fun x H' y => ?_⟩
    obtain ⟨e, y⟩ := y
    subst e
    exact hs i x σ _ (y xs q) p
  · have e : i = xs.length := by omega
    subst e
    exact .inl ⟨⟨xs, q, Nat.le_refl _⟩, hd σ H p⟩
theorem for_tup {K : PySem.W.Frag} {a : Addr} {xs : List V} {g : TG} {tb : TS} {D : Ends} {σ : St} {H : Hp} (Pv : Nat → St → Hp → Prop) (h0 : Pv 0 σ H) (hl : ∀ i σ H, i ≤ xs.length → Pv i σ H → SqT K H a xs)
    (hs : ∀ i x σ H, xs[i]? = some x → Pv i σ H → g x σ H fun σ2 H2 => tb { D with nx := Pv (i + 1), ct := Pv (i + 1), bk := D.nx } σ2 H2) (hd : ∀ σ H, Pv xs.length σ H → D.nx σ H) :
    ∃ W : Nat → Nat → St → Hp → Prop, (∃ m, W 0 m σ H) ∧ ∀ i m σ H, W i m σ H →
      ((Itt K a).stop i H ∧ D.nx σ H) ∨ ((Itt K a).go i H ∧ ∃ N : St → Hp → Prop, (∀ σ' H', N σ' H' → ∃ m', m' < m ∧ W (i + 1) m' σ' H') ∧ ∀ x H', (Itt K a).yld i H x H' → g x σ H' fun σ2 H2 => tb { D with nx := N, ct := N, bk := D.nx } σ2 H2) := by
  refine ⟨fun i m σ H => m = xs.length - i ∧ i ≤ xs.length ∧ Pv i σ H, ⟨xs.length, by simp, Nat.zero_le _, h0⟩, ?_⟩
  rintro i m σ H ⟨rfl, hi, p⟩
  have q := hl i σ H hi p
  by_cases hlt : i < xs.length
  · refine .inr ⟨⟨xs, xs[i], q, by simp [hlt]⟩, Pv (i + 1), fun σ' H' p' => ⟨xs.length - (i + 1), by omega, rfl, hlt, p'⟩, fun x H' y => ?_⟩
    obtain ⟨e, y⟩ := y
    subst e
    exact hs i x σ _ (y xs q) p
  · have e : i = xs.length := by omega
    subst e
    exact .inl ⟨⟨xs, q, Nat.le_refl _⟩, hd σ H p⟩
theorem for_range {lo : Int} {n : Nat} {g : TG} {tb : TS} {D : Ends} {σ : St} {H : Hp} (Pv : Nat → St → Hp → Prop) (h0 : Pv 0 σ H)
    (hs : ∀ i σ H, i < n → Pv i σ H → g (.int (lo + i)) σ H fun σ2 H2 => tb { D with nx := Pv (i + 1), ct := Pv (i + 1), bk := D.nx } σ2 H2) (hd : ∀ σ H, Pv n σ H → D.nx σ H) :
    ∃ W : Nat → Nat → St → Hp → Prop, (∃ m, W 0 m σ H) ∧ ∀ i m σ H, W i m σ H →
      ((Itr lo n).stop i H ∧ D.nx σ H) ∨ ((Itr lo n).go i H ∧ ∃ N : St → Hp → Prop, (∀ σ' H', N σ' H' → ∃ m', m' < m ∧ W (i + 1) m' σ' H') ∧ ∀ x H', (Itr lo n).yld i H x H' → g x σ H' fun σ2 H2 => tb { D with nx := N, ct := N, bk := D.nx } σ2 H2) := by
  refine ⟨fun i m σ H => m = n - i ∧ i ≤ n ∧ Pv i σ H, ⟨n, by simp, Nat.zero_le _, h0⟩, ?_⟩
  rintro i m σ H ⟨rfl, hi, p⟩
  by_cases hlt : i < n
  · refine .inr ⟨hlt, Pv (i + 1), fun σ' H' p' => ⟨n - (i + 1), by omega, rfl, hlt, p'⟩, fun x H' y => ?_⟩
    obtain ⟨e, y⟩ := y
    subst e y
    exact hs i σ _ hlt p
  · have e : i = n := by omega
    subst e
    exact .inl ⟨Nat.le_refl _, hd σ H p⟩
theorem while_by {c : TT} {tb : TS} {D : Ends} {σ : St} {H : Hp} (Pv : St → Hp → Prop) (μ : St → Hp → Nat) (h0 : Pv σ H)
    (hs : ∀ σ H, Pv σ H → c σ H fun b H1 => if b = true then tb { D with nx := fun σ' H' => Pv σ' H' ∧ μ σ' H' < μ σ H, ct := fun σ' H' => Pv σ' H' ∧ μ σ' H' < μ σ H, bk := D.nx } σ H1 else D.nx σ H1)
    (mono : ∀ σ H Q Q', (∀ b H1, Q b H1 → Q' b H1) → c σ H Q → c σ H Q') : tWhile c tb D σ H := by
  refine ⟨fun m σ H => m = μ σ H ∧ Pv σ H, ⟨_, rfl, h0⟩, ?_⟩
  rintro m σ H ⟨rfl, p⟩
  refine mono σ H _ _ (fun b H1 q => ?_) (hs σ H p)
  cases b with
  | true => exact ⟨_, fun σ' H' ⟨p', l⟩ => ⟨_, l, rfl, p'⟩, q⟩
  | false => exact q
end L2
namespace L2
open PySem PySem.Spec PyProof.Rows
abbrev R2 := V → V → Hp → VK → Prop
def OpR (X : Cx) (f : Value → Value → Sem Value) (r : R2) : Prop :=
  ∀ (pins : List (Addr × Obj)) (s : Shared) (σ : St) (H : Hp) (x y : V) (v u : Value) (Q : VK), Inv X pins σ H s → RelV x v → RelV y u → r x y H Q →
    wpAny (model X.prog X.w) X.A (f v u) (EP X pins σ Q) X.xe s
def UnR (X : Cx) (f : Value → Sem Value) (r : V → Hp → VK → Prop) : Prop :=
  ∀ (pins : List (Addr × Obj)) (s : Shared) (σ : St) (H : Hp) (x : V) (v : Value) (Q : VK), Inv X pins σ H s → RelV x v → r x H Q →
    wpAny (model X.prog X.w) X.A (f v) (EP X pins σ Q) X.xe s
def CallR (X : Cx) (f : Value) (r : List V → Hp → VK → Prop) : Prop :=
  ∀ (pins : List (Addr × Obj)) (s : Shared) (σ : St) (H : Hp) (xs : List V) (us : List Value) (Q : VK), Inv X pins σ H s → Vals xs us → r xs H Q →
    wpAny (model X.prog X.w) X.A (call f us) (EP X pins σ Q) X.xe s
def tOp (r : R2) (ta tb : TE) : TE := fun σ H Q => ta σ H fun x H1 => tb σ H1 fun y H2 => r x y H2 Q
def tUn (r : V → Hp → VK → Prop) (ta : TE) : TE := fun σ H Q => ta σ H fun x H1 => r x H1 Q
def rI (C : Int → Int → Prop) (g : Int → Int → V) : R2 := fun x y H Q => ∃ i j, x = .int i ∧ y = .int j ∧ C i j ∧ Q (g i j) H
def rI0 (g : Int → Int → V) : R2 := fun x y H Q => ∃ i j, x = .int i ∧ y = .int j ∧ Q (g i j) H
def rU (g : Int → V) : V → Hp → VK → Prop := fun x H Q => ∃ i, x = .int i ∧ Q (g i) H
section
variable {X : Cx} {a b c : Expr} {ta tb tc : TE} {pos : Pos}
theorem binT (ha : PE X a ta) (hb : PE X b tb) {pins : List (Addr × Obj)} {s : Shared} {σ : St} {H : Hp} {R : V → V → Hp → Prop} (I : Inv X pins σ H s)
    (h : ta σ H fun x H1 => tb σ H1 fun y H2 => R x y H2) {Q : Value → Shared → Prop} {f : Value → Value → Sem Value}
    (hf : ∀ v u s2 x y H2, Inv X pins σ H2 s2 → RelV x v → RelV y u → R x y H2 → wpAny (model X.prog X.w) X.A (f v u) Q X.xe s2) :
    wpAny (model X.prog X.w) X.A (eval a X.env) (fun v s₁ => wpAny (model X.prog X.w) X.A (eval b X.env) (fun u s₂ => wpAny (model X.prog X.w) X.A (f v u) Q X.xe s₂) X.xe s₁) X.xe s := by
  refine thn (ha pins s σ H _ I h) fun v s1 ⟨x, H1, I1, r1, q1⟩ => ?_
  refine thn (hb pins s1 σ H1 _ I1 q1) fun u s2 ⟨y, H2, I2, r2, q2⟩ => ?_
  exact hf v u s2 x y H2 I2 r1 r2 q2
theorem pe_op {op : Operator} {r : R2} (ho : OpR X (binaryOp op) r) (ha : PE X a ta) (hb : PE X b tb) : PE X (.BinOp a op b pos) (tOp r ta tb) := by
  intro pins s σ H Q I h
  exact wpAny_BinOp (binT ha hb I h fun v u s2 x y H2 I2 rx ry q => ho pins s2 σ H2 x y v u Q I2 rx ry q)
theorem pe_un {op : UnaryOp} {r : V → Hp → VK → Prop} (ho : UnR X (unaryOp op) r) (ha : PE X a ta) : PE X (.UnaryOp op a pos) (tUn r ta) := by
  intro pins s σ H Q I h
  exact UnaryOp_ (thn (ha pins s σ H _ I h) fun v s1 ⟨x, H1, I1, r1, q1⟩ => ho pins s1 σ H1 x v Q I1 r1 q1)
theorem opI {f : Value → Value → Sem Value} {C : Int → Int → Prop} {g : Int → Int → Int}
    (rule : ∀ (i j : Int) (t u : Tok) (s : Shared) (Q : Value → Shared → Prop) (E : Value → Shared → Prop), C i j → Q (.int (g i j) s.toks) { s with toks := s.toks + 1 } → wpAny (model X.prog X.w) X.A (f (.int i t) (.int j u)) Q E s) :
    OpR X f (rI C fun i j => .int (g i j)) := by
  intro pins s σ H x y v u Q I rx ry h
  obtain ⟨i, j, rfl, rfl, hc, q⟩ := h
  obtain ⟨t, rfl⟩ := rx
  obtain ⟨t', rfl⟩ := ry
  exact rule i j t t' s _ _ hc ⟨.int (g i j), H, I.tok _, ⟨_, rfl⟩, q⟩
theorem opI0 {f : Value → Value → Sem Value} {g : Int → Int → Int}
    (rule : ∀ (i j : Int) (t u : Tok) (s : Shared) (Q : Value → Shared → Prop) (E : Value → Shared → Prop), Q (.int (g i j) s.toks) { s with toks := s.toks + 1 } → wpAny (model X.prog X.w) X.A (f (.int i t) (.int j u)) Q E s) :
    OpR X f (rI0 fun i j => .int (g i j)) := by
  intro pins s σ H x y v u Q I rx ry h
  obtain ⟨i, j, rfl, rfl, q⟩ := h
  obtain ⟨t, rfl⟩ := rx
  obtain ⟨t', rfl⟩ := ry
  exact rule i j t t' s _ _ ⟨.int (g i j), H, I.tok _, ⟨_, rfl⟩, q⟩
theorem opB0 {f : Value → Value → Sem Value} {g : Int → Int → Bool}
    (rule : ∀ (i j : Int) (t u : Tok) (s : Shared) (Q : Value → Shared → Prop) (E : Value → Shared → Prop), Q (.bool (g i j)) s → wpAny (model X.prog X.w) X.A (f (.int i t) (.int j u)) Q E s) :
    OpR X f (rI0 fun i j => .bl (g i j)) := by
  intro pins s σ H x y v u Q I rx ry h
  obtain ⟨i, j, rfl, rfl, q⟩ := h
  obtain ⟨t, rfl⟩ := rx
  obtain ⟨t', rfl⟩ := ry
  exact rule i j t t' s _ _ ⟨.bl (g i j), H, I, rfl, q⟩
def CDiv (i j : Int) : Prop := 0 < j ∧ j < 1073741824
def CPow (i j : Int) : Prop := 0 ≤ j ∧ j ≤ 1000000 ∧ i.natAbs < 2 ^ 64
theorem two_pow_nn (k : Nat) : (0 : Int) ≤ 2 ^ k := by
  rw [two_pow_cast]
  exact Int.natCast_nonneg _
theorem op_add : OpR X (binaryOp .Add) (rI0 fun i j => .int (i + j)) := opI0 fun _ _ _ _ _ _ _ q => add_int q
theorem op_sub : OpR X (binaryOp .Sub) (rI0 fun i j => .int (i - j)) := opI0 fun _ _ _ _ _ _ _ q => sub_int q
theorem op_fdiv : OpR X (binaryOp .FloorDiv) (rI CDiv fun i j => .int (i / j)) := opI fun i j _ _ _ _ _ hc q => by
  have h1 : (0 : Int) < j := hc.1
  have h2 : j < 1073741824 := hc.2
  exact floordiv_int (by omega) (by rw [Int.fdiv_eq_ediv_of_nonneg i (by omega)]; exact q) (.inl (PyProof.noPylong_small (by omega)))
theorem op_mod : OpR X (binaryOp .Mod) (rI (fun _ j => 0 < j) fun i j => .int (i % j)) := opI fun i j _ _ _ _ _ hc q => by
  have h1 : (0 : Int) < j := hc
  exact mod_int' (by omega) (by rw [Int.fmod_eq_emod_of_nonneg i (by omega)]; exact q)
theorem op_shl : OpR X (binaryOp .LShift) (rI CPow fun i j => .int (i * 2 ^ j.toNat)) := opI fun _ _ _ _ _ _ _ hc q => lshift_int_small hc.1 hc.2.1 hc.2.2 q
theorem op_shr : OpR X (binaryOp .RShift) (rI (fun _ j => 0 ≤ j) fun i j => .int (i / 2 ^ j.toNat)) := opI fun i j _ _ _ _ _ hc q =>
  rshift_int hc (by rw [Int.fdiv_eq_ediv_of_nonneg i (two_pow_nn _)]; exact q)
theorem op_and : OpR X (binaryOp .BitAnd) (rI0 fun i j => .int (Builtin.bitAnd i j)) := opI0 fun _ _ _ _ _ _ _ q => and_int q
theorem op_or : OpR X (binaryOp .BitOr) (rI0 fun i j => .int (Builtin.bitOr i j)) := opI0 fun _ _ _ _ _ _ _ q => or_int q
theorem op_xor : OpR X (binaryOp .BitXor) (rI0 fun i j => .int (Builtin.bitXor i j)) := opI0 fun _ _ _ _ _ _ _ q => xor_int q
theorem unI {f : Value → Sem Value} {g : Int → Int}
    (rule : ∀ (i : Int) (t : Tok) (s : Shared) (Q : Value → Shared → Prop) (E : Value → Shared → Prop), Q (.int (g i) s.toks) { s with toks := s.toks + 1 } → wpAny (model X.prog X.w) X.A (f (.int i t)) Q E s) :
    UnR X f (rU fun i => .int (g i)) := by
  intro pins s σ H x v Q I rx h
  obtain ⟨i, rfl, q⟩ := h
  obtain ⟨t, rfl⟩ := rx
  exact rule i t s _ _ ⟨.int (g i), H, I.tok _, ⟨_, rfl⟩, q⟩
theorem un_neg : UnR X (unaryOp .USub) (rU fun i => .int (-i)) := unI fun _ _ _ _ _ q => neg_int q
end
def scal : V → V → Bool
  | .non, .non => true | .non, .int _ => true | .int _, .non => true | .non, .bl _ => true | .bl _, .non => true | .non, .str _ => true | .str _, .non => true
  | .int _, .int _ => true | .bl _, .bl _ => true | .str _, .str _ => true | .byt _, .byt _ => true
  | .int _, .str _ => true | .str _, .int _ => true | .bl _, .str _ => true | .str _, .bl _ => true
  | _, _ => false
def rEq : R2 := fun x y H Q => scal x y = true ∧ Q (.bl (decide (x = y))) H
def rNe : R2 := fun x y H Q => scal x y = true ∧ Q (.bl (!decide (x = y))) H
theorem dec_int {i j : Int} : decide (V.int i = V.int j) = (i == j) := by
  rw [Bool.eq_iff_iff]
  simp
theorem dec_bl {i j : Bool} : decide (V.bl i = V.bl j) = (i == j) := by
  rw [Bool.eq_iff_iff]
  simp
theorem dec_str {i j : Str} : decide (V.str i = V.str j) = (i == j) := by
  rw [Bool.eq_iff_iff]
  simp
theorem dec_byt {i j : Array UInt8} : decide (V.byt i = V.byt j) = (i.toList == j.toList) := by
  rw [Bool.eq_iff_iff]
  cases i
  cases j
  simp
section
variable {X : Cx} {a b c : Expr} {ta tb tc : TE} {pos : Pos}
theorem fin_bl {pins : List (Addr × Obj)} {σ : St} {H : Hp} {s : Shared} {Q : VK} {k k' : Bool} (I : Inv X pins σ H s) (q : Q (.bl k) H) (e : k = k') : EP X pins σ Q (.bool k') s := by
  subst e
  exact ⟨.bl k, H, I, rfl, q⟩
theorem op_eq : OpR X (compareOp .Eq) rEq := by
  intro pins s σ H x y v u Q I rx ry h
  obtain ⟨hs, q⟩ := h
  cases x with
  | non =>
    cases rx
    cases y with
    | non => cases ry; exact PySem.EqNone.eq_none_none (fin_bl I q (by simp))
    | bl j => cases ry; exact PySem.EqNone.eq_none_bool (fin_bl I q (by simp))
    | int j => obtain ⟨t', rfl⟩ := ry; exact PySem.EqNone.eq_none_int (fin_bl I q (by simp))
    | str j => obtain ⟨t', rfl⟩ := ry; exact PySem.EqNone.eq_none_str (fin_bl I q (by simp))
    | _ => exact absurd (show false = true from hs) Bool.false_ne_true
  | bl i =>
    cases rx
    cases y with
    | non => cases ry; exact PySem.EqNone.eq_bool_none (fin_bl I q (by simp))
    | bl j => cases ry; exact eq_bool (fin_bl I q dec_bl)
    | str j => obtain ⟨t', rfl⟩ := ry; exact PySem.EqMixed.eq_bool_str (fin_bl I q (by simp))
    | _ => exact absurd (show false = true from hs) Bool.false_ne_true
  | int i =>
    obtain ⟨t, rfl⟩ := rx
    cases y with
    | non => cases ry; exact PySem.EqNone.eq_int_none (fin_bl I q (by simp))
    | int j => obtain ⟨t', rfl⟩ := ry; exact eq_int (fin_bl I q dec_int)
    | str j => obtain ⟨t', rfl⟩ := ry; exact PySem.EqMixed.eq_int_str (fin_bl I q (by simp))
    | _ => exact absurd (show false = true from hs) Bool.false_ne_true
  | str i =>
    obtain ⟨t, rfl⟩ := rx
    cases y with
    | non => cases ry; exact PySem.EqNone.eq_str_none (fin_bl I q (by simp))
    | bl j => cases ry; exact PySem.EqMixed.eq_str_bool (fin_bl I q (by simp))
    | int j => obtain ⟨t', rfl⟩ := ry; exact PySem.EqMixed.eq_str_int (fin_bl I q (by simp))
    | str j => obtain ⟨t', rfl⟩ := ry; exact eq_str (fin_bl I q dec_str)
    | _ => exact absurd (show false = true from hs) Bool.false_ne_true
  | byt i =>
    obtain ⟨t, rfl⟩ := rx
    cases y with
    | byt j => obtain ⟨t', rfl⟩ := ry; exact PySem.W.eq_bytes (fin_bl I q dec_byt)
    | _ => exact absurd (show false = true from hs) Bool.false_ne_true
  | _ => cases y <;> exact absurd (show false = true from hs) Bool.false_ne_true
theorem op_ne : OpR X (compareOp .NotEq) rNe := by
  intro pins s σ H x y v u Q I rx ry h
  obtain ⟨hs, q⟩ := h
  cases x with
  | non =>
    cases rx
    cases y with
    | non => cases ry; exact PySem.EqNone.ne_none_none (fin_bl I q (by simp))
    | bl j => cases ry; exact PySem.EqNone.ne_none_bool (fin_bl I q (by simp))
    | int j => obtain ⟨t', rfl⟩ := ry; exact PySem.EqNone.ne_none_int (fin_bl I q (by simp))
    | str j => obtain ⟨t', rfl⟩ := ry; exact PySem.EqNone.ne_none_str (fin_bl I q (by simp))
    | _ => exact absurd (show false = true from hs) Bool.false_ne_true
  | bl i =>
    cases rx
    cases y with
    | non => cases ry; exact PySem.EqNone.ne_bool_none (fin_bl I q (by simp))
    | bl j => cases ry; exact ne_bool (fin_bl I q (congrArg not dec_bl))
    | str j => obtain ⟨t', rfl⟩ := ry; exact PySem.EqMixed.ne_bool_str (fin_bl I q (by simp))
    | _ => exact absurd (show false = true from hs) Bool.false_ne_true
  | int i =>
    obtain ⟨t, rfl⟩ := rx
    cases y with
    | non => cases ry; exact PySem.EqNone.ne_int_none (fin_bl I q (by simp))
    | int j => obtain ⟨t', rfl⟩ := ry; exact ne_int (fin_bl I q (congrArg not dec_int))
    | str j => obtain ⟨t', rfl⟩ := ry; exact PySem.EqMixed.ne_int_str (fin_bl I q (by simp))
    | _ => exact absurd (show false = true from hs) Bool.false_ne_true
  | str i =>
    obtain ⟨t, rfl⟩ := rx
    cases y with
    | non => cases ry; exact PySem.EqNone.ne_str_none (fin_bl I q (by simp))
    | bl j => cases ry; exact PySem.EqMixed.ne_str_bool (fin_bl I q (by simp))
    | int j => obtain ⟨t', rfl⟩ := ry; exact PySem.EqMixed.ne_str_int (fin_bl I q (by simp))
    | str j => obtain ⟨t', rfl⟩ := ry; exact ne_str (fin_bl I q (congrArg not dec_str))
    | _ => exact absurd (show false = true from hs) Bool.false_ne_true
  | byt i =>
    obtain ⟨t, rfl⟩ := rx
    cases y with
    | byt j => obtain ⟨t', rfl⟩ := ry; exact PySem.W.ne_bytes (fin_bl I q (congrArg not dec_byt))
    | _ => exact absurd (show false = true from hs) Bool.false_ne_true
  | _ => cases y <;> exact absurd (show false = true from hs) Bool.false_ne_true
theorem op_lt : OpR X (compareOp .Lt) (rI0 fun i j => .bl (decide (i < j))) := opB0 fun _ _ _ _ _ _ _ q => lt_int q
theorem op_gt : OpR X (compareOp .Gt) (rI0 fun i j => .bl (decide (j < i))) := opB0 fun _ _ _ _ _ _ _ q => gt_int q
theorem op_ge : OpR X (compareOp .GtE) (rI0 fun i j => .bl (decide (j ≤ i))) := opB0 fun _ _ _ _ _ _ _ q => ge_int q
theorem nomark (b : Expr) {op : CmpOp} (h : op ≠ .In := by decide) (h2 : op ≠ .NotIn := by decide) : behindInMarks op b = false := by
  have e1 : (op == CmpOp.In) = false := by cases op <;> first | rfl | exact absurd rfl h
  have e2 : (op == CmpOp.NotIn) = false := by cases op <;> first | rfl | exact absurd rfl h2
  cases b <;> simp [behindInMarks, e1, e2]
theorem pe_cmpR {op : CmpOp} {r : R2} (ho : OpR X (compareOp op) r) (ha : PE X a ta) (hb : PE X b tb) (hm : behindInMarks op b = false) : PE X (.Compare a [op] [b] pos) (tOp r ta tb) := by
  intro pins s σ H Q I h
  exact wpAny_Compare1 (binT ha hb I h fun v u s2 x y H2 I2 rx ry q => ho pins s2 σ H2 x y v u Q I2 rx ry q) hm
def tTest (t : TE) : TT := fun σ H Q => t σ H fun x H' => ∃ k, x = .bl k ∧ Q k H'
theorem pt_cmpR {op : CmpOp} {r : R2} (ho : OpR X (compareOp op) r) (ha : PE X a ta) (hb : PE X b tb) (hm : behindInMarks op b = false) : PT X (.Compare a [op] [b] pos) (tTest (tOp r ta tb)) := by
  intro pins s σ H Q I h
  refine wpAny_isTrue_Compare1 (thn (ha pins s σ H _ I h) fun v s1 ⟨x, H1, I1, r1, q1⟩ => thn (hb pins s1 σ H1 _ I1 q1) fun u s2 ⟨y, H2, I2, r2, q2⟩ =>
    thn (ho pins s2 σ H2 x y v u _ I2 r1 r2 q2) fun c s3 ⟨z, H3, I3, r3, k, e, q3⟩ => ?_) hm
  subst e
  cases r3
  exact wpAny_truthy_bool ⟨H3, I3, q3⟩
theorem line63 : (sizeLine : Nat) < 2 ^ 63 := by rw [sizeLine_eq]; decide
theorem vals1 {x : V} {us : List Value} (r : Vals [x] us) : ∃ u, us = [u] ∧ RelV x u := by
  cases r with
  | cons r1 r2 => cases r2; exact ⟨_, rfl, r1⟩
theorem vals2 {x y : V} {us : List Value} (r : Vals [x, y] us) : ∃ u w', us = [u, w'] ∧ RelV x u ∧ RelV y w' := by
  cases r with
  | cons r1 r2 =>
    cases r2 with
    | cons r3 r4 => cases r4; exact ⟨_, _, rfl, r1, r3⟩
theorem call_max2 (hc : X.calm = true) : CallR X (.builtin "max") (fun xs H Q => ∃ i j, xs = [.int i, .int j] ∧ Q (.int (if j > i then j else i)) H) := by
  intro pins s σ H xs us Q I r h
  obtain ⟨i, j, rfl, q⟩ := h
  obtain ⟨u, w', rfl, ⟨t, rfl⟩, ⟨t', rfl⟩⟩ := vals2 r
  refine max_two_ints (I.ok.hd hc) fun h' tk k => ⟨_, H, I.kept k, ?_, q⟩
  by_cases hj : j > i
  · rw [if_pos hj, if_pos hj]; exact ⟨_, rfl⟩
  · rw [if_neg hj, if_neg hj]; exact ⟨_, rfl⟩
theorem call_ord : CallR X (.builtin "ord") (fun xs H Q => ∃ x, xs = [.str x] ∧ x.length = 1 ∧ Q (.int (x.cps.getD 0 0 : Nat)) H) := by
  intro pins s σ H xs us Q I r h
  obtain ⟨x, rfl, hz, q⟩ := h
  obtain ⟨u, rfl, t, rfl⟩ := vals1 r
  exact ord_of_one hz ⟨.int _, H, I.tok _, ⟨_, rfl⟩, q⟩
end
end L2
namespace L2
open PySem PySem.Spec PyProof.Rows
structure ObjM (h : Heap) (x dx C : Addr) (mA : Str → Option Value) : Prop where
  obj : h.get? x = some (PySem.W.instObj C dx)
  ns : h.Ns1 dx mA
  ne : dx ≠ x
theorem lookIn_ns {h : Heap} {dx : Addr} {mA : Str → Option Value} (n : h.Ns1 dx mA) : ∃ od, h.get? dx = some od ∧ ∀ name, PySem.W.lookIn name od = some (mA name) := by
  obtain ⟨o, es, ep, ho, hd, hk, _, hm⟩ := n
  refine ⟨o, ho, fun name => ?_⟩
  have e := hm name
  unfold nsFind findBy at e
  rw [← Array.find?_toList] at e
  unfold PySem.W.lookIn
  rw [hd]
  dsimp only
  split
  · rename_i y q
    rw [q] at e
    exact congrArg some e
  · rename_i q
    rw [q] at e
    have a : es.toList.any (·.refKey) = false := by
      rw [List.any_eq_false]
      intro y hy
      obtain ⟨z, t, hkey⟩ := hk y (Array.mem_toList_iff.mp hy)
      simp [DictEntry.refKey, hkey]
    have a' : ¬ es.toList.any (·.refKey) = true := by rw [a]; exact Bool.false_ne_true
    rw [if_neg a']
    exact congrArg some e
theorem ObjM.look {h : Heap} {x dx C : Addr} {mA : Str → Option Value} (I : ObjM h x dx C mA) : ∃ od, PySem.W.InstAt h x (PySem.W.instObj C dx) C (some od) ∧ ∀ name, PySem.W.lookIn name od = some (mA name) :=
  let ⟨od, ho, hl⟩ := lookIn_ns I.ns
  ⟨od, ⟨I.obj, rfl, rfl, ho⟩, hl⟩
section
variable {prog : Program} {w : World} {A : Around} {E : Value → Shared → Prop} {s : Shared} {K : PySem.W.Frag} {x dx C f : Addr} {mA : Str → Option Value} {name : Str} {v : Value}
theorem get_map {expr : Bool} {Q : Value → Shared → Prop} (X : K.In s.heap) (I : ObjM s.heap x dx C mA) (hg : PySem.W.plainGet K C name = true) (hh : PySem.W.hasDictIn K C = true)
    (ha : PySem.W.findIn K (.ref C) name = some none) (hv : mA name = some v) (hv' : PySem.W.handedIn v = true) (h : Q v { s with toks := s.toks + 1 }) :
    wpAny (model prog w) A (getAttr (.ref x) name expr) Q E s := by
  obtain ⟨od, J, hl⟩ := I.look
  exact PySem.W.get_value X J (PySem.W.plainGet_of hg).1 (PySem.W.findObj_own hh ha rfl (by rw [hl, hv])) hv' h
theorem get_meth {pl : Sem Bool} {Q : Value × List Value → Shared → Prop} (X : K.In s.heap) (I : ObjM s.heap x dx C mA) (hg : PySem.W.plainGet K C name = true)
    (hf : PySem.W.findIn K (.ref C) name = some (some (.ref f))) (ht : PySem.W.isFn K (.ref f) = true) (hv : mA name = none) (h : Q (.ref f, [.ref x]) s) :
    wpAny (model prog w) A (getMethod (.ref x) name pl) Q E s := by
  obtain ⟨od, J, hl⟩ := I.look
  exact PySem.W.method_fn X J (PySem.W.plainGet_of hg).1 (PySem.W.plainGet_of hg).2 hf (beq_iff_eq.mp ht) (by show (PySem.W.lookIn name od).map (·.isSome) = some false; rw [hl, hv]; rfl) h
theorem set_map {ns : List Str} {Q : Unit → Shared → Prop} (X : K.In s.heap) (I : ObjM s.heap x dx C mA)
    (hs : PySem.W.findIn K (.ref C) "__setattr__" = some (some (.builtin "object.__setattr__"))) (hp : PySem.W.plainOver K C = true) (ht : PySem.W.takerIn K C name = some none) (hh : PySem.W.hasDictIn K C = true)
    (hw : PySem.Within mA ns) (hsz : ns.length ≤ sizeLine)
    (h : ∀ h', ObjM h' x dx C (fun y => if y = name then some v else mA y) → Heap.SameBut dx s.heap h' → Q () { s with heap := h', toks := s.toks + 2 }) :
    wpAny (model prog w) A (setAttr (.ref x) name v) Q E s := by
  obtain ⟨od, J, hl⟩ := I.look
  refine PySem.W.set_plain X J hs (PySem.W.osa_open (s := { s with toks := s.toks + 1 }) (r := none) X J hp ht fun b => ?_)
  obtain ⟨cd, hc, hd'⟩ := PySem.W.any_some hh
  have hx : s.heap.get? x = some ⟨.ref C, some dx, .plain, #[]⟩ := I.obj
  refine wpAny_bind (wpAny_pure (wpAny_bind (wpAny_bind (wpAny_loadPart hx (wpAny_bind (PySem.W.Looks.here (s := { s with toks := s.toks + 1 }) (PySem.W.looks_clsIn X hc) ?_))))))
  rw [hd']
  refine wpAny_pure (a := some dx) (wpAny_bind (wpAny_pure (wpAny_bind ?_)))
  refine wpAny_nsSet1 (s := { s with toks := s.toks + 1 }) I.ns fun h' hn2 hs2 => ?_
  obtain ⟨oD, esD, epD, hoD, hdD, hcD⟩ := hn2.count (PySem.Within.cons name v hw)
  refine wpAny_bind (wpAny_lookBehind hoD (by rw [hdD]; exact pastItsLine_dict (Nat.le_trans hcD (by rw [List.length_cons]; omega))) ?_)
  exact wpAny_pure (h _ ⟨(hs2.2 _ (Ne.symm I.ne)).trans I.obj, hn2, I.ne⟩ hs2)
theorem make_map {R : Result → Shared → Prop} {vs : List Value} {kw : List (Str × Value)} (X : K.In s.heap) (hm : PySem.W.makesIn K C = true)
    (hi : PySem.W.findIn K (.ref C) "__init__" = some (some (.ref f))) (hf : PySem.W.typeIn K (.ref f) = some (.type "function"))
    (h : codeAny (model prog w) (A.under (.builtin "type.__call__" ⟨.ref C :: vs, kw⟩)) (.call (.ref f) ⟨.ref (s.heap.objs.size + 1) :: vs, kw⟩) (PySem.W.InitBack (s.heap.objs.size + 1) R)
      { s with heap := (s.heap.push PySem.W.emptyDict).push (PySem.W.instObj C s.heap.objs.size) }) :
    codeAny (model prog w) A (.call (.ref C) ⟨vs, kw⟩) R s := by
  obtain ⟨hh, g, d, t, os⟩ := s
  exact PySem.W.make_core (PySem.W.makes_of X hm) (PySem.W.looks_findIn X hi) (fun self => PySem.W.bind_fn X self hf) (.inl rfl) h
end
def putF (f : Str) (v : V) : List (Str × V) → List (Str × V)
  | [] => [(f, v)]
  | (g, x) :: r => if g = f then (g, v) :: r else (g, x) :: putF f v r
theorem lookup_putF (f g : Str) (v : V) : ∀ fs : List (Str × V), (putF f v fs).lookup g = if g = f then some v else fs.lookup g
  | [] => by
    show List.lookup g [(f, v)] = _
    by_cases h : g = f
    · have hb : (g == f) = true := beq_iff_eq.mpr h
      simp only [List.lookup, hb, if_pos h]
    · have hb : (g == f) = false := beq_eq_false_iff_ne.mpr h
      simp only [List.lookup, hb, if_neg h]
  | (k, x) :: r => by
    have ih := lookup_putF f g v r
    rw [show putF f v ((k, x) :: r) = (if k = f then (k, v) :: r else (k, x) :: putF f v r) from rfl]
    by_cases hk : k = f
    · rw [if_pos hk]
      by_cases h : g = k
      · have hb : (g == k) = true := beq_iff_eq.mpr h
        simp only [List.lookup, hb, if_pos (h.trans hk)]
      · have hb : (g == k) = false := beq_eq_false_iff_ne.mpr h
        simp only [List.lookup, hb, if_neg (fun e : g = f => h (e.trans hk.symm))]
    · rw [if_neg hk]
      by_cases h : g = k
      · have hb : (g == k) = true := beq_iff_eq.mpr h
        simp only [List.lookup, hb, if_neg (fun e : g = f => hk (h.symm.trans e))]
      · have hb : (g == k) = false := beq_eq_false_iff_ne.mpr h
        simp only [List.lookup, hb]
        exact ih
theorem keys_putF (f : Str) (v : V) : ∀ fs : List (Str × V), f ∈ (putF f v fs).map (·.1) ∧ ∀ g, g ∈ fs.map (·.1) → g ∈ (putF f v fs).map (·.1)
  | [] => ⟨by simp [putF], fun g h => by simp at h⟩
  | (k, x) :: r => by
    obtain ⟨i1, i2⟩ := keys_putF f v r
    rw [show putF f v ((k, x) :: r) = (if k = f then (k, v) :: r else (k, x) :: putF f v r) from rfl]
    by_cases hk : k = f
    · rw [if_pos hk]
      subst hk
      exact ⟨by simp, fun g h => by simpa using h⟩
    · rw [if_neg hk]
      refine ⟨?_, fun g h => ?_⟩
      · rw [List.map_cons]
        exact List.mem_cons_of_mem _ i1
      · rw [List.map_cons] at h ⊢
        rcases List.mem_cons.mp h with e | e
        · exact List.mem_cons.mpr (.inl e)
        · exact List.mem_cons_of_mem _ (i2 g e)
theorem length_putF (f : Str) (v : V) : ∀ fs : List (Str × V), (putF f v fs).length ≤ fs.length + 1
  | [] => by simp [putF]
  | (k, x) :: r => by
    have ih := length_putF f v r
    rw [show putF f v ((k, x) :: r) = (if k = f then (k, v) :: r else (k, x) :: putF f v r) from rfl]
    by_cases hk : k = f
    · rw [if_pos hk, List.length_cons, List.length_cons]; omega
    · rw [if_neg hk, List.length_cons, List.length_cons]; omega
theorem RelO.some_of {v : V} {o : Option Value} (r : RelO (some v) o) : ∃ u, o = some u ∧ RelV v u := by
  cases o with
  | none => exact (show False from r).elim
  | some u => exact ⟨u, rfl, r⟩
theorem RelO.none_of {o : Option Value} (r : RelO none o) : o = none := by
  cases o with
  | none => rfl
  | some u => exact (show False from r).elim
theorem handed_of {v : V} {u : Value} (r : RelV v u) : PySem.W.handedIn u = true := by
  cases v with
  | non => cases (show u = Value.none from r); rfl
  | bl b => cases (show u = Value.bool b from r); rfl
  | int i => obtain ⟨t, e⟩ := (show ∃ t, u = Value.int i t from r); cases e; rfl
  | str x => obtain ⟨t, e⟩ := (show ∃ t, u = Value.str x t from r); cases e; rfl
  | byt b => obtain ⟨t, e⟩ := (show ∃ t, u = Value.bytes b t from r); cases e; rfl
  | flt b => obtain ⟨t, e⟩ := (show ∃ t, u = Value.float b t from r); cases e; rfl
  | ref a => cases (show u = Value.ref a from r); rfl
  | ty n => cases (show u = Value.type n from r); rfl
section
variable {P : Program} {w : World} {H H' : Hp} {h h' : Heap} {a C dx : Addr} {fs fs' : List (Str × V)}
theorem ins_get (hok : HOk P w H h) (e : H a = some (.ins C dx fs)) : ∃ mA, ObjM h a dx C mA ∧ (∀ f, RelO (fs.lookup f) (mA f)) ∧ PySem.Within mA (fs.map (·.1)) ∧ fs.length ≤ 1000 ∧ H dx = some (.own a) := by
  obtain ⟨d, z, ne, ob, mA, n, r, q⟩ := (show ObjOk P w H h a (.ins C dx fs) from hok a _ e)
  exact ⟨mA, ⟨ob, n, ne⟩, r, q, z, d⟩
end
structure Cls (K : PySem.W.Frag) (C : Addr) : Prop where
  pg : PySem.W.plainGet K C Str.empty = true
  hd : PySem.W.hasDictIn K C = true
  po : PySem.W.plainOver K C = true
  sa : PySem.W.findIn K (.ref C) "__setattr__" = some (some (.builtin "object.__setattr__"))
theorem Cls.get {K : PySem.W.Frag} {C : Addr} (c : Cls K C) (f : Str) : PySem.W.plainGet K C f = true := c.pg
def NoAttr (K : PySem.W.Frag) (C : Addr) (f : Str) : Prop := PySem.W.findIn K (.ref C) f = some none
theorem NoAttr.taker {K : PySem.W.Frag} {C : Addr} {f : Str} (n : NoAttr K C f) : PySem.W.takerIn K C f = some none := by
  unfold PySem.W.takerIn
  rw [show PySem.W.findIn K (.ref C) f = some none from n]
  rfl
structure Meth (K : PySem.W.Frag) (C : Addr) (m : Str) (f : Addr) : Prop where
  at_ : PySem.W.findIn K (.ref C) m = some (some (.ref f))
  fn : PySem.W.isFn K (.ref f) = true
  kp : PySem.W.keepIn K (.ref f) = true
section
variable {X : Cx} {pins : List (Addr × Obj)} {σ : St} {H : Hp} {s : Shared} {a C dx : Addr} {fs : List (Str × V)} {f : Str} {v : V} {A : Around} {E : Value → Shared → Prop}
theorem getattr_ok {b : Bool} {Q : Value → Shared → Prop} (I : Inv X pins σ H s) (e : H a = some (.ins C dx fs)) (c : Cls X.K C) (n : NoAttr X.K C f) (l : fs.lookup f = some v)
    (h : ∀ u s', Inv X pins σ H s' → RelV v u → Q u s') : wpAny (model X.prog X.w) A (getAttr (.ref a) f b) Q E s := by
  obtain ⟨mA, O, r, _, _, _⟩ := ins_get I.hok e
  obtain ⟨u, hu, ru⟩ := RelO.some_of (v := v) (o := mA f) (by rw [← l]; exact r f)
  exact get_map I.kIn O (c.get f) c.hd n hu (handed_of ru) (h u _ (I.tok _) ru)
theorem getmeth_ok {m : Str} {g : Addr} {pl : Sem Bool} {Q : Value × List Value → Shared → Prop} (I : Inv X pins σ H s) (e : H a = some (.ins C dx fs)) (c : Cls X.K C) (k : Meth X.K C m g) (l : fs.lookup m = none)
    (h : Q (.ref g, [.ref a]) s) : wpAny (model X.prog X.w) A (getMethod (.ref a) m pl) Q E s := by
  obtain ⟨mA, O, r, _, _, _⟩ := ins_get I.hok e
  have hn : mA m = none := RelO.none_of (by rw [← l]; exact r m)
  exact get_meth I.kIn O (c.get m) k.at_ k.fn hn h
theorem setattr_ok {y : V} {u : Value} {Q : Unit → Shared → Prop} (I : Inv X pins σ H s) (e : H a = some (.ins C dx fs)) (c : Cls X.K C) (n : NoAttr X.K C f) (hl : fs.length < 1000) (ry : RelV y u)
    (h : ∀ s', Inv X pins σ (upd H a (.ins C dx (putF f y fs))) s' → Q () s') : wpAny (model X.prog X.w) A (setAttr (.ref a) f u) Q E s := by
  obtain ⟨mA, O, r, wi, _, ho⟩ := ins_get I.hok e
  have hz : (fs.map (·.1)).length ≤ sizeLine := by rw [List.length_map, sizeLine_eq]; omega
  refine set_map I.kIn O c.sa c.po n.taker c.hd wi hz fun h' O' sb => h _ ?_
  have hd : ∃ o, h'.get? dx = some o := let ⟨o, _, _, e', _⟩ := O'.ns; ⟨o, e'⟩
  refine I.write (x := a) (e := dx) (by rw [e]; exact True.intro) (.inr ho) (fun b q hb z => (sb.2 b hb).trans z) hd ?_
  refine ⟨by rw [upd_ne O.ne]; exact ho, ?_, O.ne, O'.obj, _, O'.ns, fun g => ?_, fun g hg => ?_⟩
  · have := length_putF f y fs; omega
  · show RelO ((putF f y fs).lookup g) (if g = f then some u else mA g)
    rw [lookup_putF]
    by_cases q : g = f
    · rw [if_pos q, if_pos q]; exact ry
    · rw [if_neg q, if_neg q]; exact r g
  · by_cases q : g = f
    · rw [q]; exact (keys_putF f y fs).1
    · refine (keys_putF f y fs).2 g (wi g fun z => hg ?_)
      show (if g = f then some u else mA g) = none
      rw [if_neg q]; exact z
theorem Inv.made (I : Inv X pins σ H s) : Inv X pins σ (upd (upd H s.heap.objs.size (.own (s.heap.objs.size + 1))) (s.heap.objs.size + 1) (.ins C s.heap.objs.size []))
    { s with heap := (s.heap.push PySem.W.emptyDict).push (PySem.W.instObj C s.heap.objs.size) } := by
  have e1 : (s.heap.push PySem.W.emptyDict).get? s.heap.objs.size = some PySem.W.emptyDict := Heap.get?_push_size s.heap rfl
  have e2 : ((s.heap.push PySem.W.emptyDict).push (PySem.W.instObj C s.heap.objs.size)).get? (s.heap.objs.size + 1) = some (PySem.W.instObj C s.heap.objs.size) := by
    have := Heap.get?_push_size (s.heap.push PySem.W.emptyDict) (o := PySem.W.instObj C s.heap.objs.size) rfl
    rwa [Heap.size_push] at this
  have e3 : (s.heap.push PySem.W.emptyDict).Ns s.heap.objs.size (fun _ => none) := ⟨PySem.W.emptyDict, #[], _, e1, rfl, (fun e he => absurd he (by simp)), fun _ => rfl⟩
  have I1 := I.laid (a := s.heap.objs.size) (o := .own (s.heap.objs.size + 1)) (h' := s.heap.push PySem.W.emptyDict) (t' := s.toks) (fun b u q => Heap.get?_push_of_some _ q) (Nat.le_refl _) ⟨_, e1⟩
  refine I1.laid (a := s.heap.objs.size + 1) (o := .ins C s.heap.objs.size []) (t' := s.toks) (fun b u q => Heap.get?_push_of_some _ q) (Nat.le_of_eq (Heap.size_push _ _)) ?_
  have ne : s.heap.objs.size ≠ s.heap.objs.size + 1 := Nat.ne_of_lt (Nat.lt_succ_self _)
  refine ⟨by rw [upd_ne ne, upd_same], Nat.zero_le _, ne, e2, fun _ => none, (Heap.Ns1.of_empty e3).at fun o q => Heap.get?_push_of_some _ q, fun _ => True.intro, fun y hy => absurd rfl hy⟩
theorem attr_of {prog : Program} {w : World} {env : Env} {e : Expr} {f : Str} {pos : Pos} {s : Shared} {Q : Value → Shared → Prop} (hb : attributeBase e f env (eval e env) = eval e env)
    (h : wpAny (model prog w) A (eval e env) (fun o s₁ => wpAny (model prog w) A (getAttr o f true) Q E s₁) E s) : wpAny (model prog w) A (eval (.Attribute e f pos) env) Q E s :=
  Attribute_any_ h (by rw [arm_eval_Attribute, hb])
end
section
variable {X : Cx} {o e value : Expr} {f : Str} {pos pos' tpos : Pos} {ta tv : TE}
theorem methcall_of {pl : Sem Bool} {m : Str} {apos : Pos} {args : List Expr} {pins : List (Addr × Obj)} {s : Shared} {σ : St} {H : Hp} {Q : Value → Shared → Prop} {te : TE} (he : PE X e te) (I : Inv X pins σ H s)
    (h : te σ H fun x H1 => ∃ a C dx fs g, x = .ref a ∧ H1 a = some (.ins C dx fs) ∧ Cls X.K C ∧ Meth X.K C m g ∧ fs.lookup m = none ∧
      ∀ s1, Inv X pins σ H1 s1 → wpAny (model X.prog X.w) X.A (callWith pos (.ref g) [.ref a] (backTo pos (starEach args X.env)) (backToKw pos (keywordEach [] X.env))) Q X.xe s1)
    (ht : eval (.Call (.Attribute e m apos) args [] pos) X.env = (do
      let ov ← eval e X.env
      standAt apos.atName
      let (f, first) ← holding [ov] (getMethod ov m pl)
      callWith pos f first (backTo pos (starEach args X.env)) (backToKw pos (keywordEach [] X.env)))) :
    wpAny (model X.prog X.w) X.A (eval (.Call (.Attribute e m apos) args [] pos) X.env) Q X.xe s := by
  refine PySem.W.methodCall_KW (pl := pl) (thn (he pins s σ H _ I h) fun u s1 ⟨x, H1, I1, rx, a, C, dx, fs, g, ex, ea, c, k, l, q⟩ => ?_) ht
  subst ex
  obtain rfl : u = Value.ref a := rx
  exact getmeth_ok I1 ea c k l (q s1 I1)
end
section
variable {X : Cx} {pins : List (Addr × Obj)} {σ : St} {H : Hp} {s : Shared} {A : Around} {E : Value → Shared → Prop} {Q : Value → Shared → Prop} {c : Value} {b : Bool}
end
end L2
namespace L2
open PySem PySem.Spec PyProof.Rows
structure Room (k : Nat) (A : Around) : Prop where
  hd : A.handled = none
  dp : A.depth + 3 * k + 5 < recursionLimit
  un : A.units + 16 * k + 200 < cLine
theorem Room.mono {j k : Nat} {A : Around} (r : Room k A) (h : j ≤ k) : Room j A := ⟨r.hd, by have := r.dp; omega, by have := r.un; omega⟩
theorem Room.deeper {k : Nat} {A : Around} (r : Room (k + 1) A) (env : Env) : Room k (A.deeper env) :=
  ⟨r.hd, by have := r.dp; show A.depth + 1 + 3 * k + 5 < _; omega, by have := r.un; show A.units + 3 + 16 * k + 200 < _; omega⟩
theorem make_depth {A : Around} {C : Addr} {us : List Value} {kw : List (Str × Value)} : (A.under (.builtin "type.__call__" ⟨.ref C :: us, kw⟩)).depth = A.depth + 1 := by
  first | rfl | simp [Around.under, Code.weight, Code.isCreation, Code.isGuard, Code.isCaller, Code.frames, Code.isFrame, guardIds]
theorem make_units {A : Around} {C : Addr} {us : List Value} {kw : List (Str × Value)} : (A.under (.builtin "type.__call__" ⟨.ref C :: us, kw⟩)).units = A.units + 1 := by
  first | rfl | simp [Around.under, Code.cUnits, Code.frames, Code.isFrame]
theorem Room.make {k : Nat} {A : Around} (r : Room (k + 1) A) (C : Addr) (us : List Value) (kw : List (Str × Value)) : Room k (A.under (.builtin "type.__call__" ⟨.ref C :: us, kw⟩)) :=
  ⟨r.hd, by have := r.dp; rw [make_depth]; omega, by have := r.un; rw [make_units]; omega⟩
theorem Room.depth {k : Nat} {A : Around} (r : Room k A) : A.depth < recursionLimit := by have := r.dp; omega
theorem Room.units {k : Nat} {A : Around} (r : Room k A) : A.units + 64 < cLine := by have := r.un; omega
def tNil : TA := fun _ H Q => Q [] H
def tCons (ta : TE) (tr : TA) : TA := fun σ H Q => ta σ H fun x H1 => tr σ H1 fun xs H2 => Q (x :: xs) H2
section
variable {X : Cx} {e : Expr} {es : List Expr} {te : TE} {t : TA} {pos : Pos}
theorem pa_nil : PA X [] tNil := fun _ _ _ _ H Q I h => Calls.spliced_nil ⟨[], H, I, .nil, h⟩
theorem pa_cons (ha : PE X e te) (hr : PA X es t) (hs : starEach (e :: es) X.env = (false, eval e X.env) :: starEach es X.env := by rfl) : PA X (e :: es) (tCons te t) := by
  intro pos pins s σ H Q I h
  rw [hs]
  show wpAny _ _ (spliced ((false, eval e X.env) :: backTo pos (starEach es X.env))) _ _ s
  refine Calls.spliced_cons (thn (ha pins s σ H _ I h) fun u s1 ⟨x, H1, I1, r1, q1⟩ => ?_)
  exact thn (hr pos pins s1 σ H1 _ I1 q1) fun us s2 ⟨xs, H2, I2, r2, q2⟩ => ⟨x :: xs, H2, I2, .cons r1 r2, q2⟩
def tLst (t : TA) : TE := fun σ H Q => t σ H fun xs H1 => xs.length ≤ sizeLine ∧ ∀ p, H1 p = none → Q (.ref p) (upd H1 p (.lst xs))
theorem pe_lst (h : PA X es t) : PE X (.List es pos) (tLst t) := by
  intro pins s σ H Q I hq
  refine wpAny_List_spliced (thn (h pos pins s σ H _ I hq) fun us s1 ⟨xs, H1, I1, r, z, q⟩ => ⟨by rw [← r.length]; exact z, ?_⟩)
  have hf : H1 s1.heap.objs.size = none := I1.hok.fresh (Nat.le_refl _)
  refine ⟨.ref s1.heap.objs.size, upd H1 s1.heap.objs.size (.lst xs), I1.laid (t' := s1.toks) (fun b u e => Heap.get?_push_of_some _ e) (Nat.le_refl _) ?_, rfl, q _ hf⟩
  exact ⟨z, us, 0, r, Heap.get?_push_size _ rfl⟩
end
abbrev Sp := List V → Hp → VK → XK → Prop
abbrev CXT := List Env → Hp → Shared → XK → Value → Shared → Prop
structure Env0 (P : Program) (w : World) (K : PySem.W.Frag) (mg : Str → Option Value) (base : Heap) (A : Around) (outer : List Env) (s : Shared) (H : Hp) : Prop where
  frames : A.frames = some outer
  mod : Mod K mg base
  bs : ∀ b o, base.get? b = some o → s.heap.get? b = some o ∧ H b = none
  bsz : base.objs.size ≤ s.heap.objs.size
  funs : s.heap.FunFrames base outer
  frf : ∀ b ∈ frs outer, H b = none
  hok : HOk P w H s.heap
  bare : AllBare s.gens
def CE (outer : List Env) (P : Program) (w : World) (H : Hp) (s : Shared) (Q : VK) (u : Value) (s' : Shared) : Prop :=
  ∃ v H', s'.os = s.os ∧ AllBare s'.gens ∧ Un (frs outer) [] H H' s.heap s'.heap ∧ HOk P w H' s'.heap ∧ RelV v u ∧ Q v H'
def CR (CX : CXT) (outer : List Env) (P : Program) (w : World) (H : Hp) (s : Shared) (Q : VK) (E : XK) (r : Result) (s' : Shared) : Prop :=
  match r with
  | .ok (.ret u) => CE outer P w H s Q u s'
  | .ok _ => False
  | .error e => CX outer H s E e s'
structure FnOk (P : Program) (w : World) (K : PySem.W.Frag) (mg : Str → Option Value) (base : Heap) (CX : CXT) (k : Nat) (f : Addr) (fd : FuncData) (ps : List Str) (sp : Sp) : Prop where
  len : ∀ vs H Q E, sp vs H Q E → vs.length = ps.length
  run : ∀ (A : Around) (outer : List Env) (s : Shared) (H : Hp) (args : Args) (us : List Value) (vs : List V) (Q : VK) (E : XK), Room k A → Env0 P w K mg base A outer s H → BindsTo s fd args (ps.zip us) → Vals vs us → sp vs H Q E →
    codeAny (model P w) A (.call (.ref f) args) (CR CX outer P w H s Q E) s
theorem Env0.make {P : Program} {w : World} {K : PySem.W.Frag} {mg : Str → Option Value} {base : Heap} {A : Around} {outer : List Env} {s : Shared} {H : Hp} (e : Env0 P w K mg base A outer s H) (C : Addr) (us : List Value) (kw : List (Str × Value)) :
    Env0 P w K mg base (A.under (.builtin "type.__call__" ⟨.ref C :: us, kw⟩)) outer s H := ⟨by first | exact e.frames | (simpa [Around.under, Code.envs, Code.isFrame, pushEnvs] using e.frames), e.mod, e.bs, e.bsz, e.funs, e.frf, e.hok, e.bare⟩
section
variable {X : Cx} {pins : List (Addr × Obj)} {σ : St} {H : Hp} {s s' : Shared}
theorem Inv.env0 (I : Inv X pins σ H s) : Env0 X.prog X.w X.K X.mg X.base X.A X.stack s H :=
  ⟨I.ok.frames, I.ok.mod, I.bs, Nat.le_trans I.ok.bsz I.sz, I.stack, I.stkFree, I.hok, I.bare⟩
theorem Inv.after {Q : VK} {u : Value} (I : Inv X pins σ H s) (h : CE X.stack X.prog X.w H s Q u s') : EP X pins σ Q u s' := by
  obtain ⟨v, H', os, bare, un, hok, r, q⟩ := h
  obtain ⟨hh, g, d, t, os'⟩ := s'
  obtain rfl : os' = s.os := os
  exact ⟨v, H', I.call (h' := hh) (g' := g) (d' := d) (t' := t) (ch := []) un hok bare (fun b z => absurd z (by simp)), r, q⟩
end
def tCall (sp : Sp) (dvs : List V) (E : XK) (t : TA) : TE := fun σ H Q => t σ H fun vs H1 => sp (vs ++ dvs) H1 Q E
def tMeth (C : Addr) (m : Str) (sp : Sp) (dvs : List V) (E : XK) (ta : TE) (t : TA) : TE := fun σ H Q => ta σ H fun x H1 => ∃ a dx fs, x = .ref a ∧ H1 a = some (.ins C dx fs) ∧ fs.lookup m = none ∧
  t σ H1 fun vs H2 => sp (x :: (vs ++ dvs)) H2 Q E
def tMake (C : Addr) (sp : Sp) (dvs : List V) (E : XK) (t : TA) : TE := fun σ H Q => t σ H fun vs H1 => ∀ x dx, H1 x = none → H1 dx = none → dx ≠ x →
  sp (.ref x :: (vs ++ dvs)) (upd (upd H1 dx (.own x)) x (.ins C dx [])) (fun v H2 => v = .non ∧ Q (.ref x) H2) E
def Binds (K : PySem.W.Frag) (fd : FuncData) (ps : List Str) (ds : List Value) : Prop :=
  ∀ (s : Shared) (us : List Value), K.In s.heap → (us ++ ds).length = ps.length → BindsTo s fd ⟨us, []⟩ (ps.zip (us ++ ds))
theorem Binds.all {K : PySem.W.Frag} {fd : FuncData} {ps : List Str} (h : ∀ us : List Value, us.length = ps.length → bindArgs fd ⟨us, []⟩ = pure (ps.zip us)) : Binds K fd ps [] := fun s us _ hl => by
  rw [List.append_nil] at hl ⊢
  exact .of_eq (h us hl)
def Passes (CX : CXT) (X : Cx) (E : XK) : Prop := ∀ (pins : List (Addr × Obj)) (σ : St) (H : Hp) (s : Shared) (e : Value) (s' : Shared), Inv X pins σ H s → CX X.stack H s E e s' → X.xe e s'
section
variable {X : Cx} {CX : CXT} {k : Nat} {f C : Addr} {fd : FuncData} {ps : List Str} {sp : Sp} {dvs : List V} {ds : List Value} {E : XK} {x m : Str} {p pos apos : Pos} {e o : Expr} {es : List Expr} {ta : TE} {t : TA}
theorem run_fn {pins : List (Addr × Obj)} {σ : St} {H : Hp} {s : Shared} {Q : VK} {us : List Value} {vs : List V} (F : FnOk X.prog X.w X.K X.mg X.base CX k f fd ps sp) (hr : Room k X.A) (hb : Binds X.K fd ps ds) (hd : Vals dvs ds) (hx : Passes CX X E)
    (I : Inv X pins σ H s) (r : Vals vs us) (h : sp (vs ++ dvs) H Q E) : wpAny (model X.prog X.w) X.A (call (.ref f) us) (EP X pins σ Q) X.xe s := by
  have r2 : Vals (vs ++ dvs) (us ++ ds) := r.append hd
  have hl : (us ++ ds).length = ps.length := by rw [← r2.length]; exact F.len _ _ _ _ h
  refine wpAny_call (codeAny_mono (F.run X.A X.stack s H ⟨us, []⟩ (us ++ ds) (vs ++ dvs) Q E hr I.env0 (hb s us I.kIn hl) r2 h) fun r s' hq => ?_)
  cases r with
  | error e => exact hx pins σ H s e s' I hq
  | ok fl =>
    cases fl with
    | ret u => exact I.after hq
    | next => exact False.elim hq
    | brk => exact False.elim hq
    | cont => exact False.elim hq
theorem pe_call (F : FnOk X.prog X.w X.K X.mg X.base CX k f fd ps sp) (hr : Room k X.A) (hg : Gl X x) (hm : X.mg x = some (.ref f)) (hk : PySem.W.keepIn X.K (.ref f) = true) (hb : Binds X.K fd ps ds) (hd : Vals dvs ds) (hx : Passes CX X E)
    (ha : PA X (e :: es) t) (hdb : (x == ("__debug__" : Str)) = false := by decide) (he : starEach (e :: es) X.env = (false, eval e X.env) :: starEach es X.env := by rfl) (hpl : (backTo pos (starEach es X.env)).any (·.1) = false := by rfl) :
    PE X (.Call (.Name x p) (e :: es) [] pos) (tCall sp dvs E t) := by
  intro pins s σ H Q I h
  refine wpAny_Call_Name_kw (ld_glob I hg hm ?_ hdb)
  refine PySem.W.callWith_K (h₀ := X.base) I.ok.mod.kin hk (thn (ha pos pins s σ H _ I h) fun us s1 ⟨vs, H1, I1, r, q⟩ => ⟨I1.kIn, ?_⟩) he hpl
  exact run_fn F hr hb hd hx I1 r q
theorem pe_meth {pl : Sem Bool} (he : PE X o ta) (c : Cls X.K C) (hm : Meth X.K C m f) (F : FnOk X.prog X.w X.K X.mg X.base CX k f fd ps sp) (hr : Room k X.A) (hb : Binds X.K fd ps ds) (hd : Vals dvs ds) (hx : Passes CX X E) (ha : PA X (e :: es) t)
    (hst : starEach (e :: es) X.env = (false, eval e X.env) :: starEach es X.env := by rfl) (hpl : (backTo pos (starEach es X.env)).any (·.1) = false := by rfl)
    (ht : eval (.Call (.Attribute o m apos) (e :: es) [] pos) X.env = (do
      let ov ← eval o X.env
      standAt apos.atName
      let (f, first) ← holding [ov] (getMethod ov m pl)
      callWith pos f first (backTo pos (starEach (e :: es) X.env)) (backToKw pos (keywordEach [] X.env))) := by rfl) :
    PE X (.Call (.Attribute o m apos) (e :: es) [] pos) (tMeth C m sp dvs E ta t) := by
  intro pins s σ H Q I h
  refine PySem.W.methodCall_KW (pl := pl) (thn (he pins s σ H _ I h) fun u s1 ⟨x, H1, I1, rx, a, dx, fs, ex, ea, l, q⟩ => ?_) ht
  subst ex
  obtain rfl : u = Value.ref a := rx
  refine getmeth_ok I1 ea c hm l ?_
  refine PySem.W.callWith_K (first := [.ref a]) (h₀ := X.base) I.ok.mod.kin hm.kp (thn (ha pos pins s1 σ H1 _ I1 q) fun us s2 ⟨vs, H2, I2, r, q2⟩ => ⟨I2.kIn, ?_⟩) hst hpl
  exact run_fn (us := .ref a :: us) (vs := .ref a :: vs) F hr hb hd hx I2 (.cons rfl r) q2
theorem pe_meth0 {pl : Sem Bool} (he : PE X o ta) (c : Cls X.K C) (hm : Meth X.K C m f) (F : FnOk X.prog X.w X.K X.mg X.base CX k f fd ps sp) (hr : Room k X.A) (hb : Binds X.K fd ps ds) (hd : Vals dvs ds) (hx : Passes CX X E)
    (ht : eval (.Call (.Attribute o m apos) [] [] pos) X.env = (do
      let ov ← eval o X.env
      standAt apos.atName
      let (f, first) ← holding [ov] (getMethod ov m pl)
      callWith pos f first (backTo pos (starEach [] X.env)) (backToKw pos (keywordEach [] X.env))) := by rfl) :
    PE X (.Call (.Attribute o m apos) [] [] pos) (tMeth C m sp dvs E ta tNil) := by
  intro pins s σ H Q I h
  refine PySem.W.methodCall_KW (pl := pl) (thn (he pins s σ H _ I h) fun u s1 ⟨x, H1, I1, rx, a, dx, fs, ex, ea, l, q⟩ => ?_) ht
  subst ex
  obtain rfl : u = Value.ref a := rx
  refine getmeth_ok I1 ea c hm l ?_
  exact PySem.W.callWith_K0 (first := [.ref a]) I1.kIn hm.kp (run_fn (us := [.ref a]) (vs := [.ref a]) F hr hb hd hx I1 (.cons rfl .nil) q)
structure Mk (K : PySem.W.Frag) (C f : Addr) : Prop where
  makes : PySem.W.makesIn K C = true
  init : PySem.W.findIn K (.ref C) "__init__" = some (some (.ref f))
  fn : PySem.W.isFn K (.ref f) = true
  kp : PySem.W.keepIn K (.ref C) = true
theorem run_make {pins : List (Addr × Obj)} {σ : St} {H : Hp} {s : Shared} {Q : VK} {us : List Value} {vs : List V} (M : Mk X.K C f) (F : FnOk X.prog X.w X.K X.mg X.base CX k f fd ps sp) (hr : Room (k + 1) X.A) (hb : Binds X.K fd ps ds) (hd : Vals dvs ds)
    (hx : Passes CX X E) (I : Inv X pins σ H s) (r : Vals vs us)
    (h : ∀ x dx, H x = none → H dx = none → dx ≠ x → sp (.ref x :: (vs ++ dvs)) (upd (upd H dx (.own x)) x (.ins C dx [])) (fun v H2 => v = .non ∧ Q (.ref x) H2) E) :
    wpAny (model X.prog X.w) X.A (call (.ref C) us) (EP X pins σ Q) X.xe s := by
  have hq := h (s.heap.objs.size + 1) s.heap.objs.size (I.hok.fresh (Nat.le_succ _)) (I.hok.fresh (Nat.le_refl _)) (Nat.ne_of_lt (Nat.lt_succ_self _))
  have I2 := Inv.made (C := C) I
  have r2 : Vals (V.ref (s.heap.objs.size + 1) :: (vs ++ dvs)) (Value.ref (s.heap.objs.size + 1) :: (us ++ ds)) := .cons rfl (r.append hd)
  have hl : (Value.ref (s.heap.objs.size + 1) :: us ++ ds).length = ps.length := by
    have e := r2.length
    rw [F.len _ _ _ _ hq] at e
    exact e.symm
  refine wpAny_call (make_map (f := f) I.kIn M.makes M.init (beq_iff_eq.mp M.fn) (codeAny_mono (F.run _ X.stack _ _ ⟨Value.ref (s.heap.objs.size + 1) :: us, []⟩ (Value.ref (s.heap.objs.size + 1) :: (us ++ ds)) _ _ E (hr.make C us [])
    (I2.env0.make C us []) (hb _ (Value.ref (s.heap.objs.size + 1) :: us) I2.kIn hl) r2 hq) fun r s' hq' => ?_))
  cases r with
  | error e => exact hx pins σ _ _ e s' I2 hq'
  | ok fl =>
    cases fl with
    | ret u =>
      obtain ⟨v, H', I3, rv, ev, q3⟩ := I2.after hq'
      subst ev
      exact ⟨rv, ⟨V.ref (s.heap.objs.size + 1), H', I3, rfl, q3⟩⟩
    | next => exact False.elim hq'
    | brk => exact False.elim hq'
    | cont => exact False.elim hq'
theorem pe_make (M : Mk X.K C f) (F : FnOk X.prog X.w X.K X.mg X.base CX k f fd ps sp) (hr : Room (k + 1) X.A) (hg : Gl X x) (hm : X.mg x = some (.ref C)) (hb : Binds X.K fd ps ds) (hd : Vals dvs ds) (hx : Passes CX X E)
    (ha : PA X (e :: es) t) (hdb : (x == ("__debug__" : Str)) = false := by decide) (he : starEach (e :: es) X.env = (false, eval e X.env) :: starEach es X.env := by rfl) (hpl : (backTo pos (starEach es X.env)).any (·.1) = false := by rfl) :
    PE X (.Call (.Name x p) (e :: es) [] pos) (tMake C sp dvs E t) := by
  intro pins s σ H Q I h
  refine wpAny_Call_Name_kw (ld_glob I hg hm ?_ hdb)
  refine PySem.W.callWith_K (h₀ := X.base) I.ok.mod.kin M.kp (thn (ha pos pins s σ H _ I h) fun us s1 ⟨vs, H1, I1, r, q⟩ => ⟨I1.kIn, ?_⟩) he hpl
  exact run_make M F hr hb hd hx I1 r q
theorem pe_make0 (M : Mk X.K C f) (F : FnOk X.prog X.w X.K X.mg X.base CX k f fd ps sp) (hr : Room (k + 1) X.A) (hg : Gl X x) (hm : X.mg x = some (.ref C)) (hb : Binds X.K fd ps ds) (hd : Vals dvs ds) (hx : Passes CX X E)
    (hdb : (x == ("__debug__" : Str)) = false := by decide) : PE X (.Call (.Name x p) [] [] pos) (tMake C sp dvs E tNil) := by
  intro pins s σ H Q I h
  refine wpAny_Call_Name_kw (ld_glob I hg hm ?_ hdb)
  exact PySem.W.callWith_K0 I.kIn M.kp (run_make (us := []) M F hr hb hd hx I .nil h)
end
section
variable {X : Cx} {CX : CXT} {k : Nat} {f C : Addr} {fd : FuncData} {ps ks : List Str} {sp : Sp} {E : XK} {x m : Str} {p pos apos kpos : Pos} {e o : Expr} {es : List Expr} {kws : List Keyword} {te ta : TE} {t tk : TA} {nm : Option Str}
variable {g : List Value → List Value → List Value} {gV : List V → List V → List V}
end
structure FnScope (N P : List Str) (sc : Scope) : Prop where
  kind : sc.kind = .function
  co : sc.isCoroutine = false
  gen : sc.isGenerator = false
  nd : N.Nodup
  pre : N.take P.length = P
  par : ∀ x ∈ P, sc.names.lookup x = some .local ∨ sc.names.lookup x = some .cell
  nofree : ∀ y ∈ sc.names, y.2 ≠ .free
theorem bindL_out {kindOf : Str → Option NameKind} {x : Str} : ∀ {binds : List (Str × Value)} {m : Str → Option Value}, (∀ v, (x, v) ∉ binds) → bindL kindOf binds m x = m x
  | [], _, _ => rfl
  | (n, v) :: r, m, h => by
    unfold bindL
    rw [bindL_out fun w hw => h w (List.mem_cons_of_mem _ hw)]
    split
    · have : x ≠ n := by rintro rfl; exact h v List.mem_cons_self
      simp [this]
    · rfl
theorem bindC_out {kindOf : Str → Option NameKind} {x : Str} : ∀ {binds : List (Str × Value)} {m : Str → Option Value}, (∀ v, (x, v) ∉ binds) → bindC kindOf binds m x = m x
  | [], _, _ => rfl
  | (n, v) :: r, m, h => by
    unfold bindC
    rw [bindC_out fun w hw => h w (List.mem_cons_of_mem _ hw)]
    split
    · rfl
    · have : x ≠ n := by rintro rfl; exact h v List.mem_cons_self
      simp [this]
theorem bindL_get {kindOf : Str → Option NameKind} {x : Str} {v : Value} : ∀ {P : List Str} {vs : List Value} {i : Nat} {m : Str → Option Value}, P.Nodup → P[i]? = some x → vs[i]? = some v → kindOf x = some .local →
    bindL kindOf (P.zip vs) m x = some v
  | [], _, _, _, _, h, _, _ => by simp at h
  | _ :: _, [], _, _, _, _, h, _ => by simp at h
  | p :: P, w :: vs, 0, m, nd, h1, h2, hk => by
    simp at h1 h2; subst h1; subst h2
    show bindL kindOf ((p, w) :: P.zip vs) m p = _
    unfold bindL
    rw [bindL_out fun v hv => (List.nodup_cons.mp nd).1 (List.of_mem_zip hv).1, if_pos hk]
    simp
  | p :: P, w :: vs, i + 1, m, nd, h1, h2, hk => by
    show bindL kindOf ((p, w) :: P.zip vs) m x = _
    unfold bindL
    exact bindL_get (i := i) (List.nodup_cons.mp nd).2 (by simpa using h1) (by simpa using h2) hk
theorem bindC_get {kindOf : Str → Option NameKind} {x : Str} {v : Value} : ∀ {P : List Str} {vs : List Value} {i : Nat} {m : Str → Option Value}, P.Nodup → P[i]? = some x → vs[i]? = some v → kindOf x ≠ some .local →
    bindC kindOf (P.zip vs) m x = some v
  | [], _, _, _, _, h, _, _ => by simp at h
  | _ :: _, [], _, _, _, _, h, _ => by simp at h
  | p :: P, w :: vs, 0, m, nd, h1, h2, hk => by
    simp at h1 h2; subst h1; subst h2
    show bindC kindOf ((p, w) :: P.zip vs) m p = _
    unfold bindC
    rw [bindC_out fun v hv => (List.nodup_cons.mp nd).1 (List.of_mem_zip hv).1, if_neg hk]
    simp
  | p :: P, w :: vs, i + 1, m, nd, h1, h2, hk => by
    show bindC kindOf ((p, w) :: P.zip vs) m x = _
    unfold bindC
    exact bindC_get (i := i) (List.nodup_cons.mp nd).2 (by simpa using h1) (by simpa using h2) hk
def start (N : List Str) (vs : List V) : St := vs.map some ++ List.replicate (N.length - vs.length) none
def cxOf (CX : CXT) (P : Program) (w : World) (K : PySem.W.Frag) (mg : Str → Option Value) (base : Heap) (N : List Str) (qual : Str) (scope : Scope) (f : Addr) (cd : Value) (A : Around) (outer : List Env) (s : Shared) (H : Hp) (E : XK) : Cx where
  prog := P
  w := w
  K := K
  mg := mg
  base := base
  A := A.deeper (envOfC qual scope s.heap.objs.size f cd)
  N := N
  s₀ := s
  H₀ := H
  env := envOfC qual scope s.heap.objs.size f cd
  outer := outer
  stack := envOfC qual scope s.heap.objs.size f cd :: outer
  ex := []
  calm := true
  fn := fun _ => true
  pn := []
  xe := fun e s' => wpAny (model P w) (A.deeper (envOfC qual scope s.heap.objs.size f cd)) (leaving (envOfC qual scope s.heap.objs.size f cd) e) (fun _ s'' => CX outer H s E e s'') (fun e' s'' => CX outer H s E e' s'') s'
theorem cell_has {sc : Scope} {n : Nat} {x : Str} (h : sc.names.lookup x = some .cell) : ∃ c, (cellsFrom n sc.names []).lookup x = some c := by
  have q := PySem.W.cellsFrom_some sc.names n [] (.inl h)
  exact Option.isSome_iff_exists.mp q
theorem inv_start {CX : CXT} {P : Program} {w : World} {K : PySem.W.Frag} {mg : Str → Option Value} {base : Heap} {N ps : List Str} {qual : Str} {scope : Scope} {f : Addr} {cd : Value} {A : Around} {outer : List Env} {s s1 : Shared} {H : Hp} {E : XK} {us : List Value} {vs : List V}
    (S : FnScope N ps scope) (hd : A.handled = none) (e0 : Env0 P w K mg base A outer s H) (hl : vs.length = ps.length) (r : Vals vs us)
    (x : InCallC s s.heap.objs.size (bindL (envOfC qual scope s.heap.objs.size f cd).kindOf (ps.zip us) fun _ => none) (cellsFrom (s.heap.objs.size + 1) scope.names []) (bindC (envOfC qual scope s.heap.objs.size f cd).kindOf (ps.zip us) fun _ => none) s1) :
    Inv (cxOf CX P w K mg base N qual scope f cd A outer s H E) [] (start N vs) H s1 := by
  have hpl : ps.length ≤ N.length := by have := congrArg List.length S.pre; rw [List.length_take] at this; omega
  obtain ⟨h1, tk, rfl, hk⟩ := x.done
  have noA : ∀ b : Addr, b ∉ (cxOf CX P w K mg base N qual scope f cd A outer s H E).ex := fun b z => absurd (show b ∈ ([] : List Addr) from z) (by simp)
  refine ⟨⟨e0.mod, S.kind, rfl, rfl, Nat.le_refl _, fun y z c h1 h2 => ?_, fun y hy => ?_, fun y c _ h => ?_, fun _ => hd, Around.frames_deeper e0.frames, .inr ⟨rfl, rfl⟩, fun b z => absurd z (noA b), e0.bs, e0.bsz, fun b _ _ => noA b, fun b z => absurd z (noA b), e0.funs, e0.frf⟩,
    rfl, e0.bare, Un.kept hk, ⟨_, x.toInCall.ns, fun i y v h1 h2 h3 => ?_⟩, fun y c h => ⟨_, x.cell y c h⟩, e0.hok.fresh (Nat.le_refl _), fun y c h => ?_, fun p hp => absurd (show p ∈ ([] : List (Addr × Obj)) from hp) (by simp), e0.hok.kept hk, ?_⟩
  · exact name_of_addr x.apart (PySem.mem_of_lookup h1) (PySem.mem_of_lookup h2)
  · have hy : scope.names.lookup y = some .cell ∨ scope.names.lookup y = some .free := hy
    rcases hy with hy | hy
    · exact cell_has hy
    · exact absurd rfl (S.nofree _ (PySem.mem_of_lookup hy))
  · exact Nat.le_of_lt (x.above y c (PySem.mem_of_lookup h))
  · have hi : i < vs.length := by
      unfold start at h2
      by_cases hi : i < vs.length
      · exact hi
      · rw [List.getElem?_append_right (by simpa using hi)] at h2
        rw [List.getElem?_replicate] at h2
        split at h2 <;> cases h2
    have ha : vs[i]? = some v := by
      unfold start at h2
      rw [List.getElem?_append_left (by simpa using hi), List.getElem?_map] at h2
      cases e : vs[i]? with
      | none => rw [e] at h2; cases h2
      | some a => rw [e] at h2; cases h2; rfl
    obtain ⟨u, hu, rv⟩ := r.get ha
    have hp : ps[i]? = some y := by
      rw [← S.pre, List.getElem?_take_of_lt (by omega)]; exact h1
    have ndP : ps.Nodup := by rw [← S.pre]; exact S.nd.sublist (List.take_sublist _ _)
    refine ⟨u, rv, ?_⟩
    rcases S.par y (List.mem_of_getElem? hp) with k | k
    · exact .inl ⟨k, bindL_get ndP hp hu k⟩
    · obtain ⟨c, e⟩ := cell_has (n := s.heap.objs.size + 1) k
      refine .inr ⟨.inl k, c, e, ?_⟩
      have q := x.cell y c e
      rw [bindC_get ndP hp hu (by show scope.names.lookup y ≠ _; rw [k]; decide)] at q
      exact q
  · exact e0.hok.fresh (Nat.le_of_lt (x.above y c (PySem.mem_of_lookup h)))
  · unfold start
    show _ = N.length
    rw [List.length_append, List.length_map, List.length_replicate]
    omega
theorem fn_of {CX : CXT} {P : Program} {w : World} {K : PySem.W.Frag} {mg : Str → Option Value} {base : Heap} {k : Nat} {f : Addr} {name qual : Str} {params : Arguments} {body : List Stmt} {scope : Scope} {dV kV doc pm cdv ct oc : Value} {an od : Option Addr}
    {osl : Array (Option Value)} {N ps : List Str} {sp : Sp} (lk : K.lookup f = some ⟨oc, od, .func (PySem.W.fnOf name qual params body scope dV kV doc pm an cdv ct), osl⟩) (hcd : PySem.W.codeIn K cdv qual = true) (S : FnScope N ps scope)
    (len : ∀ vs H Q E, sp vs H Q E → vs.length = ps.length)
    (hbody : ∀ (A : Around) (outer : List Env) (s : Shared) (H : Hp) (vs : List V) (Q : VK) (E : XK), Room k (A.deeper (envOfC qual scope s.heap.objs.size f cdv)) → sp vs H Q E →
      ∃ t, PSs (cxOf CX P w K mg base N qual scope f cdv A outer s H E) body t ∧ t { nx := fun _ H' => Q .non H', rt := Q } (start N vs) H) :
    FnOk P w K mg base CX (k + 1) f (PySem.W.fnOf name qual params body scope dV kV doc pm an cdv ct) ps sp := by
  refine ⟨len, fun A outer s H args us vs Q E hr e0 hb r hsp => ?_⟩
  have hl := len _ _ _ _ hsp
  have KX : K.In s.heap := e0.mod.kin.keeps fun b o e => (e0.bs b o e).1
  have lim : s.heap.NoLimit := e0.mod.nolimit.keeps fun b o e => (e0.bs b o e).1
  have hkind : ∀ y ∈ ps.zip us, scope.names.lookup y.1 = some .local ∨ (scope.names.lookup y.1 = some .cell ∧ ((cellsFrom (s.heap.objs.size + 1) scope.names []).lookup y.1).isSome = true) := fun ⟨n, v⟩ hy => by
    rcases S.par n (List.of_mem_zip hy).1 with q | q
    · exact .inl q
    · exact .inr ⟨q, PySem.W.cellsFrom_some _ _ _ (.inl q)⟩
  refine codeAny_call_function hr.depth (KX _ _ lk) rfl S.co S.gen rfl (PySem.W.codeRec_of KX hcd) (hb _ _ _ _ ?_)
  refine wpAny_newFunctionEnv_cells S.kind hkind fun env he s1 x => ?_
  subst he
  refine ⟨lim.keeps x.toInCall.keep, codeAny_func ?_⟩
  obtain ⟨t, ht, hq⟩ := hbody A outer s H vs Q E (hr.deeper _) hsp
  have I : Inv (cxOf CX P w K mg base N qual scope f cdv A outer s H E) [] (start N vs) H s1 := inv_start S hr.hd e0 hl r x
  refine wpAny_mono (ht [] s1 (start N vs) H _ I hq) (fun fl s' hs => ?_) fun e s' hs => hs
  have fin : ∀ {σ' : St} {H' : Hp} {v : V} {u : Value}, Inv (cxOf CX P w K mg base N qual scope f cdv A outer s H E) [] σ' H' s' → RelV v u → Q v H' → CE outer P w H s Q u s' :=
    fun {σ' H' v u} J rv q => ⟨v, H', J.os, J.bare, J.base, J.hok, rv, q⟩
  cases fl with
  | ret u =>
    obtain ⟨v, σ', H', J, rv, q⟩ := hs
    exact fin J rv q
  | next =>
    obtain ⟨σ', H', J, q⟩ := hs
    exact fin (v := V.non) (u := Value.none) J rfl q
  | brk =>
    obtain ⟨_, _, _, q⟩ := hs
    exact False.elim q
  | cont =>
    obtain ⟨_, _, _, q⟩ := hs
    exact False.elim q
end L2
namespace L2
open PySem PySem.Spec PyProof.Rows
section
variable {X : Cx} {x : Str} {p pos : Pos} {e : Expr} {es : List Expr} {t : TA} {id T : String} {r : List V → Hp → VK → Prop}
def tCB (r : List V → Hp → VK → Prop) (t : TA) : TE := fun σ H Q => t σ H fun vs H1 => r vs H1 Q
theorem pe_callB (hc : CallR X (.builtin id) r) (hg : Gl X x) (hm : X.mg x = none) (hv : bootBuiltins x = some (.builtin id)) (ha : PA X (e :: es) t) (hn : x ≠ "__name__" := by decide) (hdb : (x == ("__debug__" : Str)) = false := by decide)
    (he : starEach (e :: es) X.env = (false, eval e X.env) :: starEach es X.env := by rfl) (hpl : (backTo pos (starEach es X.env)).any (·.1) = false := by rfl) : PE X (.Call (.Name x p) (e :: es) [] pos) (tCB r t) := by
  intro pins s σ H Q I h
  refine wpAny_Call_Name_kw (ld_blt I hg hm hv ?_ hn hdb)
  exact PyProof.Rows.callWith_builtin1 (thn (ha pos pins s σ H _ I h) fun us s1 ⟨vs, H1, I1, r1, q1⟩ => hc pins s1 σ H1 vs us Q I1 r1 q1) he hpl
theorem pe_callTy (hc : CallR X (.type T) r) (hg : Gl X x) (hm : X.mg x = none) (hv : bootBuiltins x = some (.type T)) (ha : PA X (e :: es) t) (hn : x ≠ "__name__" := by decide) (hdb : (x == ("__debug__" : Str)) = false := by decide)
    (he : starEach (e :: es) X.env = (false, eval e X.env) :: starEach es X.env := by rfl) (hpl : (backTo pos (starEach es X.env)).any (·.1) = false := by rfl) : PE X (.Call (.Name x p) (e :: es) [] pos) (tCB r t) := by
  intro pins s σ H Q I h
  refine wpAny_Call_Name_kw (ld_blt I hg hm hv ?_ hn hdb)
  exact PyProof.Rows.callWith_type1 (thn (ha pos pins s σ H _ I h) fun us s1 ⟨vs, H1, I1, r1, q1⟩ => hc pins s1 σ H1 vs us Q I1 r1 q1) he hpl
end
end L2
namespace HT
open PySem PyProof.Rows
theorem eqAt_int (A : Around) (s : Shared) (a : Int) (t : Tok) (c : Int) (u : Tok) : ∃ e, SeqAt.EqAt A s (.int a t) (.int c u) e ∧ (e = true ↔ a = c) :=
  ⟨(a == c), SeqAt.EqAt.int_int a t c u, by simp⟩
section
open PySem.SeqAt
open PySem.AutoSeq1 (wpAny_loadPart')
open PySem.MeetsSeq PySem.MeetsSeq2 PySem.MeetsSeq3
end
section
variable {prog : Program} {w : World} {A : Around} {E : Value → Shared → Prop} {s : Shared}
def sIx (n d : Nat) : Option Int → Nat
  | none => d
  | some v => if v < 0 then (v + (n : Int)).toNat else min v.toNat n
theorem sIx_none (n d : Nat) : sIx n d none = d := rfl
theorem sIx_nat (n d k : Nat) : sIx n d (some (k : Int)) = min k n := by
  show (if (k : Int) < 0 then ((k : Int) + (n : Int)).toNat else min (k : Int).toNat n) = min k n
  rw [if_neg (by omega), Int.toNat_natCast]
end
end HT
namespace L2
open PySem PySem.Spec PyProof.Rows
abbrev TO := St → Hp → (Option Int → Hp → Prop) → Prop
def PO (X : Cx) (e : Option Expr) (t : TO) : Prop :=
  ∀ (pins : List (Addr × Obj)) (s : Shared) (σ : St) (H : Hp) (Q : Option Int → Hp → Prop), Inv X pins σ H s → t σ H Q →
    wpAny (model X.prog X.w) X.A (evalPart e X.env) (fun u s' => ∃ o H', Inv X pins σ H' s' ∧ IsPart u o ∧ Q o H') X.xe s
def tNoPart : TO := fun _ H Q => Q none H
def tPart (t : TE) : TO := fun σ H Q => t σ H fun x H1 => ∃ i, x = .int i ∧ Q (some i) H1
theorem intsAre_of {ns : List Int} : ∀ {us : List Value}, Vals (ns.map V.int) us → IntsAre us ns := by
  induction ns with
  | nil => intro us r; rw [List.map_nil] at r; cases r; exact .nil
  | cons n ns ih =>
    intro us r
    rw [List.map_cons] at r
    cases r with
    | cons r1 r2 =>
      obtain ⟨t, e⟩ := r1
      subst e
      exact .cons n t (ih r2)
section
variable {X : Cx} {e : Expr} {te : TE} {lo hi : Option Expr} {tl th : TO} {pos p2 : Pos}
theorem po_none : PO X none tNoPart := by
  intro pins s σ H Q I h
  rw [evalPart_none]
  exact wpAny_pure ⟨none, H, I, .none, h⟩
theorem po_some (h : PE X e te) : PO X (some e) (tPart te) := by
  intro pins s σ H Q I hw
  rw [evalPart_some]
  refine thn (h pins s σ H _ I hw) fun u s1 ⟨x, H1, I1, r1, q1⟩ => ?_
  obtain ⟨i, rfl, q⟩ := q1
  obtain ⟨t, rfl⟩ := r1
  exact ⟨some i, H1, I1, .int i t, q⟩
def SlR (X : Cx) (r : V → Option Int → Option Int → Hp → VK → Prop) : Prop :=
  ∀ (pins : List (Addr × Obj)) (s : Shared) (σ : St) (H : Hp) (x : V) (v vl vu : Value) (lo hi : Option Int) (sl : Addr) (Q : VK), Inv X pins σ H s → RelV x v → s.heap.IsSliceOf sl vl vu .none → IsPart vl lo → IsPart vu hi → r x lo hi H Q →
    ∃ T id, typeLookup (.type T) "__getitem__" = pure (some (.builtin id)) ∧ s.TypeIs v T ∧ wpAny (model X.prog X.w) X.A (getItem v (.ref sl)) (EP X pins σ Q) X.xe s
def tSl (r : V → Option Int → Option Int → Hp → VK → Prop) (te : TE) (tl th : TO) : TE := fun σ H Q => te σ H fun x H1 => tl σ H1 fun l H2 => th σ H2 fun u H3 => r x l u H3 Q
theorem pe_slice {r : V → Option Int → Option Int → Hp → VK → Prop} (hr : SlR X r) (he : PE X e te) (hl : PO X lo tl) (hu : PO X hi th) : PE X (.Subscript e (.Slice lo hi none p2) pos) (tSl r te tl th) := by
  intro pins s σ H Q I h
  refine Subscript_ (thn (he pins s σ H _ I h) fun v s1 ⟨x, H1, I1, r1, q1⟩ => ?_)
  refine wpAny_Slice (thn (hl pins s1 σ H1 _ I1 q1) fun vl s2 ⟨l, H2, I2, pl, q2⟩ => thn (hu pins s2 σ H2 _ I2 q2) fun vu s3 ⟨u, H3, I3, pu, q3⟩ => ?_)
  rw [evalPart_none]
  refine wpAny_pure ?_
  have I4 : Inv X pins σ H3 { s3 with heap := s3.heap.push { cls := .type "slice", data := .fields #[vl, vu, .none] } } := I3.kept (t' := s3.toks) fun b ob q => Heap.get?_push_of_some _ q
  obtain ⟨T, id, hT, ht, hg⟩ := hr pins { s3 with heap := s3.heap.push { cls := .type "slice", data := .fields #[vl, vu, .none] } } σ H3 x v vl vu l u s3.heap.objs.size Q I4 r1 (Heap.IsSliceOf.new ..) pl pu q3
  show wpAny (model X.prog X.w) X.A (subscriptTail e (.Slice lo hi none p2) v (.ref s3.heap.objs.size)) (EP X pins σ Q) X.xe { s3 with heap := s3.heap.push { cls := .type "slice", data := .fields #[vl, vu, .none] } }
  exact tail_any (ops := [.ref s3.heap.objs.size, v]) ht hT hg (by with_unfolding_all rfl)
def cutV (xs : List V) (lo hi : Option Int) : List V := (xs.drop (HT.sIx xs.length 0 lo)).take (HT.sIx xs.length xs.length hi - HT.sIx xs.length 0 lo)
theorem cutV_length (xs : List V) (lo hi : Option Int) : (cutV xs lo hi).length ≤ xs.length := by
  unfold cutV
  rw [List.length_take, List.length_drop]
  omega
end
end L2
namespace L2
open PySem PySem.Spec PyProof.Rows
def ixN (n : Nat) (i : Int) : Option Nat := if 0 ≤ i then (if i < n then some i.toNat else none) else if -(n : Int) ≤ i then some (i + n).toNat else none
def atI {α : Type} (xs : List α) (i : Int) : Option α := (ixN xs.length i).bind fun j => xs[j]?
theorem ixN_seq {n : Nat} {i : Int} {j : Nat} (h : ixN n i = some j) : seqIndex? i n = some j ∧ j < n ∧ -(n : Int) ≤ i ∧ i < n := by
  unfold ixN at h
  by_cases h0 : 0 ≤ i
  · rw [if_pos h0] at h
    by_cases h1 : i < n
    · rw [if_pos h1] at h
      have e : i.toNat = j := Option.some.inj h
      exact ⟨by rw [seqIndex_of h0 h1, e], by omega, by omega, h1⟩
    · rw [if_neg h1] at h; cases h
  · rw [if_neg h0] at h
    by_cases h1 : -(n : Int) ≤ i
    · rw [if_pos h1] at h
      have e : (i + n).toNat = j := Option.some.inj h
      exact ⟨by rw [seqIndex_neg (by omega) h1, e], by omega, h1, by omega⟩
    · rw [if_neg h1] at h; cases h
theorem atI_get {α : Type} {xs : List α} {i : Int} {v : α} (h : atI xs i = some v) : ∃ j, seqIndex? i xs.length = some j ∧ xs[j]? = some v ∧ j < xs.length ∧ -(xs.length : Int) ≤ i ∧ i < xs.length := by
  unfold atI at h
  cases e : ixN xs.length i with
  | none => rw [e] at h; cases h
  | some j =>
    rw [e] at h
    obtain ⟨h1, h2, h3, h4⟩ := ixN_seq e
    exact ⟨j, h1, h, h2, h3, h4⟩
theorem atI_nat {α : Type} {xs : List α} {j : Nat} {v : α} (h : xs[j]? = some v) : atI xs (j : Int) = some v := by
  have hj : j < xs.length := (List.getElem?_eq_some_iff.mp h).1
  have e : ixN xs.length (j : Int) = some j := by
    unfold ixN
    rw [if_pos (by omega), if_pos (by omega)]; simp
  unfold atI; rw [e]; exact h
def PlainIx (b : Expr) : Prop := ∀ o i, subscripted b false o i = operate [o, i] (getItem o i)
def IxR (X : Cx) (r : R2) : Prop :=
  ∀ (value slice : Expr) (pins : List (Addr × Obj)) (s : Shared) (σ : St) (H : Hp) (x y : V) (v u : Value) (Q : VK), Inv X pins σ H s → RelV x v → RelV y u → r x y H Q →
    subscripted slice false v u = operate [v, u] (getItem v u) → wpAny (model X.prog X.w) X.A (subscriptTail value slice v u) (EP X pins σ Q) X.xe s
def MtR (X : Cx) (id : String) (r : V → List V → Hp → VK → Prop) : Prop :=
  ∀ (pins : List (Addr × Obj)) (s : Shared) (σ : St) (H : Hp) (x : V) (xs : List V) (v : Value) (us : List Value) (Q : VK), Inv X pins σ H s → RelV x v → Vals xs us → r x xs H Q →
    wpAny (model X.prog X.w) X.A (call (.builtin id) (v :: us)) (EP X pins σ Q) X.xe s
section
variable {X : Cx} {a b : Expr} {ta tb : TE} {pos : Pos}
theorem pe_ix {r : R2} (hr : IxR X r) (ha : PE X a ta) (hb : PE X b tb) (hs : PlainIx b) : PE X (.Subscript a b pos) (tOp r ta tb) := by
  intro pins s σ H Q I h
  exact Subscript_ (binT ha hb I h fun v u s2 x y H2 I2 rx ry q => hr a b pins s2 σ H2 x y v u Q I2 rx ry q (hs _ _))
def rIxL (K : PySem.W.Frag) : R2 := fun x y H Q => ∃ p xs i v, x = .ref p ∧ y = .int i ∧ SqL K H p xs ∧ atI xs i = some v ∧ Q v H
def rIxT (K : PySem.W.Frag) : R2 := fun x y H Q => ∃ p xs i v, x = .ref p ∧ y = .int i ∧ SqT K H p xs ∧ atI xs i = some v ∧ Q v H
theorem ix_list : IxR X (rIxL X.K) := by
  intro value slice pins s σ H x y v u Q I rx ry h hs
  obtain ⟨p, xs, i, z, rfl, rfl, hq, he, q⟩ := h
  cases rx
  obtain ⟨t, rfl⟩ := ry
  obtain ⟨its, r, pl, hz⟩ := I.list hq
  obtain ⟨j, h1, h2, h3, h4, h5⟩ := atI_get he
  obtain ⟨w, ew, rw'⟩ := r.get h2
  have hl := r.length
  have hn := line63
  have fin : EP X pins σ Q w s := ⟨z, H, I, rw', q⟩
  by_cases h0 : 0 ≤ i
  · have hj : i.toNat = j := by
      rw [seqIndex_of h0 h5] at h1
      exact Option.some.inj h1
    exact item_listR pl.isList h0 (by omega) (by rw [hj]; simpa using ew) fin hs
  · have hj : (i + (its.toArray.size : Int)).toNat = j := by
      rw [seqIndex_neg (by omega) h4] at h1
      rw [List.size_toArray, ← hl]
      exact Option.some.inj h1
    exact subscriptTail_builtinR (x := w) pl.isList.typeIs slot_list_getitem.lookup
      (wpAny_getItem_list_neg (Q := fun r s' => r = w ∧ EP X pins σ Q r s') pl.isList (by omega) (by rw [List.size_toArray] <;> omega) (by omega) (by rw [hj]; simpa using ew) ⟨rfl, fin⟩) hs
theorem ix_tup : IxR X (rIxT X.K) := by
  intro value slice pins s σ H x y v u Q I rx ry h hs
  obtain ⟨p, xs, i, z, rfl, rfl, hq, he, q⟩ := h
  cases rx
  obtain ⟨t, rfl⟩ := ry
  obtain ⟨its, r, pl, hz⟩ := I.tuple hq
  obtain ⟨j, h1, h2, h3, h4, h5⟩ := atI_get he
  obtain ⟨w, ew, rw'⟩ := r.get h2
  have hl := r.length
  have hn := line63
  have fin : EP X pins σ Q w s := ⟨z, H, I, rw', q⟩
  exact subscriptTail_builtinR (x := w) pl.typeIs slot_tuple_getitem.lookup
    (getItem_tuple (j := j) (Q := fun r s' => r = w ∧ EP X pins σ Q r s') pl (by omega) (by omega) (by rw [List.size_toArray, ← hl]; exact h1) (by simpa using ew) ⟨rfl, fin⟩) hs
theorem mapSeq_set (its : List Value) (n j : Nat) (u : Value) : Obj.mapSeq (·.setIfInBounds j u) { cls := .type "list", data := .seq its.toArray n } = { cls := .type "list", data := .seq (its.set j u).toArray n } := by
  simp [Obj.mapSeq]
theorem Inv.lst {pins : List (Addr × Obj)} {σ : St} {H : Hp} {s : Shared} {p : Addr} {xs : List V} (I : Inv X pins σ H s) (h : H p = some (.lst xs)) :
    ∃ (its : List Value) (n : Nat), Vals xs its ∧ s.heap.get? p = some { cls := .type "list", data := .seq its.toArray n } ∧ xs.length ≤ sizeLine := by
  obtain ⟨z, its, n, r, e⟩ := I.hok p _ h
  exact ⟨its, n, r, e, z⟩
theorem Inv.lstUpd {pins : List (Addr × Obj)} {σ : St} {H : Hp} {s : Shared} {p : Addr} {xs ys : List V} {its its' : List Value} {n n' : Nat} {f : Obj → Obj} (I : Inv X pins σ H s) (h : H p = some (.lst xs))
    (ho : s.heap.get? p = some { cls := .type "list", data := .seq its.toArray n }) (hf : f { cls := .type "list", data := .seq its.toArray n } = { cls := .type "list", data := .seq its'.toArray n' }) (r : Vals ys its') (hz : ys.length ≤ sizeLine) (t : Nat) :
    Inv X pins σ (upd H p (.lst ys)) { s with heap := s.heap.update p f, toks := t } := by
  have e : (s.heap.update p f).get? p = some { cls := .type "list", data := .seq its'.toArray n' } := by
    rw [Heap.get?_update_self f ho (by rw [hf] <;> rfl), hf]
  refine I.write (x := p) (e := p) (by rw [h]; trivial) (.inl rfl) (fun b u hb q => (Heap.get?_update_other _ _ (Ne.symm hb)).trans q) ⟨_, e⟩ ?_
  exact ⟨hz, its', n', r, e⟩
def rSetL : V → V → V → Hp → (Hp → Prop) → Prop := fun o i v H Q => ∃ p xs k j, o = .ref p ∧ i = .int k ∧ H p = some (.lst xs) ∧ ixN xs.length k = some j ∧ Q (upd H p (.lst (xs.set j v)))
theorem set_list : PSet X rSetL := by
  intro pins s σ H o i v ov iv u Q I ro ri rv h
  obtain ⟨p, xs, k, j, rfl, rfl, hp, hj, q⟩ := h
  cases ro
  obtain ⟨t, rfl⟩ := ri
  obtain ⟨its, n, r, ho, hz⟩ := I.lst hp
  obtain ⟨h1, h2, h3, h4⟩ := ixN_seq hj
  have hl := r.length
  have hn := line63
  have I' : Inv X pins σ (upd H p (.lst (xs.set j v))) { s with heap := s.heap.update p (Obj.mapSeq (·.setIfInBounds j u)) } :=
    I.lstUpd hp ho (mapSeq_set its n j u) (r.set rv j) (by rw [List.length_set]; exact hz) s.toks
  by_cases h0 : 0 ≤ k
  · have hk : k.toNat = j := by
      rw [seqIndex_of h0 h4] at h1
      exact Option.some.inj h1
    exact PySem.W.ki_setAt ho h0 (by omega) (by rw [List.size_toArray, ← hl]; exact h4) (by rw [hk]; exact ⟨_, I', q⟩)
  · have hk : (k + (its.toArray.size : Int)).toNat = j := by
      rw [seqIndex_neg (by omega) h3] at h1
      rw [List.size_toArray, ← hl]
      exact Option.some.inj h1
    exact PySem.W.ki_setBack ho (by omega) (by rw [List.size_toArray, ← hl]; exact h3) (by omega) (by rw [hk]; exact ⟨_, I', q⟩)
theorem slice_bounds (lo hi : Option Int) (n : Nat) : (sliceBounds lo hi none n).1 = ((HT.sIx n 0 lo : Nat) : Int) ∧ (sliceBounds lo hi none n).2.1 = ((HT.sIx n n hi : Nat) : Int) ∧ (sliceBounds lo hi none n).2.2 = 1 := by
  refine ⟨?_, ?_, rfl⟩
  · cases lo with
    | none => simp [sliceBounds, HT.sIx]
    | some i =>
      simp only [sliceBounds, HT.sIx, Option.getD_none, show (1 : Int) > 0 by decide, if_true]
      by_cases h : i < 0
      · simp only [h, if_true] <;> omega
      · simp only [h, if_false] <;> omega
  · cases hi with
    | none => simp [sliceBounds, HT.sIx]
    | some i =>
      simp only [sliceBounds, HT.sIx, Option.getD_none, show (1 : Int) > 0 by decide, if_true]
      by_cases h : i < 0
      · simp only [h, if_true] <;> omega
      · simp only [h, if_false] <;> omega
theorem slicePick_cut (its : List Value) (lo hi : Option Int) : slicePick its.toArray lo hi none = ((its.drop (HT.sIx its.length 0 lo)).take (HT.sIx its.length its.length hi - HT.sIx its.length 0 lo)).toArray := by
  obtain ⟨h1, h2, h3⟩ := slice_bounds lo hi its.toArray.size
  unfold slicePick
  rw [h1, h2, h3]
  simp only [sliceRange_one, pick_run, List.size_toArray] <;> rfl
def rSlL (K : PySem.W.Frag) : V → Option Int → Option Int → Hp → VK → Prop := fun x lo hi H Q => ∃ a xs, x = .ref a ∧ SqL K H a xs ∧ ∀ p, H p = none → Q (.ref p) (upd H p (.lst (cutV xs lo hi)))
theorem sl_list : SlR X (rSlL X.K) := by
  intro pins s σ H x v vl vu lo hi sl Q I rx hs pl pu h
  obtain ⟨a, xs, rfl, hx, q⟩ := h
  cases rx
  obtain ⟨its, r, ht, hz⟩ := I.list hx
  have hlen := r.length
  refine ⟨"list", _, slot_list_getitem.lookup, ht.isList.typeIs, ?_⟩
  refine wpAny_getItem_list_slice ht.isList hs pl pu .none (by simp) ?_ (by rw [List.size_toArray] <;> omega)
  rw [slicePick_cut, ← hlen]
  refine ⟨.ref s.heap.objs.size, _, I.laid (t' := s.toks) (o := .lst (cutV xs lo hi)) (fun b ob q => Heap.get?_push_of_some _ q) (Nat.le_refl _) ?_, rfl, q _ (I.hok.fresh (Nat.le_refl _))⟩
  exact ⟨Nat.le_trans (cutV_length xs lo hi) hz, _, 0, (r.drop (HT.sIx xs.length 0 lo)).take (HT.sIx xs.length xs.length hi - HT.sIx xs.length 0 lo), Heap.get?_push_size _ rfl⟩
theorem call_len_seq : CallR X (.builtin "len") (fun xs H Q => ∃ p ys, xs = [.ref p] ∧ (SqL X.K H p ys ∨ SqT X.K H p ys) ∧ Q (.int ys.length) H) := by
  intro pins s σ H xs us Q I r h
  obtain ⟨p, ys, rfl, hq, q⟩ := h
  obtain ⟨u, rfl, rx⟩ := vals1 r
  cases rx
  have hn := line63
  rcases hq with hq | hq
  · obtain ⟨its, r', pl, hz⟩ := I.list hq
    have hlen := r'.length
    exact Calls.call_len_list pl.isList (by simp only [List.size_toArray] <;> omega) ⟨.int ys.length, H, I.tok _, ⟨s.toks + 1, by rw [List.size_toArray, hlen]⟩, q⟩
  · obtain ⟨its, r', pl, hz⟩ := I.tuple hq
    have hlen := r'.length
    exact len_tuple pl (by simp only [List.size_toArray] <;> omega) ⟨.int ys.length, H, I.tok _, ⟨s.toks + 1, by rw [List.size_toArray, hlen]⟩, q⟩
theorem call_list_of : CallR X (.type "list") (fun xs H Q => ∃ p ys, xs = [.ref p] ∧ (SqL X.K H p ys ∨ SqT X.K H p ys) ∧ ∀ l, H l = none → Q (.ref l) (upd H l (.lst ys))) := by
  intro pins s σ H xs us Q I r h
  obtain ⟨p, ys, rfl, hq, q⟩ := h
  obtain ⟨u, rfl, rx⟩ := vals1 r
  cases rx
  have fin : ∀ (its : List Value), Vals ys its → ys.length ≤ sizeLine → ∀ (h' : Heap) (c' : Nat), (∀ b o', s.heap.get? b = some o' → h'.get? b = some o') →
      h'.get? s.heap.objs.size = some { cls := .type "list", dict := none, data := .seq its.toArray c', slots := #[] } → EP X pins σ Q (.ref s.heap.objs.size) { s with heap := h' } := fun its r' hz h' c' kp e =>
    ⟨.ref s.heap.objs.size, _, I.laid (t' := s.toks) kp (Nat.le_refl _) (show ObjOk X.prog X.w _ h' _ (.lst ys) from ⟨hz, its, c', r', e⟩), rfl, q _ (I.hok.fresh (Nat.le_refl _))⟩
  rcases hq with hq | hq
  · obtain ⟨its, r', pl, hz⟩ := I.list hq
    have hlen := r'.length
    obtain ⟨o, ho, hc, n, hd⟩ := pl.isList
    exact call_list_seq p (.inl rfl) ho hc hd (fun h' c' kp e => fin its r' hz h' c' kp e) (by simp only [List.size_toArray] <;> omega)
  · obtain ⟨its, r', pl, hz⟩ := I.tuple hq
    have hlen := r'.length
    obtain ⟨o, ho, hc, n, hd⟩ := pl
    exact call_list_seq p (.inr rfl) ho hc hd (fun h' c' kp e => fin its r' hz h' c' kp e) (by simp only [List.size_toArray] <;> omega)
def tyV (K : PySem.W.Frag) (T : String) (x : V) (H : Hp) : Prop := match x with
  | .str _ => T = "str"
  | .int _ => T = "int"
  | .ref p => (T = "list" ∧ ∃ xs, SqL K H p xs) ∨ (T = "tuple" ∧ ∃ o, K.lookup p = some o ∧ o.cls = .type "tuple" ∧ o.dict = none) ∨
      (T = "dict" ∧ ((∃ kvs, H p = some (.dK kvs)) ∨ ∃ kvs, H p = some (.dT kvs))) ∨ (T = "set" ∧ ∃ S n, H p = some (.set S n))
  | _ => False
theorem tyV_is {pins : List (Addr × Obj)} {σ : St} {H : Hp} {s : Shared} {T : String} {x : V} {v : Value} (I : Inv X pins σ H s) (r : RelV x v) (ty : tyV X.K T x H) :
    s.TypeIs v T ∧ ∀ a, v = .ref a → ∃ ob, s.heap.get? a = some ob ∧ ob.dict = none := by
  cases x with
  | str z =>
    obtain ⟨t, rfl⟩ := r
    cases (show T = "str" from ty)
    exact ⟨typeIs_str s z t, fun _ e => nomatch e⟩
  | int i =>
    obtain ⟨t, rfl⟩ := r
    cases (show T = "int" from ty)
    exact ⟨typeIs_int s i t, fun _ e => nomatch e⟩
  | ref p =>
    cases r
    rcases ty with ⟨rfl, xs, hq⟩ | ⟨rfl, o, hk, hc, hd⟩ | ⟨rfl, hk⟩ | ⟨rfl, S, n, hk⟩
    · obtain ⟨its, _, pl, _⟩ := I.list hq
      refine ⟨pl.isList.typeIs, fun a e => ?_⟩
      cases e
      obtain ⟨o, n, e, c, hd, _⟩ := pl
      exact ⟨o, e, hd⟩
    · refine ⟨⟨o, I.kIn p o hk, hc⟩, fun a e => ?_⟩
      cases e
      exact ⟨o, I.kIn _ o hk, hd⟩
    · have z : ∃ o, s.heap.get? p = some o ∧ o.ExactDict := by
        rcases hk with ⟨kvs, hk⟩ | ⟨kvs, hk⟩
        · obtain ⟨_, _, _, _, o, _, _, e, ex, _⟩ := I.hok p _ hk
          exact ⟨o, e, ex⟩
        · obtain ⟨_, _, _, _, o, _, _, e, ex, _⟩ := I.hok p _ hk
          exact ⟨o, e, ex⟩
      obtain ⟨o, e, ex⟩ := z
      refine ⟨⟨o, e, ex.1⟩, fun a e2 => ?_⟩
      cases e2
      exact ⟨o, e, ex.2.1⟩
    · obtain ⟨o, _, _, _, e, ex, _⟩ := I.hok p _ hk
      refine ⟨⟨o, e, ex.1⟩, fun a e2 => ?_⟩
      cases e2
      exact ⟨o, e, ex.2.1⟩
  | _ => exact False.elim ty
def tBM (K : PySem.W.Frag) (T : String) (r : V → List V → Hp → VK → Prop) (to : TE) (t : TA) : TE := fun σ H Q => to σ H fun x H1 => tyV K T x H1 ∧ t σ H1 fun xs H2 => r x xs H2 Q
variable {o e : Expr} {es : List Expr} {to : TE} {t : TA} {name : Str} {apos cpos : Pos} {T id : String} {r : V → List V → Hp → VK → Prop}
theorem pe_bm (pa : PlainAttrs T) (slot : Slot T name id) (hty : typeOf (.builtin id) = pure (.type "method_descriptor")) (hm : MtR X id r) (ho : PE X o to) (ha : PA X (e :: es) t)
    (hbase : attributeBase o name X.env (eval o X.env) = eval o X.env := by rfl)
    (hfew : ((backTo cpos (starEach (e :: es) X.env)).all (fun x => !x.1) && (backToKw cpos (keywordEach [] X.env)).all (fun x => x.1.isSome)
      && decide ((e :: es).length + ([] : List Keyword).length + (if ([] : List Keyword).isEmpty then 0 else 1) < 30)) = true := by rfl)
    (hline : (apos.endLine == cpos.line) = true := by rfl) (hs : starEach (e :: es) X.env = (false, eval e X.env) :: starEach es X.env := by rfl) (hplain : (backTo cpos (starEach es X.env)).any (·.1) = false := by rfl) :
    PE X (.Call (.Attribute o name apos) (e :: es) [] cpos) (tBM X.K T r to t) := by
  intro pins s σ H Q I h
  refine wpAny_Call_method_late hbase hfew hline rfl (thn (ho pins s σ H _ I h) fun v s1 ⟨x, H1, I1, r1, ty, q1⟩ => ?_)
  obtain ⟨h1, h2⟩ := tyV_is I1 r1 ty
  refine ⟨T, id, pa, slot, hty, h1, h2, ?_⟩
  have hA := ha cpos pins s1 σ H1 _ I1 q1
  rw [hs] at hA ⊢
  refine Calls.callWith_builtin (by show (false || (backTo cpos (starEach es X.env)).any (·.1)) = false; rw [hplain] <;> rfl) (Calls.evalArgs_plain ?_)
  exact thn hA fun us s2 ⟨vs, H2, I2, r2, q2⟩ => hm pins s2 σ H2 x vs v us Q I2 r1 r2 q2
end
end L2
namespace L2
open PySem PySem.Spec PyProof.Rows
def MtM (X : Cx) (id : String) (r : V → List V → Hp → VK → Prop) : Prop :=
  ∀ (pins : List (Addr × Obj)) (s : Shared) (σ : St) (H : Hp) (x : V) (xs : List V) (v : Value) (us : List Value) (Q : VK), Inv X pins σ H s → RelV x v → Vals xs us → r x xs H Q →
    wpAny (model X.prog X.w) X.A (call (.builtin id) (v :: us)) (EP X pins σ Q) X.xe s
theorem Vals.one : ∀ {x : V} {us : List Value}, Vals [x] us → ∃ u, us = [u] ∧ RelV x u
  | _, _, .cons r .nil => ⟨_, rfl, r⟩
theorem Vals.rep {xs : List V} {us : List Value} (h : Vals xs us) : ∀ k : Nat, Vals (List.replicate k xs).flatten (List.replicate k us).flatten
  | 0 => .nil
  | k + 1 => by
    rw [List.replicate_succ, List.replicate_succ, List.flatten_cons, List.flatten_cons]
    exact Vals.append h (Vals.rep h k)
theorem foldl_rep (its : List Value) : ∀ (k : Nat) (acc : List Value),
    List.foldl (fun x1 x2 => x1 ++ x2) acc.toArray (List.replicate k its.toArray) = (acc ++ (List.replicate k its).flatten).toArray
  | 0, acc => by simp
  | k + 1, acc => by
    have e : acc.toArray ++ its.toArray = (acc ++ its).toArray := by simp
    have e2 : (acc ++ its) ++ (List.replicate k its).flatten = acc ++ (List.replicate (k + 1) its).flatten := by
      rw [List.replicate_succ, List.flatten_cons, List.append_assoc]
    rw [← e2, ← foldl_rep its k (acc ++ its), ← e, List.replicate_succ, List.foldl_cons]
section
variable {X : Cx} {pins : List (Addr × Obj)} {σ : St} {H : Hp} {s : Shared} {l b : Addr} {xs ys zs : List V}
theorem Inv.lset {its its' : List Value} {n : Nat} {f : Array Value → Array Value} {t' : Nat} (I : Inv X pins σ H s) (hH : H l = some (.lst xs))
    (e : s.heap.get? l = some { cls := .type "list", data := .seq its.toArray n }) (hf : f its.toArray = its'.toArray) (hv : Vals ys its') (hz : ys.length ≤ sizeLine) :
    Inv X pins σ (upd H l (.lst ys)) { s with heap := s.heap.update l (Obj.mapSeq f), toks := t' } := by
  have q := PySem.IsL.update e f
  rw [hf] at q
  refine I.write (x := l) (e := l) (by rw [hH]; exact trivial) (.inl rfl) (fun b' u hb hu => (Heap.get?_update_other s.heap (Obj.mapSeq f) (Ne.symm hb)).trans hu) ⟨_, q⟩ ?_
  exact ⟨hz, its', _, hv, q⟩
theorem Inv.lnew {its : List Value} {t' : Nat} (I : Inv X pins σ H s) (hv : Vals ys its) (hz : ys.length ≤ sizeLine) :
    Inv X pins σ (upd H s.heap.objs.size (.lst ys)) { s with heap := s.heap.push { cls := .type "list", data := .seq its.toArray }, toks := t' } :=
  I.laid (fun _ _ q => Heap.get?_push_of_some _ q) (Nat.le_refl _) ⟨hz, its, 0, hv, Heap.get?_push_size _ rfl⟩
theorem Inv.fresh (I : Inv X pins σ H s) : H s.heap.objs.size = none := I.hok.fresh (Nat.le_refl _)
theorem Inv.lstM (I : Inv X pins σ H s) (hH : H l = some (.lst xs)) : xs.length ≤ sizeLine ∧ ∃ (its : List Value) (n : Nat), Vals xs its ∧ xs.length = its.length ∧ s.heap.get? l = some { cls := .type "list", data := .seq its.toArray n } := by
  obtain ⟨z, its, n, r, e⟩ := I.hok l _ hH
  exact ⟨z, its, n, r, r.length, e⟩
theorem notLongL {n : Nat} (h : n ≤ sizeLine) : Builtin.List.listTooLong n = false := by
  unfold Builtin.List.listTooLong
  exact decide_eq_false (by omega)
end
section
variable {X : Cx}
def rAppend : V → List V → Hp → VK → Prop := fun x vs H Q => ∃ l xs y, x = .ref l ∧ vs = [y] ∧ H l = some (.lst xs) ∧ xs.length < sizeLine ∧ Q .non (upd H l (.lst (xs ++ [y])))
theorem mt_append : MtM X "list.append" rAppend := by
  intro pins s σ H x vs v us Q I rx rv h
  obtain ⟨l, xs, y, rfl, rfl, hH, hz, q⟩ := h
  cases rx
  obtain ⟨u, rfl, ru⟩ := rv.one
  obtain ⟨z, its, n, r, hl, e⟩ := I.lstM hH
  refine call_meets F.slot_list_append ⟨_, e, rfl⟩ F.entry_list_append (F.args_list_append_2 _ _) (PySem.list_append l its.toArray n u (by rw [List.size_toArray]; omega)) ⟨e, ?_⟩
  refine ⟨.non, _, I.lset (its' := its ++ [u]) hH e (by simp) (r.append (.cons ru .nil)) ?_, rfl, q⟩
  rw [List.length_append, List.length_singleton]
  omega
def rExtend : V → List V → Hp → VK → Prop := fun x vs H Q => ∃ l b xs zs, x = .ref l ∧ vs = [.ref b] ∧ H l = some (.lst xs) ∧ H b = some (.lst zs) ∧ xs.length + zs.length ≤ sizeLine ∧ Q .non (upd H l (.lst (xs ++ zs)))
theorem mt_extend : MtM X "list.extend" rExtend := by
  intro pins s σ H x vs v us Q I rx rv h
  obtain ⟨l, b, xs, zs, rfl, rfl, hH, hB, hz, q⟩ := h
  cases rx
  obtain ⟨u, rfl, ru⟩ := rv.one
  cases ru
  obtain ⟨z, its, n, r, hl, e⟩ := I.lstM hH
  obtain ⟨z2, its2, n2, r2, hl2, e2⟩ := I.lstM hB
  have hsz : its.toArray.size + its2.toArray.size ≤ sizeLine := by rw [List.size_toArray, List.size_toArray]; omega
  have hlong : ¬ (!its.toArray.isEmpty && Builtin.List.listTooLong (its.toArray.size + its2.toArray.size)) = true := by
    rw [notLongL hsz, Bool.and_false]
    exact Bool.false_ne_true
  refine call_meets F.slot_list_extend ⟨_, e, rfl⟩ F.entry_list_extend (F.args_list_extend_2 _ _)
    (AutoSeq1.list_extend_list_list_0 l its.toArray n b its2.toArray n2 hlong (by rw [List.size_toArray]; omega) (by omega)) ⟨e, e2, ?_⟩
  refine ⟨.non, _, I.lset (its' := its ++ its2) hH e (by simp) (r.append r2) ?_, rfl, q⟩
  rw [List.length_append]
  omega
def rCat : R2 := fun x y H Q => ∃ l b xs zs, x = .ref l ∧ y = .ref b ∧ H l = some (.lst xs) ∧ H b = some (.lst zs) ∧ xs.length + zs.length ≤ sizeLine ∧ ∀ p, H p = none → Q (.ref p) (upd H p (.lst (xs ++ zs)))
theorem op_cat : OpR X (binaryOp .Add) rCat := by
  intro pins s σ H x y v u Q I rx ry h
  obtain ⟨l, b, xs, zs, rfl, rfl, hH, hB, hz, q⟩ := h
  cases rx
  cases ry
  obtain ⟨z, its, n, r, hl, e⟩ := I.lstM hH
  obtain ⟨z2, its2, n2, r2, hl2, e2⟩ := I.lstM hB
  refine PySem.P.add_list e e2 ?_ (by rw [List.size_toArray, List.size_toArray]; omega)
  have ea : its.toArray ++ its2.toArray = (its ++ its2).toArray := by simp
  rw [ea]
  exact ⟨.ref _, _, I.lnew (t' := s.toks) (r.append r2) (by rw [List.length_append]; omega), rfl, q _ I.fresh⟩
def rRep : R2 := fun x y H Q => ∃ l k xs, x = .ref l ∧ y = .int k ∧ H l = some (.lst xs) ∧ -(2 ^ 63) ≤ k ∧ k < 2 ^ 63 ∧ xs.length * k.toNat ≤ sizeLine ∧
  ∀ p, H p = none → Q (.ref p) (upd H p (.lst (List.replicate k.toNat xs).flatten))
theorem len_rep {α : Type} (xs : List α) (k : Nat) : (List.replicate k xs).flatten.length = k * xs.length := by
  induction k with
  | zero => simp
  | succ k ih => rw [List.replicate_succ, List.flatten_cons, List.length_append, ih, Nat.succ_mul, Nat.add_comm]
theorem op_rep : OpR X (binaryOp .Mult) rRep := by
  intro pins s σ H x y v u Q I rx ry h
  obtain ⟨l, k, xs, rfl, rfl, hH, h1, h2, hz, q⟩ := h
  cases rx
  obtain ⟨t, rfl⟩ := ry
  obtain ⟨z, its, n, r, hl, e⟩ := I.lstM hH
  have hlen : its.toArray.size * k.toNat ≤ sizeLine := by rw [List.size_toArray, ← hl]; exact hz
  have hcap : ¬ its.toArray.size * k.toNat > (2 ^ 63 - 1) / 8 := by
    have : (sizeLine : Nat) ≤ (2 ^ 63 - 1) / 8 := by decide
    omega
  have hfit : ¬ (!Builtin.List.listFitsIndex k) = true := by
    rw [fitsIndex_both h1 h2]
    exact Bool.false_ne_true
  have hlong : ¬ Builtin.List.listTooLong (its.toArray.size * k.toNat) = true := by
    rw [notLongL hlen]
    exact Bool.false_ne_true
  have hnew : List.foldl (fun x1 x2 => x1 ++ x2) #[] (List.replicate (if its.toArray.isEmpty = true then 0 else k.toNat) its.toArray) = (List.replicate k.toNat its).flatten.toArray := by
    have f0 : ∀ m : Nat, List.foldl (fun x1 x2 => x1 ++ x2) #[] (List.replicate m its.toArray) = (List.replicate m its).flatten.toArray := fun m => by
      have := foldl_rep its m []
      rw [List.nil_append] at this
      exact this
    rw [f0]
    cases its with
    | nil => simp
    | cons a r' => rw [if_neg (by simp)]
  refine wpAny_binaryOp_repeat_ref (T := "list") (U := "int") (by decide) ⟨_, e, rfl⟩ (fun s' => typeIs_int s' k t) noFill_list_mul F.fills_int_mul F.slot_int_rmul repeat_list F.slot_int_index.lookup
    (call_meets F.slot_int_rmul (typeIs_int s k t) F.entry_int_rmul (F.args_int_rmul_2 _ _) (int___rmul___int_list k t l its.toArray n)
      ⟨e, rfl, ⟨_, e, rfl⟩, call_meets F.slot_list_mul ⟨_, e, rfl⟩ F.entry_list_mul (F.args_list_mul_2 _ _) (AutoListH.list___mul___list_int_3 l its.toArray n k t hfit hcap hlong) ⟨e, ?_⟩⟩)
  rw [hnew]
  exact ⟨.ref _, _, I.lnew (t' := s.toks) (r.rep k.toNat) (by rw [len_rep, Nat.mul_comm]; exact hz), rfl, q _ I.fresh⟩
end
section
variable {prog : Program} {w : World} {A : Around} {E : Value → Shared → Prop} {s : Shared}
end
section
variable {X : Cx}
end
end L2
namespace L2
open PySem PySem.Spec PyProof.Rows
theorem vals_of_ints : ∀ {us : List Value} {ns : List Int}, IntsAre us ns → Vals (ns.map V.int) us
  | _, _, .nil => by rw [List.map_nil]; exact Paired.nil
  | _, _, .cons n t h => by rw [List.map_cons]; exact Paired.cons (show RelV (V.int n) (Value.int n t) from ⟨t, rfl⟩) (vals_of_ints h)
section
variable {prog : Program} {w : World} {A : Around} {E : Value → Shared → Prop} {s : Shared} {l : Addr} {its : List Value} {ns : List Int} {Q : Value → Shared → Prop}
end
section
variable {X : Cx}
end
section
variable {X : Cx}
end
section
variable {X : Cx}
end
section
variable {X : Cx}
end
mutual
inductive Dp (K : PySem.W.Frag) (H : Hp) : V → PyData → Prop
  | non : Dp K H .non .none
  | bl (b : Bool) : Dp K H (.bl b) (.bool b)
  | int (i : Int) : Dp K H (.int i) (.int i)
  | str (x : Str) : Dp K H (.str x) (.str x)
  | lst {a : Addr} {xs : List V} {ds : List PyData} : SqL K H a xs → DpAll K H xs ds → Dp K H (.ref a) (.list ds)
  | tup {a : Addr} {xs : List V} {ds : List PyData} : SqT K H a xs → DpAll K H xs ds → Dp K H (.ref a) (.tuple ds)
inductive DpAll (K : PySem.W.Frag) (H : Hp) : List V → List PyData → Prop
  | nil : DpAll K H [] []
  | cons {v : V} {vs : List V} {d : PyData} {ds : List PyData} : Dp K H v d → DpAll K H vs ds → DpAll K H (v :: vs) (d :: ds)
end
section
variable {X : Cx} {pins : List (Addr × Obj)} {σ : St} {H : Hp} {s : Shared}
mutual
theorem Dp.reads (I : Inv X pins σ H s) : ∀ (d : PyData) (v : V) (u : Value), Dp X.K H v d → RelV v u → ∃ as, Reads s.heap u d as
  | .none, _, _, h, r => by
    cases h
    cases r
    exact ⟨_, Reads.none⟩
  | .bool b, _, _, h, r => by
    cases h
    cases r
    exact ⟨_, Reads.bool b⟩
  | .int i, _, _, h, r => by
    cases h
    obtain ⟨t, rfl⟩ := r
    exact ⟨_, Reads.int i t⟩
  | .str x, _, _, h, r => by
    cases h
    obtain ⟨t, rfl⟩ := r
    exact ⟨_, Reads.str x t⟩
  | .list ds, _, _, h, r => by
    cases h with
    | lst hs ha =>
      cases r
      obtain ⟨its, rv, ⟨o, n, ho, hc, _, hd⟩, _⟩ := I.list hs
      obtain ⟨as, hr⟩ := Dp.readsAll I ds _ its ha rv
      exact ⟨_, Reads.list ho hc hd hr⟩
  | .tuple ds, _, _, h, r => by
    cases h with
    | tup hs ha =>
      cases r
      obtain ⟨its, rv, ⟨o, ho, hc, n, hd⟩, _⟩ := I.tuple hs
      obtain ⟨as, hr⟩ := Dp.readsAll I ds _ its ha rv
      exact ⟨_, Reads.tuple ho hc hd hr⟩
  | .dict _, _, _, h, _ => by cases h
theorem Dp.readsAll (I : Inv X pins σ H s) : ∀ (ds : List PyData) (vs : List V) (us : List Value), DpAll X.K H vs ds → Vals vs us → ∃ as, ReadsAll s.heap us ds as
  | [], _, _, h, r => by
    cases h
    cases r
    exact ⟨_, ReadsAll.nil⟩
  | d :: ds, _, _, h, r => by
    cases h with
    | cons h1 h2 =>
      cases r with
      | cons r1 r2 =>
        obtain ⟨as, q1⟩ := Dp.reads I d _ _ h1 r1
        obtain ⟨bs, q2⟩ := Dp.readsAll I ds _ _ h2 r2
        exact ⟨_, ReadsAll.cons q1 q2⟩
end
end
section
variable {X : Cx}
def rEqD (K : PySem.W.Frag) : R2 := fun x y H Q => ∃ d e, Dp K H x d ∧ Dp K H y e ∧ SeqAt.shaped d = true ∧ SeqAt.shaped e = true ∧ Q (.bl (PyData.eqv d e)) H
def rNeD (K : PySem.W.Frag) : R2 := fun x y H Q => ∃ d e, Dp K H x d ∧ Dp K H y e ∧ SeqAt.shaped d = true ∧ SeqAt.shaped e = true ∧ Q (.bl (!PyData.eqv d e)) H
theorem op_eqD (hu : X.A.units + 64 < cLine) : OpR X (compareOp .Eq) (rEqD X.K) := by
  intro pins s σ H x y v u Q I rx ry h
  obtain ⟨d, e, hd, he, sd, se, q⟩ := h
  obtain ⟨as, r1⟩ := Dp.reads I d x v hd rx
  obtain ⟨bs, r2⟩ := Dp.reads I e y u he ry
  exact SeqAt.compareEq_shaped r1 r2 sd se hu ⟨.bl _, H, I, rfl, q⟩
theorem op_neD (hu : X.A.units + 64 < cLine) : OpR X (compareOp .NotEq) (rNeD X.K) := by
  intro pins s σ H x y v u Q I rx ry h
  obtain ⟨d, e, hd, he, sd, se, q⟩ := h
  obtain ⟨as, r1⟩ := Dp.reads I d x v hd rx
  obtain ⟨bs, r2⟩ := Dp.reads I e y u he ry
  exact SeqAt.compareNe_shaped r1 r2 sd se hu ⟨.bl _, H, I, rfl, q⟩
end
end L2
namespace L2
open PySem PySem.Spec PyProof.Rows
abbrev CellAt (h : Heap) (c : Addr) (v : Option Value) : Prop := h.IsCell c v
def relS (scope sc : Scope) : Scope :=
  { scope with names := scope.names.map fun (n, k) => if (k == .free && sc.kind == .function && sc.names.lookup n == some .cell) then (n, .cell) else (n, k) }
def cloFrom (cells : List (Str × Addr)) : List (Str × NameKind) → List (Str × Addr) → List (Str × Addr)
  | [], acc => acc
  | (n, k) :: r, acc => if k == .free then cloFrom cells r ((n, (cells.lookup n).getD 0) :: acc) else cloFrom cells r acc
theorem closure_loop (env : Env) (f : Str × NameKind → List (Str × Addr) → Sem (ForInStep (List (Str × Addr))))
    (hf : ∀ n k c, f (n, k) c = if k == .free then (do let a ← cellOf env n; pure (.yield ((n, a) :: c))) else pure (.yield c)) :
    ∀ (names : List (Str × NameKind)) (acc : List (Str × Addr)), (∀ y ∈ names, y.2 = .free → ∃ c, env.cells.lookup y.1 = some c) → forIn names acc f = pure (cloFrom env.cells names acc)
  | [], acc, _ => by rw [List.forIn_nil]; rfl
  | (n, k) :: r, acc, h => by
    rw [List.forIn_cons, hf]
    have ih := fun acc => closure_loop env f hf r acc fun y hy => h y (List.mem_cons_of_mem _ hy)
    unfold cloFrom
    by_cases hk : (k == NameKind.free) = true
    · rw [if_pos hk, if_pos hk]
      obtain ⟨c, hc⟩ := h (n, k) List.mem_cons_self (by simpa using hk)
      have e : cellOf env n = pure c := by unfold cellOf; rw [hc]
      rw [e]
      have e2 : (env.cells.lookup n).getD 0 = c := by rw [hc]; rfl
      rw [e2]
      exact ih _
    · rw [if_neg hk, if_neg hk]
      exact ih _
theorem closure_ok {scope : Scope} {env : Env} (h : ∀ y ∈ scope.names, y.2 = .free → ∃ c, env.cells.lookup y.1 = some c) : closureFor scope env = pure (cloFrom env.cells scope.names []) := by
  simp only [closureFor]
  rw [closure_loop env _ (fun n k c => rfl) scope.names [] h]
  rfl
theorem mem_lookup {α : Type} : ∀ {l : List (Str × α)} {n : Str} {c : α}, (n, c) ∈ l → ∃ c', l.lookup n = some c'
  | (k, v) :: r, n, c, h => by
    rw [List.lookup_cons]
    cases hb : n == k with
    | true => exact ⟨_, rfl⟩
    | false =>
      rcases List.mem_cons.mp h with e | h
      · cases e; simp at hb
      · exact mem_lookup h
theorem cloFrom_mem {cells : List (Str × Addr)} : ∀ {names : List (Str × NameKind)} {acc : List (Str × Addr)} {n : Str} {c : Addr}, (n, c) ∈ cloFrom cells names acc → (n, c) ∈ acc ∨ ((n, .free) ∈ names ∧ c = (cells.lookup n).getD 0)
  | [], _, _, _, h => .inl h
  | (m, k) :: r, acc, n, c, h => by
    unfold cloFrom at h
    split at h
    · rename_i hk
      have hk : k = .free := by simpa using hk
      rcases cloFrom_mem h with h | ⟨h1, h2⟩
      · rcases List.mem_cons.mp h with e | h
        · cases e; exact .inr ⟨hk ▸ List.mem_cons_self, rfl⟩
        · exact .inl h
      · exact .inr ⟨List.mem_cons_of_mem _ h1, h2⟩
    · rcases cloFrom_mem h with h | ⟨h1, h2⟩
      · exact .inl h
      · exact .inr ⟨List.mem_cons_of_mem _ h1, h2⟩
theorem cloFrom_acc {cells : List (Str × Addr)} : ∀ {names : List (Str × NameKind)} {acc : List (Str × Addr)} {p : Str × Addr}, p ∈ acc → p ∈ cloFrom cells names acc
  | [], _, _, h => h
  | (m, k) :: r, acc, p, h => by
    unfold cloFrom
    split
    · exact cloFrom_acc (List.mem_cons_of_mem _ h)
    · exact cloFrom_acc h
theorem cloFrom_has {cells : List (Str × Addr)} : ∀ {names : List (Str × NameKind)} {acc : List (Str × Addr)} {n : Str}, (n, .free) ∈ names → (n, (cells.lookup n).getD 0) ∈ cloFrom cells names acc
  | (m, k) :: r, acc, n, h => by
    unfold cloFrom
    rcases List.mem_cons.mp h with e | h
    · cases e
      exact cloFrom_acc List.mem_cons_self
    · split
      · exact cloFrom_has h
      · exact cloFrom_has h
theorem cells_mem : ∀ {names : List (Str × NameKind)} {h : Heap} {acc : List (Str × Addr)} {x : Str} {c : Addr}, (x, c) ∈ cellsFrom h.objs.size names acc →
    (x, c) ∈ acc ∨ ((x, .cell) ∈ names ∧ h.objs.size ≤ c ∧ CellAt (pushCells h names) c none)
  | [], _, _, _, _, h => .inl h
  | (n, k) :: r, h, acc, x, c, hm => by
    unfold cellsFrom at hm
    unfold pushCells
    split at hm
    · rename_i hk
      rw [if_pos hk]
      have hk : k = .cell := by simpa using hk
      rw [← Heap.size_push h { cls := .type "cell", data := .cell none }] at hm
      rcases cells_mem hm with hm | ⟨h1, h2, h3⟩
      · rcases List.mem_cons.mp hm with e | hm
        · cases e
          exact .inr ⟨hk ▸ List.mem_cons_self, Nat.le_refl _, _, pushCells_keeps r _ _ _ (Heap.get?_push_size _ rfl), rfl⟩
        · exact .inl hm
      · rw [Heap.size_push] at h2
        exact .inr ⟨List.mem_cons_of_mem _ h1, Nat.le_of_succ_le h2, h3⟩
    · rename_i hk
      rw [if_neg hk]
      rcases cells_mem hm with hm | ⟨h1, h2, h3⟩
      · exact .inl hm
      · exact .inr ⟨List.mem_cons_of_mem _ h1, h2, h3⟩
theorem cells_acc : ∀ {names : List (Str × NameKind)} {n : Nat} {acc : List (Str × Addr)} {p : Str × Addr}, p ∈ acc → p ∈ cellsFrom n names acc
  | [], _, _, _, h => h
  | (m, k) :: r, n, acc, p, h => by
    unfold cellsFrom
    split
    · exact cells_acc (List.mem_cons_of_mem _ h)
    · exact cells_acc h
theorem cells_has : ∀ {names : List (Str × NameKind)} {n : Nat} {acc : List (Str × Addr)} {x : Str}, (x, .cell) ∈ names → ∃ c, (x, c) ∈ cellsFrom n names acc
  | (m, k) :: r, n, acc, x, h => by
    unfold cellsFrom
    rcases List.mem_cons.mp h with e | h
    · cases e
      exact ⟨n, cells_acc List.mem_cons_self⟩
    · split
      · exact cells_has h
      · exact cells_has h
theorem cells_inj : ∀ {names : List (Str × NameKind)} {h : Heap} {acc : List (Str × Addr)} {x y : Str} {c : Addr}, (∀ p ∈ acc, p.2 < h.objs.size) → (∀ x y c, (x, c) ∈ acc → (y, c) ∈ acc → x = y) →
    (x, c) ∈ cellsFrom h.objs.size names acc → (y, c) ∈ cellsFrom h.objs.size names acc → x = y
  | [], _, _, _, _, _, _, hi, h1, h2 => hi _ _ _ h1 h2
  | (n, k) :: r, h, acc, x, y, c, hl, hi, h1, h2 => by
    unfold cellsFrom at h1 h2
    split at h1
    · rename_i hk
      rw [if_pos hk] at h2
      rw [← Heap.size_push h { cls := .type "cell", data := .cell none }] at h1 h2
      refine cells_inj (h := h.push _) (fun p hp => ?_) (fun x y c a b => ?_) h1 h2
      · rw [Heap.size_push]
        rcases List.mem_cons.mp hp with rfl | hp
        · exact Nat.lt_succ_self _
        · exact Nat.lt_succ_of_lt (hl p hp)
      · rcases List.mem_cons.mp a with e | a <;> rcases List.mem_cons.mp b with e' | b
        · cases e; cases e'; rfl
        · cases e; exact absurd (hl _ b) (Nat.lt_irrefl _)
        · cases e'; exact absurd (hl _ a) (Nat.lt_irrefl _)
        · exact hi _ _ _ a b
    · rename_i hk
      rw [if_neg hk] at h2
      exact cells_inj hl hi h1 h2
theorem newEnv_comp {M : Model} {A : Around} {E : Value → Shared → Prop} {s : Shared} {scope : Scope} {globals : Addr} {closure : List (Str × Addr)} {qual : Str} {func : Option Addr} {code : Value} {around : Env} {builtins : Addr} {Q : Env → Shared → Prop}
    (h : Q (newEnv scope s.heap.objs.size globals (cellsFrom (s.heap.objs.size + 1) scope.names closure) qual func code (some around) builtins)
      { s with heap := pushCells (s.heap.push { cls := .type "dict", data := .dict #[] }) scope.names }) :
    wpAny M A (newFunctionEnv scope globals closure [] qual func code (some around) builtins) Q E s := by
  simp only [newFunctionEnv, Option.isSome_some, if_true]
  refine wpAny_bind (wpAny_alloc ?_)
  refine wpAny_bind (wpAny_layCells _ (fun n k c => rfl) scope.names closure _ _ ?_)
  rw [show ({ s with heap := s.heap.push { cls := .type "dict", data := .dict #[] } } : Shared).heap.objs.size = s.heap.objs.size + 1 from Heap.size_push ..]
  rw [List.forIn_nil]
  exact wpAny_bind (wpAny_pure (wpAny_pure h))
theorem lookup_relS {sc : Scope} : ∀ {names : List (Str × NameKind)} {x : Str} {k : NameKind},
    (names.map fun (n, k) => if (k == NameKind.free && sc.kind == .function && sc.names.lookup n == some .cell) then (n, NameKind.cell) else (n, k)).lookup x = some k →
    ∃ k', names.lookup x = some k' ∧ (k = k' ∨ (k' = .free ∧ k = .cell))
  | [], _, _, h => by simp at h
  | (n, k₀) :: r, x, k, h => by
    have ih := @lookup_relS sc r x k
    have h' : List.lookup x ((if (k₀ == NameKind.free && sc.kind == .function && sc.names.lookup n == some .cell) = true then (n, NameKind.cell) else (n, k₀)) :: (r.map _)) = some k := h
    cases hx : x == n with
    | true =>
      simp only [List.lookup_cons, hx]
      by_cases hc : (k₀ == NameKind.free && sc.kind == .function && sc.names.lookup n == some .cell) = true
      · rw [if_pos hc] at h'
        simp only [List.lookup_cons, hx] at h'
        cases h'
        simp only [Bool.and_eq_true, beq_iff_eq] at hc
        exact ⟨k₀, rfl, .inr ⟨hc.1.1, rfl⟩⟩
      · rw [if_neg hc] at h'
        simp only [List.lookup_cons, hx] at h'
        cases h'
        exact ⟨_, rfl, .inl rfl⟩
    | false =>
      simp only [List.lookup_cons, hx]
      by_cases hc : (k₀ == NameKind.free && sc.kind == .function && sc.names.lookup n == some .cell) = true
      · rw [if_pos hc] at h'
        simp only [List.lookup_cons, hx] at h'
        exact ih h'
      · rw [if_neg hc] at h'
        simp only [List.lookup_cons, hx] at h'
        exact ih h'
structure BlkOk (N : List Str) (sc scope : Scope) (own : List (Str × Nat)) : Prop where
  kind : scope.kind = .function
  uniq : ∀ y ∈ scope.names, scope.names.lookup y.1 = some y.2
  ix : ∀ p ∈ own, N[p.2]? = some p.1
  free : ∀ y ∈ scope.names, y.2 = .free → sc.names.lookup y.1 = some .cell ∨ sc.names.lookup y.1 = some .free
  own : ∀ y ∈ scope.names, y.2 = .local ∨ y.2 = .cell → y.1 ∈ own.map (·.1) ∨ y.1 ∉ N
def wipe (σ : St) : List Nat → St
  | [] => σ
  | v :: vs => (wipe σ vs).set v none
theorem wipe_length (σ : St) : ∀ vs : List Nat, (wipe σ vs).length = σ.length
  | [] => rfl
  | v :: vs => by unfold wipe; rw [List.length_set, wipe_length σ vs]
theorem wipe_some {σ : St} {i : Nat} {x : V} : ∀ {vs : List Nat}, (wipe σ vs)[i]? = some (some x) → σ[i]? = some (some x) ∧ i ∉ vs
  | [], h => ⟨h, by simp⟩
  | v :: vs, h => by
    unfold wipe at h
    by_cases hi : v = i
    · subst hi
      by_cases hv : v < (wipe σ vs).length
      · rw [List.getElem?_set_self hv] at h; cases h
      · rw [List.getElem?_eq_none (by simpa using hv)] at h; cases h
    · rw [List.getElem?_set_ne hi] at h
      obtain ⟨h1, h2⟩ := wipe_some h
      exact ⟨h1, by simp only [List.mem_cons, not_or]; exact ⟨fun e => hi e.symm, h2⟩⟩
abbrev Cx.blk (X : Cx) (s : Shared) (H : Hp) (scope : Scope) (cenv : Env) (fp : List Addr) : Cx := { X with s₀ := s, H₀ := H, env := cenv, outer := X.stack, ex := fp, fn := fun x => scope.names.lookup x == some .cell, pn := [], xe := fun _ _ => False }
section
variable {X : Cx} {pins : List (Addr × Obj)} {σ : St} {H : Hp} {s : Shared}
theorem block_start {scope : Scope} {own : List (Str × Nat)} {fp : List Addr} (I : Inv X pins σ H s) (ok : BlkOk X.N X.env.scope scope own) (hN : X.N.Nodup) (hfp : ∀ b ∈ fp, FpOk X pins H b ∧ b < s.heap.objs.size) :
    Inv (X.blk s H scope (compEnvC scope (cellsFrom (s.heap.objs.size + 1) scope.names (cloFrom X.env.cells scope.names [])) s.heap.objs.size X.env) fp) [] (wipe σ (own.map (·.2))) H { s with heap := pushCells (s.heap.push { cls := .type "dict", data := .dict #[] }) scope.names } := by
  have hfree : ∀ y ∈ scope.names, y.2 = .free → ∃ c, X.env.cells.lookup y.1 = some c := fun y hy e => by
    rcases ok.free y hy e with k | k
    · exact I.ok.has _ (.inl k)
    · exact I.ok.has _ (.inr k)
  generalize hcenv : compEnvC scope (cellsFrom (s.heap.objs.size + 1) scope.names (cloFrom X.env.cells scope.names [])) s.heap.objs.size X.env = cenv
  have kp : ∀ b o, s.heap.get? b = some o → (pushCells (s.heap.push { cls := .type "dict", data := .dict #[] }) scope.names).get? b = some o := fun b o e => pushCells_keeps _ _ _ _ (Heap.get?_push_of_some _ e)
  have hL : cenv.locals = s.heap.objs.size := by rw [← hcenv]; rfl
  have hcl : cenv.cells = cellsFrom (s.heap.objs.size + 1) scope.names (cloFrom X.env.cells scope.names []) := by rw [← hcenv]; rfl
  have hsc : cenv.scope = relS scope X.env.scope := by rw [← hcenv]; rfl
  rw [← Heap.size_push s.heap { cls := .type "dict", data := .dict #[] }] at hcl
  have cm : ∀ {y c}, (y, c) ∈ cloFrom X.env.cells scope.names [] → X.env.cells.lookup y = some c ∧ c < s.heap.objs.size := fun {y c} hm => by
    rcases cloFrom_mem hm with hm | ⟨h1, rfl⟩
    · cases hm
    · obtain ⟨c, hc⟩ := hfree _ h1 rfl
      rw [hc]
      obtain ⟨w, z⟩ := I.cell _ _ hc
      exact ⟨rfl, z.lt⟩
  have mem : ∀ {y c}, cenv.cells.lookup y = some c → (X.env.cells.lookup y = some c ∧ c < s.heap.objs.size) ∨ (s.heap.objs.size + 1 ≤ c ∧ CellAt (pushCells (s.heap.push { cls := .type "dict", data := .dict #[] }) scope.names) c none) := fun {y c} e => by
    rw [hcl] at e
    rcases cells_mem (PySem.mem_of_lookup e) with hm | ⟨_, h2, h3⟩
    · exact .inl (cm hm)
    · rw [Heap.size_push] at h2; exact .inr ⟨h2, h3⟩
  have look : ∀ {y}, scope.names.lookup y = some .free → ∃ c, cenv.cells.lookup y = some c ∧ X.env.cells.lookup y = some c := fun {y} hl => by
    have hy : (y, NameKind.free) ∈ scope.names := PySem.mem_of_lookup hl
    obtain ⟨c', e'⟩ := mem_lookup (cells_acc (names := scope.names) (n := (s.heap.push { cls := .type "dict", data := .dict #[] }).objs.size) (cloFrom_has (cells := X.env.cells) (acc := []) hy))
    rw [← hcl] at e'
    refine ⟨c', e', ?_⟩
    rw [hcl] at e'
    rcases cells_mem (PySem.mem_of_lookup e') with hm | ⟨h1, _, _⟩
    · exact (cm hm).1
    · have := ok.uniq _ h1
      rw [hl] at this; cases this
  have okB : (X.blk s H scope cenv fp).Ok := by
    refine ⟨I.ok.mod, by show cenv.scope.kind = _; rw [hsc]; exact ok.kind, by show cenv.globals = _; rw [← hcenv]; exact I.ok.glob, by show cenv.builtins = _; rw [← hcenv]; exact I.ok.blt, by show s.heap.objs.size ≤ cenv.locals; rw [hL]; exact Nat.le_refl _,
      fun y z c e1 e2 => ?_, fun y hy => ?_, fun y c z e => ?_, I.ok.hd, I.ok.frames, .inl rfl, fun b hb => ⟨?_, fun y c e z => ?_⟩, I.bs, Nat.le_trans I.ok.bsz I.sz, fun b o e hb => ?_, fun b hb z => ?_, I.stack, I.stkFree⟩
    · have e1 : cenv.cells.lookup y = some c := e1
      have e2 : cenv.cells.lookup z = some c := e2
      rw [hcl] at e1 e2
      refine cells_inj (fun p hp => ?_) (fun y z c a b => I.ok.inj y z c (cm a).1 (cm b).1) (PySem.mem_of_lookup e1) (PySem.mem_of_lookup e2)
      rw [Heap.size_push]
      exact Nat.lt_succ_of_lt (cm (y := p.1) (c := p.2) hp).2
    · show ∃ c, cenv.cells.lookup y = some c
      have key : ∀ k, cenv.kindOf y = some k → (k = .cell ∨ k = .free) → ∃ c, cenv.cells.lookup y = some c := fun k hk hk' => by
        unfold Env.kindOf at hk
        rw [hsc] at hk
        obtain ⟨k', e, r⟩ := lookup_relS hk
        have : k' = .cell ∨ k' = .free := by
          rcases r with rfl | ⟨rfl, _⟩
          · exact hk'
          · exact .inr rfl
        rcases this with rfl | rfl
        · obtain ⟨c, hm⟩ := cells_has (n := (s.heap.push { cls := .type "dict", data := .dict #[] }).objs.size) (acc := cloFrom X.env.cells scope.names []) (PySem.mem_of_lookup e)
          obtain ⟨c', e'⟩ := mem_lookup hm
          exact ⟨c', by rw [hcl]; exact e'⟩
        · obtain ⟨c, h1, _⟩ := look e
          exact ⟨c, h1⟩
      rcases hy with hy | hy
      · exact key _ hy (.inl rfl)
      · exact key _ hy (.inr rfl)
    · have z : (scope.names.lookup y == some NameKind.cell) = true := z
      have z : scope.names.lookup y = some .cell := by simpa using z
      have e : cenv.cells.lookup y = some c := e
      rw [hcl] at e
      rcases cells_mem (PySem.mem_of_lookup e) with hm | ⟨_, h2, _⟩
      · rcases cloFrom_mem hm with hm | ⟨h1, _⟩
        · cases hm
        · have q := ok.uniq _ h1
          rw [z] at q; cases q
      · rw [Heap.size_push] at h2
        exact Nat.le_of_succ_le h2
    · show b ≠ cenv.locals
      rw [hL]; exact Nat.ne_of_lt (hfp b hb).2
    · have e : cenv.cells.lookup y = some c := e
      rcases mem e with ⟨h1, _⟩ | ⟨h1, _⟩
      · exact (hfp b hb).1.2.2.2.2.1 y c h1 z
      · have h2 : s.heap.objs.size + 1 ≤ b := by rw [← z]; exact h1
        exact absurd (Nat.lt_of_lt_of_le (hfp b hb).2 (Nat.le_of_succ_le h2)) (Nat.lt_irrefl _)
    · rcases (hfp b hb).1.2.2.2.1 with z | z
      · exact I.ok.noex b o e z
      · exact absurd (Nat.lt_of_lt_of_le (Heap.lt_size e) (Nat.le_trans I.ok.bsz z)) (Nat.lt_irrefl _)
    · rcases List.mem_cons.mp (I.stkSub b z) with z | z
      · exact (hfp b hb).1.2.1 z
      · exact (hfp b hb).1.2.2.1 z
  refine ⟨okB, rfl, I.bare, Un.kept kp, ⟨fun _ => none, ?_, fun i y av e1 e2 e3 => ?_⟩, fun y c e => ?_, ?_, fun y c e => ?_, fun p hp => ?_, I.hok.kept kp, by rw [wipe_length]; exact I.len⟩
  · show Heap.Ns _ cenv.locals _
    rw [hL]
    exact Heap.Ns.keeps (Heap.Ns.new ..) fun b o e => pushCells_keeps _ _ _ _ e
  · obtain ⟨e2, hne⟩ := wipe_some e2
    have hfr : scope.names.lookup y = some .free ∧ (cenv.kindOf y = some .cell ∨ cenv.kindOf y = some .free) := by
      have key : ∀ k, cenv.scope.names.lookup y = some k → k = .local ∨ k = .cell ∨ k = .free → scope.names.lookup y = some .free ∧ (cenv.kindOf y = some .cell ∨ cenv.kindOf y = some .free) := fun k hk hk' => by
        have hk0 := hk
        rw [hsc] at hk
        obtain ⟨k', e, r⟩ := lookup_relS hk
        have no : ¬ (k' = .local ∨ k' = .cell) := fun hh => by
          rcases ok.own _ (PySem.mem_of_lookup e) hh with e' | e'
          · obtain ⟨p, hp, hpy⟩ := List.mem_map.mp e'
            have e3 := ok.ix p hp
            have : p.1 = y := hpy
            rw [this] at e3
            exact hne (List.mem_map.mpr ⟨p, hp, nodup_ix hN e3 e1⟩)
          · exact e' (List.mem_of_getElem? e1)
        rcases r with rfl | ⟨rfl, rfl⟩
        · rcases hk' with rfl | rfl | rfl
          · exact absurd (.inl rfl) no
          · exact absurd (.inr rfl) no
          · exact ⟨e, .inr hk0⟩
        · exact ⟨e, .inl hk0⟩
      have e3 : Vis cenv.scope y := e3
      rcases e3 with e3 | e3 | e3
      · exact key _ e3 (.inl rfl)
      · exact key _ e3 (.inr (.inl rfl))
      · exact key _ e3 (.inr (.inr rfl))
    obtain ⟨m, hn, hl⟩ := I.loc
    have hvis : Vis X.env.scope y := (ok.free _ (PySem.mem_of_lookup hfr.1) rfl).elim (fun k => .inr (.inl k)) (fun k => .inr (.inr k))
    obtain ⟨w, r, q⟩ := hl i y av e1 e2 hvis
    refine ⟨w, r, .inr ⟨hfr.2, ?_⟩⟩
    obtain ⟨c, h1, h2⟩ := look hfr.1
    rcases q with ⟨k, _⟩ | ⟨_, c', e', z⟩
    · have k : X.env.scope.names.lookup y = some .local := k
      rcases ok.free _ (PySem.mem_of_lookup hfr.1) rfl with k' | k' <;> rw [show X.env.scope.names.lookup y = _ from k'] at k <;> cases k
    · rw [h2] at e'; cases e'
      exact ⟨c, h1, z.keeps kp⟩
  · have e : cenv.cells.lookup y = some c := e
    rcases mem e with ⟨h1, _⟩ | ⟨_, z⟩
    · obtain ⟨w, z⟩ := I.cell y c h1
      exact ⟨w, z.keeps kp⟩
    · exact ⟨_, z⟩
  · show H cenv.locals = none
    rw [hL]; exact I.hok.fresh (Nat.le_refl _)
  · have e : cenv.cells.lookup y = some c := e
    rcases mem e with ⟨h1, _⟩ | ⟨h1, _⟩
    · exact I.freeC y c h1
    · exact I.hok.fresh (Nat.le_of_succ_le h1)
  · exact absurd (show p ∈ ([] : List (Addr × Obj)) ++ [] from hp) (by simp)
theorem app_ok {E : Value → Shared → Prop} {D : Addr} {xs : List V} {y : V} {v : Value} {Q : Value → Shared → Prop} (I : Inv X pins σ H s) (hD : H D = some (.lst xs)) (hz : xs.length < sizeLine) (r : RelV y v)
    (h : ∀ s', Inv X pins σ (upd H D (.lst (xs ++ [y]))) s' → Q .none s') : wpAny (model X.prog X.w) X.A (call (.builtin "list.append") [.ref D, v]) Q E s := by
  obtain ⟨hz', its, n, ri, e⟩ := I.hok D _ hD
  have hl := ri.length
  refine append_at (hsz := by rw [List.size_toArray]; omega) e fun h' sb ho' => ?_
  refine h { s with heap := h' } (I.write (t' := s.toks) (by rw [hD]; trivial) (.inl rfl) (fun b u hb q => (sb.2 b hb).trans q) ⟨_, ho'⟩ ⟨by rw [List.length_append]; exact hz, its ++ [v], n + 1, ri.append (.cons r .nil), ?_⟩)
  rw [ho']
  simp
def PTs (X : Cx) (ifs : List Expr) (t : TT) : Prop :=
  ∀ (pins : List (Addr × Obj)) (s : Shared) (σ : St) (H : Hp) (Q : Bool → Hp → Prop), Inv X pins σ H s → t σ H Q →
    wpAny (model X.prog X.w) X.A (forIn ifs true fun c r => if r = true then do let ok ← isTrue c X.env (eval c X.env); pure (ForInStep.yield ok) else pure (ForInStep.yield r)) (TP X pins σ Q) X.xe s
def tYes : TT := fun _ H Q => Q true H
theorem pts_nil : PTs X [] tYes := fun _ _ _ H _ I h => wpAny_tests_nil ⟨H, I, h⟩
end
theorem thnF {α : Type} {t : Sem α} {Q Q' : α → Shared → Prop} {M : Model} {A : Around} {E : Value → Shared → Prop} {s : Shared} (h : wpAny M A t Q (fun _ _ => False) s) (hQ : ∀ a s, Q a s → Q' a s) : wpAny M A t Q' E s := wpAny_mono h hQ fun _ _ z => False.elim z
theorem compLoop_any {prog : Program} {w : World} {A : Around} {R : Result → Shared → Prop} {s : Shared} {elt target iter : Expr} {ifs : List Expr} {scope : Scope} {pos : Pos} {it acc : Value} {env : Env} (I : Nat → Shared → Prop)
    (turn : ∀ n s, I n s → wpAny (model prog w) A (pyNext it) (fun r s₁ => match r with
      | none => R (.ok .next) s₁
      | some v => wpAny (model prog w) A (letOwnedTupleGo target it v) (fun _ s₁' => wpAny (model prog w) A (assign target env v) (fun _ s₂ =>
          wpAny (model prog w) A (forIn ifs true fun c r => if r = true then do let ok ← isTrue c env (eval c env); pure (ForInStep.yield ok) else pure (ForInStep.yield r)) (fun ok s₃ =>
            if ok = true then wpAny (model prog w) A (eval elt env) (fun x s₄ =>
              wpAny (model prog w) A (call (.builtin "list.append") [acc, x]) (fun _ s₅ => ∃ m, m < n ∧ I m s₅) (notedBy (model prog w) A env fun e s' => R (.error e) s') s₄) (notedBy (model prog w) A env fun e s' => R (.error e) s') s₃
            else ∃ m, m < n ∧ I m s₃) (notedBy (model prog w) A env fun e s' => R (.error e) s') s₂) (notedBy (model prog w) A env fun e s' => R (.error e) s') s₁') (notedBy (model prog w) A env fun e s' => R (.error e) s') s₁) (notedBy (model prog w) A env fun e s' => R (.error e) s') s)
    (n : Nat) (h : I n s) :
    codeAny (model prog w) A (.compLoop (.ListComp elt [⟨target, iter, ifs, 0⟩] scope pos) 0 it acc env) R s := by
  refine codeAny_loop rfl I (fun n s hI => ?_) n h
  show wpAny _ A ((compTurn (.ListComp elt [⟨target, iter, ifs, 0⟩] scope pos) 0 it acc env).onRaise (fun x => do noteFrame x env; theTreesLotGoes x)) _ _ s
  refine wpAny_noted ?_
  rw [compTurn_list]
  refine wpAny_bind (wpAny_standAt (wpAny_bind (wpAny_mono (turn n s hI) (fun r s₁ h₁ => ?_) fun _ _ h' => h')))
  cases r with
  | none => exact wpAny_pure h₁
  | some v =>
    refine wpAny_bind (wpAny_mono h₁ (fun _ s₁' h₁' => ?_) fun _ _ h' => h')
    refine wpAny_bind (wpAny_mono h₁' (fun _ s₂ h₂ => wpAny_bind (wpAny_mono h₂ (fun ok s₃ h₃ => ?_) fun _ _ h' => h')) fun _ _ h' => h')
    cases ok with
    | false => exact wpAny_pure ⟨rfl, h₃⟩
    | true =>
      exact wpAny_bind (wpAny_bind (wpAny_mono h₃ (fun x s₄ h₄ => wpAny_bind (wpAny_mono h₄ (fun _ s₅ h₅ => wpAny_pure (wpAny_pure ⟨rfl, h₅⟩)) fun _ _ h' => h')) fun _ _ h' => h'))
section
variable {X : Cx}
def tLc (wi : TI) (g : TG) (tt : TT) (te : TE) (vs : List Nat) : TE := fun σ H Q => wi σ H fun J H1 => ∀ D, H1 D = none → ∃ W : Nat → Nat → Hp → Prop, (∃ m, W 0 m (upd H1 D (.lst []))) ∧ ∀ i m H, W i m H →
  (J.stop i H ∧ Q (.ref D) H) ∨ (J.go i H ∧ ∃ Nx : Hp → Prop, (∀ H', Nx H' → ∃ m', m' < m ∧ W (i + 1) m' H') ∧ ∀ x H', J.yld i H x H' → g x (wipe σ vs) H' fun σ2 H2 => wipe σ2 vs = wipe σ vs ∧ tt σ2 H2 fun b H3 =>
    if b = true then te σ2 H3 fun y H4 => ∃ acc, H4 D = some (.lst acc) ∧ acc.length < sizeLine ∧ Nx (upd H4 D (.lst (acc ++ [y]))) else Nx H3)
theorem lc_core {pins : List (Addr × Obj)} {s : Shared} {σ : St} {H : Hp} {Q : VK} {elt tg iter : Expr} {ifs : List Expr} {scope : Scope} {own : List (Str × Nat)} {pos pos' : Pos} {wi : TI} {g : TG} {tt : TT} {te : TE} {use : Option (Value → Sem Unit)} {Qf : Value → Shared → Prop}
    (hc : X.calm = true) (hN : X.N.Nodup) (I : Inv X pins σ H s) (hi : PI X tg iter wi) (ok : BlkOk X.N X.env.scope scope own)
    (hg : ∀ (s : Shared) (H : Hp) (C : Addr) (cl : List (Str × Addr)) (fp : List Addr), PG (X.blk s H scope (compEnvC scope cl C X.env) fp) tg g) (ht : ∀ (s : Shared) (H : Hp) (C : Addr) (cl : List (Str × Addr)) (fp : List Addr), PTs (X.blk s H scope (compEnvC scope cl C X.env) fp) ifs tt)
    (he : ∀ (s : Shared) (H : Hp) (C : Addr) (cl : List (Str × Addr)) (fp : List Addr), PE (X.blk s H scope (compEnvC scope cl C X.env) fp) elt te) (hs : ∀ x, foldedSetIterable iter X.env x = pure x)
    (h : tLc wi g tt te (own.map (·.2)) σ H Q)
    (hRR : ∀ D C s' m H', Inv X pins σ H' s' → Q (.ref D) H' → s'.heap.Ns C m → FpOk X pins H' C → compPost (model X.prog X.w) X.A X.xe use Qf (.ref D) C (.ok .next) s') :
    wpAny (model X.prog X.w) X.A (comprehension (.ListComp elt [⟨tg, iter, ifs, 0⟩] scope pos) scope X.env pos' (newList []) false (eval iter X.env) use) Qf X.xe s := by
  have hfree : ∀ y ∈ scope.names, y.2 = .free → ∃ c, X.env.cells.lookup y.1 = some c := fun y hy e => by
    rcases ok.free y hy e with k | k
    · exact I.ok.has _ (.inl k)
    · exact I.ok.has _ (.inr k)
  refine wpAny_comprehension_free (use := use) rfl hs (closure_ok hfree) ok.kind (fun y hy e => by rw [ok.uniq y hy, e])
    (thn (hi pins s σ H _ I h) fun xv s1 hx => thn hx fun itv s2 h2 => ?_)
  obtain ⟨it, fp, tn, J, H2, e, I2, T, st2, f2, q⟩ := h2
  subst e
  refine wpAny_newObj_type (newEnv_comp ?_) (by show 0 ≤ sizeLine; decide)
  generalize hD : s2.heap.objs.size = D
  have hDn : H2 D = none := I2.hok.fresh (Nat.le_of_eq hD)
  obtain ⟨W, ⟨m0, w0⟩, turn⟩ := q D hDn
  generalize hs3 : ({ s2 with heap := s2.heap.push { cls := .type "list", data := .seq ([] : List Value).toArray } } : Shared) = s3
  have I3 : Inv X pins σ (upd H2 D (.lst [])) s3 := by
    rw [← hs3]
    refine I2.laid (t' := s2.toks) (fun b o e => Heap.get?_push_of_some _ e) (Nat.le_of_eq hD) ⟨Nat.zero_le _, [], 0, .nil, ?_⟩
    rw [← hD]
    exact Heap.get?_push_size _ rfl
  have h3 : s3.heap = s2.heap.push { cls := .type "list", data := .seq ([] : List Value).toArray } := by rw [← hs3]
  have sz : ∀ b ∈ fp, b < s2.heap.objs.size := fun b hb => by
    obtain ⟨o, e, _⟩ := T.obj _ _ st2 b hb
    exact Heap.lt_size e
  have f3 : ∀ b ∈ fp, FpOk X pins (upd H2 D (.lst [])) b ∧ b < s3.heap.objs.size := fun b hb => by
    have hlt := sz b hb
    refine ⟨⟨?_, (f2 b hb).2⟩, by rw [h3, Heap.size_push]; exact Nat.lt_succ_of_lt hlt⟩
    rw [upd_ne (by rw [← hD]; exact Nat.ne_of_lt hlt)]
    exact (f2 b hb).1
  have st3 : tn 0 s3.heap := T.keep _ _ _ st2 fun b _ o e => by rw [h3]; exact Heap.get?_push_of_some _ e
  have I4 := block_start I3 ok hN f3
  have pg := hg s3 (upd H2 D (.lst [])) s3.heap.objs.size (cellsFrom (s3.heap.objs.size + 1) scope.names (cloFrom X.env.cells scope.names [])) fp
  have pt := ht s3 (upd H2 D (.lst [])) s3.heap.objs.size (cellsFrom (s3.heap.objs.size + 1) scope.names (cloFrom X.env.cells scope.names [])) fp
  have pe := he s3 (upd H2 D (.lst [])) s3.heap.objs.size (cellsFrom (s3.heap.objs.size + 1) scope.names (cloFrom X.env.cells scope.names [])) fp
  show codeAny _ _ (.compStart (.ListComp elt [⟨tg, iter, ifs, 0⟩] scope pos) 0 (.ref it) (.ref D) (compEnvC scope (cellsFrom (s3.heap.objs.size + 1) scope.names (cloFrom X.env.cells scope.names [])) s3.heap.objs.size X.env)) (compPost (model X.prog X.w) X.A X.xe use Qf (.ref D) s3.heap.objs.size) { s3 with heap := pushCells (s3.heap.push { cls := .type "dict", data := .dict #[] }) scope.names }
  have nfp : ∀ b ∈ fp, (upd H2 D (.lst [])) b = none := fun b hb => (f3 b hb).1.1
  generalize hce : compEnvC scope (cellsFrom (s3.heap.objs.size + 1) scope.names (cloFrom X.env.cells scope.names [])) s3.heap.objs.size X.env = ce at I4 pg pt pe ⊢
  have cL : ce.locals = s3.heap.objs.size := by subst hce; rfl
  generalize hH3 : upd H2 D (.lst []) = H3 at I3 I4 pg pt pe w0 nfp f3
  generalize hs4 : ({ s3 with heap := pushCells (s3.heap.push { cls := .type "dict", data := .dict #[] }) scope.names } : Shared) = s4 at I4 ⊢
  have st4 : tn 0 s4.heap := T.keep _ _ _ st3 fun b _ o e => by rw [← hs4]; exact pushCells_keeps _ _ _ _ (Heap.get?_push_of_some _ e)
  have stat : ∀ {σ' : St} {H' : Hp} {s' : Shared}, Inv (X.blk s3 H3 scope ce fp) [] σ' H' s' → (∀ b ∈ fp, H' b = none) → ∀ b ∈ fp, FpOk (X.blk s3 H3 scope ce fp) [] H' b := fun {σ' H' s'} I' hn b hb =>
    ⟨hn b hb, (I'.ok.exf b hb).1, I'.ok.exfs b hb, .inl hb, fun x c e => (I'.ok.exf b hb).2 x c e, fun p hp => absurd (show p ∈ ([] : List (Addr × Obj)) ++ [] from hp) (by simp)⟩
  have loop : codeAny (model X.prog X.w) X.A (.compLoop (.ListComp elt [⟨tg, iter, ifs, 0⟩] scope pos) 0 (.ref it) (.ref D) ce) (compPost (model X.prog X.w) X.A X.xe use Qf (.ref D) s3.heap.objs.size) s4 := by
    refine compLoop_any (fun n s' => ∃ i H', Inv (X.blk s3 H3 scope ce fp) [] (wipe σ (own.map (·.2))) H' s' ∧ tn i s'.heap ∧ (∀ b ∈ fp, H' b = none) ∧ W i n H') ?_ m0 ⟨0, H3, I4, st4, nfp, w0⟩
    rintro n s5 ⟨i, H5, I5, st5, n5, w5⟩
    rcases turn i n H5 w5 with ⟨stop, qq⟩ | ⟨go, Nx, hNx, step⟩
    · have td := T.done (X.blk s3 H3 scope ce fp) rfl rfl rfl hc i [] s5 _ H5 (fun _ _ => False) I5 (stat I5 n5) st5 stop
      refine thnF td fun r s6 ⟨hr, I6⟩ => ?_
      subst hr
      have I7 : Inv X pins σ H5 s6 := I3.call' (ch := fp) I6.os I6.base I6.hok I6.bare fun b hb => ⟨(f3 b hb).1.2.2.2.1, (f3 b hb).1.2.1, (f3 b hb).1.2.2.2.2.1, (f3 b hb).1.2.2.2.2.2⟩
      have nC : H5 s3.heap.objs.size = none := by
        have z : H5 ce.locals = none := I6.free
        rw [cL] at z
        exact z
      obtain ⟨m, hn, _⟩ := I6.loc
      have hn : s6.heap.Ns ce.locals m := hn
      rw [cL] at hn
      exact hRR D s3.heap.objs.size s6 m H5 I7 qq hn (I3.fpOk (Nat.le_refl _) nC)
    · have ti := T.item (X.blk s3 H3 scope ce fp) rfl rfl rfl hc i [] s5 _ H5 (fun _ _ => False) I5 (stat I5 n5) st5 go
      refine thnF ti fun r s6 ⟨u, hr, h6⟩ => ?_
      subst hr
      refine thnF h6 fun _ s7 ⟨x, H7, I7, r7, y7, st7, n7⟩ => ?_
      have I7' := I7.pinned (stat I7 n7) (T.obj _ _ st7)
      refine thnF (pg _ s7 _ H7 x u _ I7' r7 (step x H7 y7)) fun _ s8 ⟨σ8, H8, I8, hw8, q8⟩ => ?_
      refine thnF (pt _ s8 σ8 H8 _ I8 q8) fun b s9 ⟨H9, I9, q9⟩ => ?_
      have fin : ∀ {s' : Shared} {H' : Hp}, Inv (X.blk s3 H3 scope ce fp) ([] ++ pinsAt fp s7.heap) σ8 H' s' → Nx H' → ∃ m, m < n ∧ ∃ i H', Inv (X.blk s3 H3 scope ce fp) [] (wipe σ (own.map (·.2))) H' s' ∧ tn i s'.heap ∧ (∀ b ∈ fp, H' b = none) ∧ W i m H' := fun {s' H'} I' nx => by
        obtain ⟨m', hm, w'⟩ := hNx H' nx
        have pin' : ∀ b ∈ fp, ∀ o, s7.heap.get? b = some o → s'.heap.get? b = some o ∧ H' b = none := fun b hb o e =>
          let z := I'.pin (b, o) (List.mem_append_right _ (List.mem_append_right _ (mem_pinsAt hb e)))
          ⟨z.1, z.2.1⟩
        have hl : (wipe σ (own.map (·.2))).length = σ8.length := by rw [← hw8, wipe_length]
        refine ⟨m', hm, i + 1, H', (I'.unpinned (pins := [])).weak hl (fun j v e => ?_), T.keep _ _ _ st7 fun b hb o e => (pin' b hb o e).1, fun b hb => ?_, w'⟩
        · rw [← hw8] at e
          exact (wipe_some e).1
        · obtain ⟨o, e, _⟩ := T.obj _ _ st7 b hb
          exact (pin' b hb o e).2
      cases b with
      | false =>
        simp only [Bool.false_eq_true, if_false] at q9 ⊢
        exact fin I9 q9
      | true =>
        simp only [if_true] at q9 ⊢
        refine thnF (pe _ s9 σ8 H9 _ I9 q9) fun z s10 ⟨yv, H10, I10, r10, acc, hD10, hz10, nx⟩ => ?_
        exact app_ok (X := X.blk s3 H3 scope ce fp) I10 hD10 hz10 r10 fun s11 I11 => fin I11 nx
  exact codeAny_compStart_list loop (T.self X.A 0 _ _ _ st4 loop)
theorem pe_lc {elt tg iter : Expr} {ifs : List Expr} {scope : Scope} {own : List (Str × Nat)} {pos : Pos} {wi : TI} {g : TG} {tt : TT} {te : TE} (hc : X.calm = true) (hN : X.N.Nodup) (hi : PI X tg iter wi) (ok : BlkOk X.N X.env.scope scope own)
    (hg : ∀ (s : Shared) (H : Hp) (C : Addr) (cl : List (Str × Addr)) (fp : List Addr), PG (X.blk s H scope (compEnvC scope cl C X.env) fp) tg g) (ht : ∀ (s : Shared) (H : Hp) (C : Addr) (cl : List (Str × Addr)) (fp : List Addr), PTs (X.blk s H scope (compEnvC scope cl C X.env) fp) ifs tt)
    (he : ∀ (s : Shared) (H : Hp) (C : Addr) (cl : List (Str × Addr)) (fp : List Addr), PE (X.blk s H scope (compEnvC scope cl C X.env) fp) elt te) (hs : ∀ x, foldedSetIterable iter X.env x = pure x := by intro _; rfl) :
    PE X (.ListComp elt [⟨tg, iter, ifs, 0⟩] scope pos) (tLc wi g tt te (own.map (·.2))) := by
  intro pins s σ H Q I h
  rw [eval_ListComp]
  refine lc_core hc hN I hi ok hg ht he hs h fun D C s' m H' I' q hn f => ⟨m, hn, fun h'' sb => ?_⟩
  obtain ⟨f0, f1, f2, f3, f4, f5⟩ := f
  exact ⟨.ref D, H', I'.turned (t' := s'.toks) (fun b o hb e => (sb.2 b hb).trans e) f0 f1 f3 f4 f5, rfl, q⟩
end
theorem lc_range {lo : Int} {n : Nat} {g : TG} {tt : TT} {te : TE} {vs : List Nat} {σ : St} {H1 : Hp} {D : Addr} {Qd : Hp → Prop} (Pv : Nat → Hp → Prop) (h0 : Pv 0 (upd H1 D (.lst [])))
    (hs : ∀ i H, i < n → Pv i H → g (.int (lo + i)) (wipe σ vs) H fun σ2 H2 => wipe σ2 vs = wipe σ vs ∧ tt σ2 H2 fun b H3 =>
      if b = true then te σ2 H3 fun y H4 => ∃ acc, H4 D = some (.lst acc) ∧ acc.length < sizeLine ∧ Pv (i + 1) (upd H4 D (.lst (acc ++ [y]))) else Pv (i + 1) H3) (hd : ∀ H, Pv n H → Qd H) :
    ∃ W : Nat → Nat → Hp → Prop, (∃ m, W 0 m (upd H1 D (.lst []))) ∧ ∀ i m H, W i m H →
      ((Itr lo n).stop i H ∧ Qd H) ∨ ((Itr lo n).go i H ∧ ∃ Nx : Hp → Prop, (∀ H', Nx H' → ∃ m', m' < m ∧ W (i + 1) m' H') ∧ ∀ x H', (Itr lo n).yld i H x H' → g x (wipe σ vs) H' fun σ2 H2 => wipe σ2 vs = wipe σ vs ∧ tt σ2 H2 fun b H3 =>
        if b = true then te σ2 H3 fun y H4 => ∃ acc, H4 D = some (.lst acc) ∧ acc.length < sizeLine ∧ Nx (upd H4 D (.lst (acc ++ [y]))) else Nx H3) := by
  refine ⟨fun i m H => m = n - i ∧ i ≤ n ∧ Pv i H, ⟨n, by simp, Nat.zero_le _, h0⟩, ?_⟩
  rintro i m H ⟨rfl, hi, p⟩
  by_cases hlt : i < n
  · refine .inr ⟨hlt, Pv (i + 1), fun H' p' => ⟨n - (i + 1), by omega, rfl, hlt, p'⟩, fun x H' y => ?_⟩
    obtain ⟨e, y⟩ := y
    subst e y
    exact hs i _ hlt p
  · have e : i = n := by omega
    subst e
    exact .inl ⟨Nat.le_refl _, hd H p⟩
theorem lc_list {K : PySem.W.Frag} {a : Addr} {xs : List V} {g : TG} {tt : TT} {te : TE} {vs : List Nat} {σ : St} {H1 : Hp} {D : Addr} {Qd : Hp → Prop} (Pv : Nat → Hp → Prop) (h0 : Pv 0 (upd H1 D (.lst []))) (hl : ∀ i H, i ≤ xs.length → Pv i H → SqL K H a xs)
    (hs : ∀ i x H, xs[i]? = some x → Pv i H → g x (wipe σ vs) H fun σ2 H2 => wipe σ2 vs = wipe σ vs ∧ tt σ2 H2 fun b H3 =>
      if b = true then te σ2 H3 fun y H4 => ∃ acc, H4 D = some (.lst acc) ∧ acc.length < sizeLine ∧ Pv (i + 1) (upd H4 D (.lst (acc ++ [y]))) else Pv (i + 1) H3) (hd : ∀ H, Pv xs.length H → Qd H) :
    ∃ W : Nat → Nat → Hp → Prop, (∃ m, W 0 m (upd H1 D (.lst []))) ∧ ∀ i m H, W i m H →
      ((Itl K a).stop i H ∧ Qd H) ∨ ((Itl K a).go i H ∧ ∃ Nx : Hp → Prop, (∀ H', Nx H' → ∃ m', m' < m ∧ W (i + 1) m' H') ∧ ∀ x H', (Itl K a).yld i H x H' → g x (wipe σ vs) H' fun σ2 H2 => wipe σ2 vs = wipe σ vs ∧ tt σ2 H2 fun b H3 =>
        if b = true then te σ2 H3 fun y H4 => ∃ acc, H4 D = some (.lst acc) ∧ acc.length < sizeLine ∧ Nx (upd H4 D (.lst (acc ++ [y]))) else Nx H3) := by
  refine ⟨fun i m H => m = xs.length - i ∧ i ≤ xs.length ∧ Pv i H, ⟨xs.length, by simp, Nat.zero_le _, h0⟩, ?_⟩
  rintro i m H ⟨rfl, hi, p⟩
  have q := hl i H hi p
  by_cases hlt : i < xs.length
  · refine .inr ⟨⟨xs, xs[i], q, by simp [hlt]⟩, Pv (i + 1), fun H' p' => ⟨xs.length - (i + 1), by omega, rfl, hlt, p'⟩, fun x H' y => ?_⟩
    obtain ⟨e, y⟩ := y
    subst e
    exact hs i x _ (y xs q) p
  · have e : i = xs.length := by omega
    subst e
    exact .inl ⟨⟨xs, q, Nat.le_refl _⟩, hd H p⟩
def blkC (N : List Str) (sc scope : Scope) (own : List (Str × Nat)) : Bool :=
  (match scope.kind with | .function => true | _ => false) && (scope.names.all fun y => decide (scope.names.lookup y.1 = some y.2)) && (own.all fun p => decide (N[p.2]? = some p.1)) &&
    (scope.names.all fun y => match y.2 with
      | .free => (match sc.names.lookup y.1 with | some .cell => true | some .free => true | _ => false)
      | .local => decide (y.1 ∈ own.map (·.1)) || decide (y.1 ∉ N)
      | .cell => decide (y.1 ∈ own.map (·.1)) || decide (y.1 ∉ N)
      | _ => true)
theorem blkOk_by {N : List Str} {sc scope : Scope} {own : List (Str × Nat)} (h : blkC N sc scope own = true) : BlkOk N sc scope own := by
  unfold blkC at h
  simp only [Bool.and_eq_true, List.all_eq_true, decide_eq_true_eq] at h
  obtain ⟨⟨⟨h1, h2⟩, h3⟩, h4⟩ := h
  refine ⟨?_, h2, h3, fun y hy e => ?_, fun y hy e => ?_⟩
  · split at h1
    · assumption
    · cases h1
  · have q := h4 y hy
    simp only [e] at q
    split at q <;> first | exact .inl (by assumption) | exact .inr (by assumption) | cases q
  · have q := h4 y hy
    rcases e with e | e <;> (simp only [e, Bool.or_eq_true, decide_eq_true_eq] at q; exact q)
end L2
namespace L2
open PySem PySem.Spec PyProof.Rows
section
variable {prog : Program} {w : World} {A : Around} {R : Result → Shared → Prop} {s : Shared} {elt t0 i0 t1 i1 : Expr} {ifs0 ifs1 : List Expr} {scope : Scope} {pos : Pos} {it acc : Value} {env : Env}
end
section
variable {X : Cx}
end
end L2
namespace L2
open PySem PySem.Spec PyProof.Rows
section
variable {κ : Type} [DecidableEq κ]
def valV (kvs : List (κ × V)) (k : κ) : Option V := (kvs.find? fun kv => decide (kv.1 = k)).map (·.2)
def putK (kvs : List (κ × V)) (k : κ) (v : V) : List (κ × V) :=
  if (kvs.any fun kv => decide (kv.1 = k)) = true then kvs.map (fun kv => if kv.1 = k then (kv.1, v) else kv) else kvs ++ [(k, v)]
theorem valV_pos {p : κ × V} {r : List (κ × V)} {k : κ} (e : p.1 = k) : valV (p :: r) k = some p.2 := by simp [valV, List.find?_cons, e]
theorem valV_neg {p : κ × V} {r : List (κ × V)} {k : κ} (e : ¬ p.1 = k) : valV (p :: r) k = valV r k := by simp [valV, List.find?_cons, e]
theorem valV_any (k : κ) : ∀ kvs : List (κ × V), (kvs.any fun kv => decide (kv.1 = k)) = (valV kvs k).isSome
  | [] => rfl
  | p :: r => by
    rw [List.any_cons]
    by_cases e : p.1 = k
    · simp only [valV_pos e, decide_eq_true e, Bool.true_or, Option.isSome_some]
    · rw [valV_neg e, decide_eq_false e, Bool.false_or]; exact valV_any k r
theorem valV_map (k j : κ) (y : V) : ∀ kvs : List (κ × V), valV (kvs.map fun kv => if kv.1 = k then (kv.1, y) else kv) j = (valV kvs j).map fun x => if j = k then y else x
  | [] => rfl
  | p :: r => by
    have ih := valV_map k j y r
    rw [List.map_cons]
    by_cases h : p.1 = k
    · rw [if_pos h]
      by_cases e : p.1 = j
      · rw [valV_pos (p := (p.1, y)) e, valV_pos e, Option.map_some, if_pos (e.symm.trans h)]
      · rw [valV_neg (p := (p.1, y)) e, valV_neg e, ih]
    · rw [if_neg h]
      by_cases e : p.1 = j
      · rw [valV_pos (p := p) e, valV_pos e, Option.map_some, if_neg (fun z => h (e.trans z))]
      · rw [valV_neg (p := p) e, valV_neg e, ih]
theorem valV_snoc (k j : κ) (y : V) : ∀ kvs : List (κ × V), valV kvs k = none → valV (kvs ++ [(k, y)]) j = if j = k then some y else valV kvs j
  | [], _ => by
    by_cases e : k = j
    · rw [if_pos e.symm]; exact valV_pos (p := (k, y)) e
    · rw [if_neg (fun z => e z.symm)]; exact valV_neg (p := (k, y)) e
  | p :: r, hn => by
    rw [List.cons_append]
    have hk : ¬ p.1 = k := fun z => by rw [valV_pos z] at hn; cases hn
    rw [valV_neg hk] at hn
    have ih := valV_snoc k j y r hn
    by_cases e : p.1 = j
    · rw [valV_pos e, valV_pos e, if_neg (fun z => hk (e.trans z))]
    · rw [valV_neg e, valV_neg e, ih]
theorem valV_put (kvs : List (κ × V)) (k j : κ) (y : V) : valV (putK kvs k y) j = if j = k then some y else valV kvs j := by
  unfold putK
  by_cases a : (kvs.any fun kv => decide (kv.1 = k)) = true
  · rw [if_pos a, valV_map]
    rw [valV_any] at a
    by_cases e : j = k
    · obtain ⟨x, hx⟩ := Option.isSome_iff_exists.mp a
      rw [if_pos e, e, hx, Option.map_some, if_pos rfl]
    · rw [if_neg e]
      cases valV kvs j with
      | none => rfl
      | some x => rw [Option.map_some, if_neg e]
  · rw [if_neg a]
    refine valV_snoc k j y kvs ?_
    rw [valV_any] at a
    cases q : valV kvs k with
    | none => rfl
    | some x => rw [q] at a; exact (a rfl).elim
theorem length_putK (kvs : List (κ × V)) (k : κ) (v : V) : (putK kvs k v).length ≤ kvs.length + 1 := by
  unfold putK
  split
  · rw [List.length_map]; omega
  · rw [List.length_append, List.length_cons, List.length_nil]; omega
theorem RelO.isSome_eq {o : Option V} {u : Option Value} (r : RelO o u) : o.isSome = u.isSome := by
  cases o with
  | none => cases u with
    | none => rfl
    | some _ => exact (show False from r).elim
  | some _ => cases u with
    | none => exact (show False from r).elim
    | some _ => rfl
theorem KV.val {kvs : List (κ × V)} {vs : List (κ × Value)} (r : KV kvs vs) (k : κ) : RelO (valV kvs k) (valueAt vs k) := by
  unfold KV at r
  induction r with
  | nil => exact True.intro
  | @cons p q ps qs h t ih =>
    obtain ⟨h1, h2⟩ := h
    by_cases e : p.1 = k
    · have e' : q.1 = k := h1.symm.trans e
      have b : valueAt (q :: qs) k = some q.2 := by simp [valueAt, List.find?_cons, e']
      rw [valV_pos e, b]; exact h2
    · have e' : ¬ q.1 = k := fun z => e (h1.trans z)
      have b : valueAt (q :: qs) k = valueAt qs k := by simp [valueAt, List.find?_cons, e']
      rw [valV_neg e, b]; exact ih
theorem KV.any {kvs : List (κ × V)} {vs : List (κ × Value)} (r : KV kvs vs) (k : κ) : (kvs.any fun kv => decide (kv.1 = k)) = vs.any fun kv => decide (kv.1 = k) := by
  unfold KV at r
  induction r with
  | nil => rfl
  | cons h t ih => rw [List.any_cons, List.any_cons, ih, h.1]
theorem KV.repl {kvs : List (κ × V)} {vs : List (κ × Value)} (r : KV kvs vs) (k : κ) {y : V} {u : Value} (ry : RelV y u) :
    KV (kvs.map fun kv => if kv.1 = k then (kv.1, y) else kv) (vs.map fun kv => if kv.1 = k then (kv.1, u) else kv) := by
  unfold KV at r ⊢
  induction r with
  | nil => exact .nil
  | @cons p q ps qs h t ih =>
    rw [List.map_cons, List.map_cons]
    refine .cons ?_ ih
    obtain ⟨h1, h2⟩ := h
    by_cases e : p.1 = k
    · rw [if_pos e, if_pos (h1.symm.trans e)]; exact ⟨h1, ry⟩
    · rw [if_neg e, if_neg (fun z => e (h1.trans z))]; exact ⟨h1, h2⟩
theorem KV.put {kvs : List (κ × V)} {vs : List (κ × Value)} (r : KV kvs vs) (k : κ) {y : V} {u : Value} (ry : RelV y u) : KV (putK kvs k y) (stored vs k u) := by
  unfold putK stored
  rw [r.any k]
  by_cases e : (vs.any fun kv => decide (kv.1 = k)) = true
  · rw [if_pos e, if_pos e]; exact r.repl k ry
  · rw [if_neg e, if_neg e]; exact Paired.snoc r ⟨rfl, ry⟩
theorem KV.length {kvs : List (κ × V)} {vs : List (κ × Value)} (r : KV kvs vs) : kvs.length = vs.length := Paired.length r
end
theorem kV_is {P : Program} {w : World} {k : Key} {u : Value} (r : RelV (kV k) u) : (mixKind P w).is k u = true := by
  cases k with
  | inl i => obtain ⟨t, e⟩ := (show ∃ t, u = Value.int i t from r); subst e; exact mixKind_int P w i t
  | inr x => obtain ⟨t, e⟩ := (show ∃ t, u = Value.str x t from r); subst e; exact mixKind_str P w x t
theorem items_are {P : Program} {w : World} : ∀ {ks : List Key} {us : List Value}, Vals (ks.map kV) us → ItemsAre (mixKind P w) ks us
  | [], _, r => by rw [List.map_nil] at r; cases r; exact .nil
  | k :: ks, _, r => by
    rw [List.map_cons] at r
    cases r with
    | cons h t => exact .cons (kV_is h) (items_are t)
abbrev KT (H : Hp) : List (List Key × V) → List (List Key × Addr × Value) → Prop := Paired fun p q => p.1 = q.1 ∧ H q.2.1 = some (.tup (p.1.map kV)) ∧ RelV p.2 q.2.2
theorem KT.val {H : Hp} {kvs : List (List Key × V)} {xs : List (List Key × Addr × Value)} (r : KT H kvs xs) (k : List Key) : RelO (valV kvs k) ((atKey xs k).map (·.2)) := by
  induction r with
  | nil => exact True.intro
  | @cons p q ps qs h t ih =>
    obtain ⟨h1, _, h2⟩ := h
    by_cases e : p.1 = k
    · have e' : q.1 = k := h1.symm.trans e
      have b : atKey (q :: qs) k = some q.2 := by simp [atKey, List.find?_cons, e']
      rw [valV_pos e, b]; exact h2
    · have e' : ¬ q.1 = k := fun z => e (h1.trans z)
      have b : atKey (q :: qs) k = atKey qs k := by simp [atKey, List.find?_cons, e']
      rw [valV_neg e, b]; exact ih
theorem KT.repl {H : Hp} {kvs : List (List Key × V)} {xs : List (List Key × Addr × Value)} (r : KT H kvs xs) (k : List Key) {y : V} {u : Value} (ry : RelV y u) :
    KT H (kvs.map fun kv => if kv.1 = k then (kv.1, y) else kv) (xs.map (putAt k u)) := by
  induction r with
  | nil => exact .nil
  | @cons p q ps qs h t ih =>
    rw [List.map_cons, List.map_cons]
    refine .cons ?_ ih
    obtain ⟨h1, h2, h3⟩ := h
    unfold putAt
    by_cases e : p.1 = k
    · rw [if_pos e, if_pos (h1.symm.trans e)]; exact ⟨h1, h2, ry⟩
    · rw [if_neg e, if_neg (fun z => e (h1.trans z))]; exact ⟨h1, h2, h3⟩
theorem KT.put {H : Hp} {kvs : List (List Key × V)} {xs : List (List Key × Addr × Value)} (r : KT H kvs xs) (k : List Key) {b : Addr} {y : V} {u : Value} (hb : H b = some (.tup (k.map kV))) (ry : RelV y u) :
    KT H (putK kvs k y) (storedH xs k b u) := by
  have e : (kvs.any fun kv => decide (kv.1 = k)) = (atKey xs k).isSome := by
    rw [valV_any, (r.val k).isSome_eq, Option.isSome_map]
  unfold putK storedH
  rw [e]
  by_cases q : (atKey xs k).isSome = true
  · rw [if_pos q, if_pos q]; exact r.repl k ry
  · rw [if_neg q, if_neg q]; exact Paired.snoc r ⟨rfl, hb, ry⟩
theorem KT.keeps {H H' : Hp} {kvs : List (List Key × V)} {xs : List (List Key × Addr × Value)} (r : KT H kvs xs) (ht : ∀ b ys, H b = some (.tup ys) → H' b = some (.tup ys)) : KT H' kvs xs :=
  Paired.mapP r fun _ _ z => ⟨z.1, ht _ _ z.2.1, z.2.2⟩
section
variable {P : Program} {w : World} {H : Hp} {h : Heap} {a : Addr}
theorem rd_of {u : HO} (ok : HOk P w H h) (e : Rd H a u) : ObjOk P w H h a u := e.ok ok
theorem dk_rd {kvs : List (Key × V)} (ok : HOk P w H h) (e : Rd H a (.dK kvs)) : kvs.length ≤ sizeLine ∧ (a == sysModules) = false ∧ ∃ vs, KV kvs vs ∧ h.DictOf (mixKind P w) a vs :=
  show ObjOk P w H h a (.dK kvs) from rd_of ok e
theorem dk_of {kvs : List (Key × V)} (ok : HOk P w H h) (e : H a = some (.dK kvs)) : kvs.length ≤ sizeLine ∧ (a == sysModules) = false ∧ ∃ vs, KV kvs vs ∧ h.DictOf (mixKind P w) a vs := dk_rd ok (.inl e)
theorem key_of {ks : List Key} (ok : HOk P w H h) (e : H a = some (.tup (ks.map kV))) : (tupleKind (mixKind P w)).is h ks a := by
  obtain ⟨_, its, r, o, h1, h2, n, h3⟩ := (show ObjOk P w H h a (.tup (ks.map kV)) from ok a _ e)
  exact ⟨o, its.toArray, n, h1, h2, h3, by simpa using items_are r⟩
theorem dt_rd {kvs : List (List Key × V)} (ok : HOk P w H h) (e : Rd H a (.dT kvs)) : kvs.length ≤ sizeLine ∧ (a == sysModules) = false ∧
    ∃ xs, KT H kvs xs ∧ h.DictOfH (tupleKind (mixKind P w)) a xs := by
  obtain ⟨z, y, xs, r, o, es, ep, h1, h2, h3, h4, h5⟩ := (show ObjOk P w H h a (.dT kvs) from rd_of ok e)
  refine ⟨z, y, xs, r, o, es, ep, h1, h2, h3, h4, fun x hx => ?_, h5⟩
  have all : ∀ {l : List (List Key × V)} {m : List (List Key × Addr × Value)}, KT H l m → ∀ x ∈ m, (tupleKind (mixKind P w)).is h x.1 x.2.1 := by
    intro l m q
    induction q with
    | nil => intro x hx; exact nomatch hx
    | @cons p q ps qs hq t ih =>
      intro x hx
      rcases List.mem_cons.mp hx with e | hx
      · subst e
        exact key_of ok (by rw [← hq.1]; exact hq.2.1)
      · exact ih x hx
  exact all r x hx
theorem dt_of {kvs : List (List Key × V)} (ok : HOk P w H h) (e : H a = some (.dT kvs)) : kvs.length ≤ sizeLine ∧ (a == sysModules) = false ∧
    ∃ xs, KT H kvs xs ∧ h.DictOfH (tupleKind (mixKind P w)) a xs := dt_rd ok (.inl e)
end
def DGet (H : Hp) (a : Addr) (y : V) (r : Option V) : Prop :=
  (∃ kvs k, Rd H a (.dK kvs) ∧ y = kV k ∧ r = valV kvs k) ∨ ∃ kvs k b, Rd H a (.dT kvs) ∧ y = .ref b ∧ H b = some (.tup (k.map kV)) ∧ r = valV kvs k
def DPut (H : Hp) (a : Addr) (y v : V) (H' : Hp) : Prop :=
  (∃ kvs k, H a = some (.dK kvs) ∧ y = kV k ∧ kvs.length < sizeLine ∧ H' = upd H a (.dK (putK kvs k v))) ∨
  ∃ kvs k b, H a = some (.dT kvs) ∧ y = .ref b ∧ H b = some (.tup (k.map kV)) ∧ kvs.length < sizeLine ∧ H' = upd H a (.dT (putK kvs k v))
theorem DGet.k {H : Hp} {a : Addr} {kvs : List (Key × V)} {k : Key} (e : H a = some (.dK kvs)) : DGet H a (kV k) (valV kvs k) := .inl ⟨kvs, k, .inl e, rfl, rfl⟩
theorem DPut.k {H : Hp} {a : Addr} {kvs : List (Key × V)} {k : Key} {v : V} (e : H a = some (.dK kvs)) (hl : kvs.length < sizeLine) : DPut H a (kV k) v (upd H a (.dK (putK kvs k v))) := .inl ⟨kvs, k, e, rfl, hl, rfl⟩
section
variable {X : Cx} {pins : List (Addr × Obj)} {σ : St} {H : Hp} {s : Shared} {a : Addr} {y v : V} {u r : Value} {o : Option V} {A : Around} {E : Value → Shared → Prop}
theorem Inv.big (I : Inv X pins σ H s) : sysModules < s.heap.objs.size := by
  have h : mainGlobals < s.heap.objs.size := (I.mod.glob.keeps I.bk).lt
  exact Nat.lt_trans (by decide) h
theorem d_notIn {Q : Value → Shared → Prop} (hu : A.units + 1 < cLine) (I : Inv X pins σ H s) (g : DGet H a y o) (ry : RelV y u) (h : ∀ s', Inv X pins σ H s' → Q (.bool (!o.isSome)) s') :
    wpAny (model X.prog X.w) A (compareOp .NotIn u (.ref a)) Q E s := by
  rcases g with ⟨kvs, k, e, ey, l⟩ | ⟨kvs, k, b, e, ey, eb, l⟩
  · subst ey
    obtain ⟨z, hd, vs, rel, dd⟩ := dk_rd I.hok e
    refine wpAny_notIn_of (kV_is ry) hd dd.mapOf ?_
    rw [← (rel.val k).isSome_eq, ← l]
    exact h _ (I.tok _)
  · subst ey
    cases (show u = Value.ref b from ry)
    obtain ⟨z, hd, xs, rel, dd⟩ := dt_rd I.hok e
    refine wpAny_notIn_heap (tupleKind_room_in1 hu) (key_of I.hok eb) hd dd ?_
    have q := (rel.val k).isSome_eq
    rw [Option.isSome_map] at q
    rw [← q, ← l]
    exact h _ (I.tok _)
theorem d_write {h' : Heap} {t' : Nat} {ob : HO} (I : Inv X pins σ H s) (mu : Mut (H a)) (hs : Heap.SameBut a s.heap h') (he : ∃ q, h'.get? a = some q) (new : ObjOk X.prog X.w (upd H a ob) h' a ob) :
    Inv X pins σ (upd H a ob) { s with heap := h', toks := t' } :=
  I.write (x := a) (e := a) mu (.inl rfl) (fun b q hb z => (hs.2 b hb).trans z) he new
theorem dk_new {P : Program} {w : World} {H' : Hp} {h' : Heap} {kvs : List (Key × V)} {vs : List (Key × Value)} (z : kvs.length ≤ sizeLine) (hd : (a == sysModules) = false) (rel : KV kvs vs) (dd : h'.DictOf (mixKind P w) a vs) :
    ObjOk P w H' h' a (.dK kvs) := ⟨z, hd, vs, rel, dd⟩
theorem d_setItem {H' : Hp} {Q : Unit → Shared → Prop} (hu : A.units + 1 < cLine) (I : Inv X pins σ H s) (g : DPut H a y v H') (ry : RelV y u) (rv : RelV v r) (h : ∀ s', Inv X pins σ H' s' → Q () s') :
    wpAny (model X.prog X.w) A (setItem (.ref a) u r) Q E s := by
  rcases g with ⟨kvs, k, e, ey, l, eH⟩ | ⟨kvs, k, b, e, ey, eb, l, eH⟩
  · subst ey eH
    obtain ⟨z, hd, vs, rel, dd⟩ := dk_of I.hok e
    have hz : vs.length ≤ sizeLine := by rw [← rel.length]; exact z
    have hl : (putK kvs k v).length ≤ sizeLine := by have := length_putK kvs k v; omega
    refine wpAny_setItem_pairs (hsz := hz) (kV_is ry) dd fun h' dd' hs => h _ ?_
    have he : ∃ q, h'.get? a = some q := let ⟨q, _, _, hq, _⟩ := dd'; ⟨q, hq⟩
    exact d_write I (by rw [e]; exact True.intro) hs he (dk_new hl hd (rel.put k rv) dd')
  · subst ey eH
    cases (show u = Value.ref b from ry)
    obtain ⟨z, hd, xs, rel, dd⟩ := dt_of I.hok e
    have hz : xs.length ≤ sizeLine := by rw [← Paired.length rel]; exact z
    have hl : (putK kvs k v).length ≤ sizeLine := by have := length_putK kvs k v; omega
    refine wpAny_setItem_heap (hsz := hz) (tupleKind_room_in1 hu) (key_of I.hok eb) dd fun h' dd' hs => h _ ?_
    obtain ⟨q, es, ep, hq, h2, h3, h4, _, h5⟩ := dd'
    refine d_write I (by rw [e]; exact True.intro) hs ⟨q, hq⟩ ⟨hl, hd, _, (rel.put k eb rv).keeps fun c ys ec => ?_, q, es, ep, hq, h2, h3, h4, h5⟩
    rw [upd_ne (ne_of ec e (fun z => nomatch z))]
    exact ec
end
section
variable {X : Cx} {pins : List (Addr × Obj)} {σ : St} {H : Hp} {s : Shared} {a : Addr} {kvs : List (Key × V)} {k : Key} {u : Value} {A : Around} {E : Value → Shared → Prop}
end
def tDNotIn (ty td : TE) : TE := fun σ H Q => ty σ H fun y H1 => td σ H1 fun x H2 => ∃ a o, x = .ref a ∧ DGet H2 a y o ∧ Q (.bl (!o.isSome)) H2
def sDPut (td ty tv : TE) : TS := fun D σ H => tv σ H fun v H1 => td σ H1 fun x H2 => ty σ H2 fun y H3 => ∃ a H4, x = .ref a ∧ DPut H3 a y v H4 ∧ D.nx σ H4
section
variable {X : Cx} {o i e value : Expr} {pos pos' tpos : Pos} {td ty tv : TE}
theorem pc_dnotin (hu : X.A.units + 1 < cLine) (hi : PE X i ty) (ho : PE X o td) : PC X .NotIn i o (tDNotIn ty td) := by
  intro pins s σ H Q I h
  refine thn (hi pins s σ H _ I h) fun iv s1 ⟨y, H1, I1, ry, q1⟩ => thn (ho pins s1 σ H1 _ I1 q1) fun u s2 ⟨x, H2, I2, rx, a, ov, ex, g, q2⟩ => ?_
  subst ex
  obtain rfl : u = Value.ref a := rx
  exact d_notIn hu I2 g ry fun s3 I3 => ⟨.bl (!ov.isSome), H2, I3, rfl, q2⟩
theorem ps_dput (hu : X.A.units + 1 < cLine) (ho : PE X o td) (hi : PE X i ty) (hv : PE X value tv) (hs : swapsWith value (some (.Subscript o i pos')) pos.line X.env = pure false) :
    PS X (.Assign [.Subscript o i pos'] value pos) (sDPut td ty tv) := by
  intro pins s σ H D I h
  refine wpAny_Assign_Subscript (thn (hv pins s σ H _ I h) fun r s1 ⟨v, H1, I1, rv, q1⟩ => thn (ho pins s1 σ H1 _ I1 q1) fun u s2 ⟨x, H2, I2, rx, q2⟩ => thn (hi pins s2 σ H2 _ I2 q2) fun iv s3 ⟨y, H3, I3, ry, a, H4, ex, g, q3⟩ => ?_) hs
  subst ex
  obtain rfl : u = Value.ref a := rx
  exact d_setItem hu I3 g ry rv fun s4 I4 => ⟨σ, H4, I4, q3⟩
end
theorem dk_empty {P : Program} {w : World} {H : Hp} (h : Heap) (hb : sysModules < h.objs.size) : ObjOk P w H (h.push { cls := .type "dict", data := .dict #[] }) h.objs.size (.dK []) :=
  ⟨Nat.zero_le _, beq_eq_false_iff_ne.mpr (Ne.symm (Nat.ne_of_lt hb)), [], .nil, Heap.DictOf.new h⟩
def tDNewK : TE := fun _ H Q => ∀ p, H p = none → Q (.ref p) (upd H p (.dK []))
section
variable {X : Cx} {pos : Pos}
theorem pe_dnewK : PE X (.Dict [] [] pos) tDNewK := fun pins s σ H Q I h =>
  wpAny_Dict_empty ⟨.ref s.heap.objs.size, _, I.laid (a := s.heap.objs.size) (o := .dK []) (t' := s.toks) (fun _ _ q => Heap.get?_push_of_some _ q) (Nat.le_refl _) (dk_empty s.heap I.big), rfl, h _ (I.hok.fresh (Nat.le_refl _))⟩
end
section
variable {X : Cx} {pins : List (Addr × Obj)} {σ : St} {H : Hp} {s : Shared} {a : Addr} {y d : V} {u r : Value} {o : Option V} {A : Around} {E : Value → Shared → Prop}
end
section
variable {X : Cx} {o e f : Expr} {apos cpos : Pos} {td ty tx : TE}
end
section
variable {X : Cx} {pins : List (Addr × Obj)} {σ : St} {H : Hp} {s : Shared} {a : Addr} {kvs : List (Key × V)} {A : Around} {E : Value → Shared → Prop}
end
section
variable {X : Cx} {pins : List (Addr × Obj)} {σ : St} {H : Hp} {s : Shared} {a : Addr} {y : V} {u : Value} {A : Around} {E : Value → Shared → Prop}
end
end L2
namespace L2
open PySem PySem.Spec PyProof.Rows
section
variable {prog : Program} {w : World} {A : Around} {E : Value → Shared → Prop}
end
section
variable {X : Cx}
end
end L2
namespace L2
open PySem PySem.Spec PyProof.Rows
section
variable {X : Cx} {pins : List (Addr × Obj)} {σ : St} {H : Hp} {s : Shared} {h' : Heap}
theorem Inv.turnedL {t' : Nat} {ch : List Addr} (I : Inv X pins σ H s) (k : ∀ b o, b ∉ ch → s.heap.get? b = some o → h'.get? b = some o) (hf : ∀ b ∈ ch, FpOk X pins H b) : Inv X pins σ H { s with heap := h', toks := t' } := by
  have nit : ∀ b u, H b = some u → b ∉ ch := fun b u e z => by
    have q := (hf b z).1
    rw [q] at e; cases e
  refine I.step (g' := s.gens) (d' := s.drawn) (ch := ch) (fun b hb => ⟨(hf b hb).2.2.2.1, (hf b hb).2.1, (hf b hb).2.2.2.2.1, (hf b hb).2.2.2.2.2⟩) (fun b o _ _ hc e _ => k b o hc e) (fun b o _ _ hc e _ => ⟨o.slots, k b o hc e⟩)
    (fun _ _ _ _ n => n) (fun b o hc e => ⟨o, k b o hc e⟩) (fun _ _ e => e) (fun _ _ _ e => e) (fun b ps e => ⟨#[], by rw [e]; simp⟩) (fun m hm => ?_) (fun b u e => ?_) I.bare
  · obtain ⟨o, es, ep, ho, r⟩ := hm
    exact ⟨o, es, ep, k _ o (fun z => (hf _ z).2.1 rfl) ho, r⟩
  · refine (I.hok b u e).stay (fun c v hc q => k c v ?_ q) (fun _ q => q) fun _ _ q => q
    rcases hc with z | z
    · rw [z]; exact nit b u e
    · exact nit c _ z
theorem Inv.turnedNew {t' : Nat} {ch : List Addr} {T : Addr} {ob : HO} (I : Inv X pins σ H s) (k : ∀ b o, b ∉ ch → s.heap.get? b = some o → h'.get? b = some o) (hf : ∀ b ∈ ch, FpOk X pins H b) (hT : s.heap.objs.size ≤ T)
    (new : ObjOk X.prog X.w (upd H T ob) h' T ob) : Inv X pins σ (upd H T ob) { s with heap := h', toks := t' } := by
  have hn : H T = none := I.hok.fresh hT
  have nit : ∀ b u, H b = some u → b ∉ ch := fun b u e z => by
    have q := (hf b z).1
    rw [q] at e; cases e
  refine I.step (g' := s.gens) (d' := s.drawn) (ch := ch) (fun b hb => ⟨(hf b hb).2.2.2.1, (hf b hb).2.1, (hf b hb).2.2.2.2.1, (hf b hb).2.2.2.2.2⟩) (fun b o _ _ hc e _ => k b o hc e) (fun b o _ _ hc e _ => ⟨o.slots, k b o hc e⟩)
    (fun b o _ e n => ?_) (fun b o hc e => ⟨o, k b o hc e⟩) (fun b xs e => ?_) (fun b o u e => ?_) (fun b ps e => ⟨#[], ?_⟩) (fun m hm => ?_) (fun b u e => ?_) I.bare
  · rw [upd_ne (Nat.ne_of_lt (Nat.lt_of_lt_of_le (Heap.lt_size e) hT))]; exact n
  · rw [upd_ne (ne_of_none e hn)]; exact e
  · rw [upd_ne (ne_of_none e hn)]; exact e
  · rw [upd_ne (ne_of_none e hn), e]; simp
  · obtain ⟨o, es, ep, ho, r⟩ := hm
    exact ⟨o, es, ep, k _ o (fun z => (hf _ z).2.1 rfl) ho, r⟩
  · by_cases hb : b = T
    · subst hb
      rw [upd_same] at e
      cases e
      exact new
    · rw [upd_ne hb] at e
      refine (I.hok b u e).stay (fun c v hc q => k c v ?_ q) (fun c q => by rw [upd_ne (ne_of_none q hn)]; exact q) fun c xs q => by rw [upd_ne (ne_of_none q hn)]; exact q
      rcases hc with z | z
      · rw [z]; exact nit b u e
      · exact nit c _ z
end
section
variable {X : Cx}
theorem pi_one {tg : Expr} {pins : List (Addr × Obj)} {σ : St} {H : Hp} {s : Shared} {R : It → Hp → Prop} {J : It} {tn : Nat → Heap → Prop} {tk : Nat} (I : Inv X pins σ H s) (o : Obj)
    (T : Turn X.prog X.w X.K tg J [s.heap.objs.size] s.heap.objs.size tn) (st : tn 0 (s.heap.push o)) (q : R J H) : PIE X pins σ tg R (.ref s.heap.objs.size) { s with heap := s.heap.push o, toks := tk } := by
  refine ⟨s.heap.objs.size, [s.heap.objs.size], tn, J, H, rfl, I.kept fun b ob e => Heap.get?_push_of_some _ e, T, st, fun b hb => ?_, q⟩
  have e : b = s.heap.objs.size := by simpa using hb
  subst e
  exact I.fpOk (Nat.le_refl _) (I.hok.fresh (Nat.le_refl _))
end
def Itc (lo c : Int) (n : Nat) : It := ⟨fun i _ => i < n, fun i H x H' => H' = H ∧ x = .int (lo + (i : Nat) * c), fun i _ => n ≤ i⟩
theorem turn_rangeC {P : Program} {w : World} {K : PySem.W.Frag} {tg : Expr} (it : Addr) (lo c : Int) (n : Nat) : Turn P w K tg (Itc lo c n) [it] it (fun i h => IsRangeIter h it (lo + (i : Nat) * c) ((n : Int) - (i : Nat)) c) where
  mem := by simp
  obj := fun i h st b hb => by
    have e : b = it := by simpa using hb
    subst e
    exact ⟨_, st, fun v z => nomatch z⟩
  keep := fun i h h' st k => k it (by simp) _ st
  item := by
    intro X hP hw hK hc i pins s σ H E I hf st hg
    subst hP hw hK
    obtain ⟨f0, f1, f2, f3, f4, f5⟩ := hf it (by simp)
    have W := Walks.range (prog := X.prog) (w := X.w) (I.ok.hd hc) it lo c n
    refine W.item i s _ _ hg st fun v h' tk hv st' kk => ?_
    obtain ⟨t, rfl⟩ := hv
    have I1 : Inv X pins σ H { s with heap := h', toks := tk } := I.turned (fun b o hb e => kk b o (by simpa using hb) e) f0 f1 f3 f4 f5
    exact ⟨_, rfl, go_of (s := { s with heap := h', toks := tk }) (n := "range_iterator") st' rfl rfl (by decide) ⟨.int (lo + (i : Nat) * c), H, I1, ⟨t, rfl⟩, ⟨rfl, rfl⟩, st', fun b hb => (hf b hb).1⟩⟩
  done := by
    intro X hP hw hK hc i pins s σ H E I hf st hg
    subst hP hw hK
    obtain ⟨f0, f1, f2, f3, f4, f5⟩ := hf it (by simp)
    exact wpAny_pyNext_range_end (I.ok.hd hc) st (by have : n ≤ i := hg; omega) fun h' eb => ⟨rfl, I.turned (t' := s.toks) (fun b o hb e => eb b o hb e) f0 f1 f3 f4 f5⟩
  self := fun A i s Q E st h => wpAny_pyIter_rangeiter st h
def RgC (i j c : Int) (n : Nat) : Prop := c ≠ 0 ∧ c.natAbs < 1073741824 ∧ Builtin.Range.small i j c = true ∧ Builtin.Range.rangeSize i j c = n
theorem RgC.neg {i j : Int} (ha : -(2 ^ 62) ≤ i) (ha' : i < 2 ^ 62) (hb : -(2 ^ 62) ≤ j) (hb' : j < 2 ^ 62) : RgC i j (-1) (i - j).toNat :=
  ⟨by decide, by decide, PySem.W.small_down ha ha' hb hb', PySem.W.rangeSize_downNat i j⟩
def iRng3 (ta : TA) : TI := fun σ H R => ta σ H fun vs H1 => ∃ (i j c : Int) (n : Nat), vs = [.int i, .int j, .int c] ∧ RgC i j c n ∧ R (Itc i c n) H1
section
variable {X : Cx} {tg : Expr}
theorem pi_range3 {a b c : Expr} {ta : TA} {p pos : Pos} (hg : Gl X "range") (hm : X.mg "range" = none) (ha : PA X [a, b, c] ta)
    (hs : starEach [a, b, c] X.env = (false, eval a X.env) :: starEach [b, c] X.env := by rfl) (hpl : (backTo pos (starEach [b, c] X.env)).any (·.1) = false := by rfl) :
    PI X tg (.Call (.Name "range" p) [a, b, c] [] pos) (iRng3 ta) := by
  intro pins s σ H R I h
  refine Call_ (ld_blt I hg hm boot_range (PyProof.Rows.callWith_type1 (thn (ha pos pins s σ H _ I h) fun us s1 ⟨vs, H1, I1, r1, q1⟩ => ?_) hs hpl))
  obtain ⟨i, j, k, n, e, ⟨c0, c1, c2, c3⟩, q⟩ := q1
  subst e
  cases r1 with
  | cons r rr =>
    cases rr with
    | cons r' rr =>
      cases rr with
      | cons r'' rr =>
        cases rr
        obtain ⟨t, rfl⟩ := r
        obtain ⟨t', rfl⟩ := r'
        obtain ⟨t'', rfl⟩ := r''
        refine call_range_3 c0 ?_ (.inl (PyProof.noPylong_small c1))
        refine wpAny_pyIter_range (IsRange.new ..) c2 ?_
        have I2 : Inv X pins σ H1 { s1 with heap := s1.heap.push { cls := .type "range", data := .fields #[.int i t, .int j t', .int k t''] } } := I1.kept (t' := s1.toks) fun b o e => Heap.get?_push_of_some _ e
        refine pi_one (tk := s1.toks) I2 _ (turn_rangeC _ i k n) ?_ q
        have e1 : i + ((0 : Nat) : Int) * k = i := by simp
        have e2 : (n : Int) - ((0 : Nat) : Int) = Builtin.Range.rangeSize i j k := by rw [c3]; simp
        show IsRangeIter _ _ (i + ((0 : Nat) : Int) * k) ((n : Int) - ((0 : Nat) : Int)) k
        rw [e1, e2]
        exact Heap.get?_push_size _ rfl
end
theorem for_rangeC {lo c : Int} {n : Nat} {g : TG} {tb : TS} {D : Ends} {σ : St} {H : Hp} (Pv : Nat → St → Hp → Prop) (h0 : Pv 0 σ H)
    (hs : ∀ i σ H, i < n → Pv i σ H → g (.int (lo + (i : Nat) * c)) σ H fun σ2 H2 => tb { D with nx := Pv (i + 1), ct := Pv (i + 1), bk := D.nx } σ2 H2) (hd : ∀ σ H, Pv n σ H → D.nx σ H) :
    ∃ W : Nat → Nat → St → Hp → Prop, (∃ m, W 0 m σ H) ∧ ∀ i m σ H, W i m σ H →
      ((Itc lo c n).stop i H ∧ D.nx σ H) ∨ ((Itc lo c n).go i H ∧ ∃ N : St → Hp → Prop, (∀ σ' H', N σ' H' → ∃ m', m' < m ∧ W (i + 1) m' σ' H') ∧ ∀ x H', (Itc lo c n).yld i H x H' → g x σ H' fun σ2 H2 => tb { D with nx := N, ct := N, bk := D.nx } σ2 H2) := by
  refine ⟨fun i m σ H => m = n - i ∧ i ≤ n ∧ Pv i σ H, ⟨n, by simp, Nat.zero_le _, h0⟩, ?_⟩
  rintro i m σ H ⟨rfl, hi, p⟩
  by_cases hlt : i < n
  · refine .inr ⟨hlt, Pv (i + 1), fun σ' H' p' => ⟨n - (i + 1), by omega, rfl, hlt, p'⟩, fun x H' y => ?_⟩
    obtain ⟨e, y⟩ := y
    subst e y
    exact hs i σ _ hlt p
  · have e : i = n := by omega
    subst e
    exact .inl ⟨Nat.le_refl _, hd σ H p⟩
section
variable {X : Cx} {tg : Expr}
end
def Its (x : Str) : It := ⟨fun i _ => i < x.cps.size, fun i H v H' => H' = H ∧ ∃ c, x.cps[i]? = some c ∧ v = .str ⟨#[c]⟩, fun i _ => x.cps.size ≤ i⟩
theorem turn_str {P : Program} {w : World} {K : PySem.W.Frag} {tg : Expr} (it : Addr) (x : Str) (t : Tok) (ty : String) (hty : ty = "str_ascii_iterator" ∨ ty = "str_iterator") :
    Turn P w K tg (Its x) [it] it (fun i h => h.IsStrIter it ty x t i) where
  mem := by simp
  obj := fun i h st b hb => by
    have e : b = it := by simpa using hb
    subst e
    obtain ⟨o, e, c, d⟩ := st
    exact ⟨o, e, fun v z => by rw [d] at z; cases z⟩
  keep := fun i h h' st k => let ⟨o, ho, r⟩ := st; ⟨o, k it (by simp) o ho, r⟩
  item := by
    intro X hP hw hK hc i pins s σ H E I hf st hg
    subst hP hw hK
    obtain ⟨f0, f1, f2, f3, f4, f5⟩ := hf it (by simp)
    have W : Walks X.prog X.w X.A it [it] [it] x.cps.size (SignAt x) (fun i h => h.IsStrIter it ty x t i) := by
      rcases hty with e | e
      · rw [e]; exact Walks.strAscii (I.ok.hd hc) it x t
      · rw [e]; exact Walks.strWide (I.ok.hd hc) it x t
    have hno : ["enumerate", "zip", "dict_itemiterator", "dict_reverseitemiterator", "odict_iterator", "itertools.zip_longest", "itertools.pairwise"].contains ty = false := by
      rcases hty with e | e
      · rw [e]; decide
      · rw [e]; decide
    refine W.item i s _ _ hg st fun v h' tk hv st' kk => ?_
    obtain ⟨c, u, hcx, rfl⟩ := hv
    have I1 : Inv X pins σ H { s with heap := h', toks := tk } := I.turned (fun b o hb e => kk b o (by simpa using hb) e) f0 f1 f3 f4 f5
    obtain ⟨oi, e, cc, dd⟩ := id st'
    exact ⟨_, rfl, go_of (s := { s with heap := h', toks := tk }) e cc dd hno ⟨.str ⟨#[c]⟩, H, I1, ⟨u, rfl⟩, ⟨rfl, c, hcx, rfl⟩, st', fun b hb => (hf b hb).1⟩⟩
  done := by
    intro X hP hw hK hc i pins s σ H E I hf st hg
    subst hP hw hK
    obtain ⟨f0, f1, f2, f3, f4, f5⟩ := hf it (by simp)
    have hx : x.cps[i]? = none := Array.getElem?_eq_none hg
    rcases hty with e | e
    · rw [e] at st
      exact wpAny_pyNext_ascii_end (I.ok.hd hc) st hx fun h' eb => ⟨rfl, I.turned (t' := s.toks) (fun b o hb e => eb b o hb e) f0 f1 f3 f4 f5⟩
    · rw [e] at st
      exact wpAny_pyNext_wide_end (I.ok.hd hc) st hx fun h' eb => ⟨rfl, I.turned (t' := s.toks) (fun b o hb e => eb b o hb e) f0 f1 f3 f4 f5⟩
  self := fun A i s Q E st h => by
    rcases hty with e | e
    · rw [e] at st; exact wpAny_pyIter_striter_ascii st h
    · rw [e] at st; exact wpAny_pyIter_striter_wide st h
def iStr (te : TE) : TI := fun σ H R => te σ H fun v H1 => ∃ x, v = .str x ∧ R (Its x) H1
theorem pi_str {X : Cx} {tg e : Expr} {te : TE} (he : PE X e te) : PI X tg e (iStr te) := by
  intro pins s σ H R I h
  refine thn (he pins s σ H _ I h) fun v s1 ⟨y, H1, I1, r1, x, ex, q⟩ => ?_
  subst ex
  obtain ⟨t, rfl⟩ := r1
  cases ha : x.cps.all (· < 128)
  · exact wpAny_pyIter_wide ha (pi_one (tk := s1.toks) I1 _ (turn_str _ x t "str_iterator" (.inr rfl)) ⟨_, Heap.get?_push_size _ rfl, rfl, rfl⟩ q)
  · exact wpAny_pyIter_ascii ha (pi_one (tk := s1.toks) I1 _ (turn_str _ x t "str_ascii_iterator" (.inl rfl)) ⟨_, Heap.get?_push_size _ rfl, rfl, rfl⟩ q)
section
variable {prog : Program} {w : World} {A : Around} {E : Value → Shared → Prop} {s : Shared}
end
section
variable {X : Cx} {pins : List (Addr × Obj)} {σ : St} {H : Hp} {s : Shared} {d : Addr} {o : Obj}
end
section
variable {P : Program} {w : World} {K : PySem.W.Frag} {tg : Expr} {d : Addr} {o : Obj} {es : Array DictEntry} {ep : Nat}
end
section
variable {X : Cx} {tg e : Expr} {td : TE} {apos cpos : Pos}
end
def Ite (K : PySem.W.Frag) (a : Addr) : It :=
  ⟨fun i H => ∃ (xs : List V) (x : V), SqL K H a xs ∧ xs[i]? = some x, fun i H v H' => ∃ T x, v = .ref T ∧ H T = none ∧ H' = upd H T (.tup [.int (i : Nat), x]) ∧ ∀ xs, SqL K H a xs → xs[i]? = some x, fun i H => ∃ xs : List V, SqL K H a xs ∧ xs.length ≤ i⟩
theorem turn_enum {P : Program} {w : World} {K : PySem.W.Frag} {elts : List Expr} {kk : Nat} {tpos : Pos} (a e it : Addr) :
    Turn P w K (.Tuple elts kk tpos) (Ite K a) [e, it] e (fun i h => (∃ old, IsEnum h e it ((i : Nat) : Int) old) ∧ h.IsListIter it a i ∧ e ≠ it) where
  mem := by simp
  obj := fun i h st b hb => by
    obtain ⟨⟨old, he⟩, ⟨o, ho, hc, hd⟩, _⟩ := st
    have e' : b = e ∨ b = it := by simpa using hb
    rcases e' with z | z
    · rw [z]; exact ⟨_, he, fun v q => nomatch q⟩
    · rw [z]; exact ⟨o, ho, fun v q => by rw [hd] at q; cases q⟩
  keep := fun i h h' st k => let ⟨⟨old, he⟩, hi, hne⟩ := st; ⟨⟨old, k e (by simp) _ he⟩, hi.at fun o q => k it (by simp) o q, hne⟩
  item := by
    intro X hP hw hK hc i pins s σ H E I hf st hg
    subst hP hw hK
    obtain ⟨⟨old, he⟩, hit, hne⟩ := st
    obtain ⟨xs, x, hq, hx⟩ := hg
    obtain ⟨its, rv, p, hz⟩ := I.list hq
    obtain ⟨u, hu, ru⟩ := rv.get hx
    have hel : e < s.heap.objs.size := Heap.lt_size he
    have hil : it < s.heap.objs.size := by obtain ⟨_, q, _⟩ := hit; exact Heap.lt_size q
    refine wpAny_pyNext_enum_item he hit p.isList (x := u) (by simpa using hu) hne fun h' ho hit' hT hsz hk => ?_
    refine ⟨_, rfl, wpAny_letOwnedTupleGo_enum (s := { s with heap := h', toks := s.toks + 1 }) ho fun h'' he' sb => ?_⟩
    have hT2 : h''.get? s.heap.objs.size = some { cls := .type "tuple", data := .seq #[.int i s.toks, u] } := (sb.2 _ (Nat.ne_of_gt hel)).trans hT
    have new : ObjOk X.prog X.w (upd H s.heap.objs.size (.tup [.int (i : Nat), x])) h'' s.heap.objs.size (.tup [.int (i : Nat), x]) :=
      ⟨by show 2 ≤ sizeLine; decide, [.int i s.toks, u], .cons ⟨_, rfl⟩ (.cons ru .nil), ⟨_, hT2, rfl, _, rfl⟩⟩
    have I1 : Inv X pins σ (upd H s.heap.objs.size (.tup [.int (i : Nat), x])) { s with heap := h'', toks := s.toks + 1 } :=
      I.turnedNew (ch := [e, it]) (fun b ob hb q => (sb.2 b (fun z => hb (by simp [z]))).trans (hk b ob (fun z => hb (by simp [z])) (fun z => hb (by simp [z])) q)) hf (Nat.le_refl _) new
    refine ⟨.ref s.heap.objs.size, _, I1, rfl, ⟨_, x, rfl, I.hok.fresh (Nat.le_refl _), rfl, fun ys hy => by rw [I.list_inj hy hq]; exact hx⟩, ⟨⟨u, ?_⟩, hit'.at fun o q => (sb.2 it (Ne.symm hne)).trans q, hne⟩, fun b hb => ?_⟩
    · have e1 : ((i + 1 : Nat) : Int) = (i : Int) + 1 := by omega
      rw [e1]; exact he'
    · have hb' : b < s.heap.objs.size := by
        have e' : b = e ∨ b = it := by simpa using hb
        rcases e' with z | z
        · rw [z]; exact hel
        · rw [z]; exact hil
      rw [upd_ne (Nat.ne_of_lt hb')]
      exact (hf b hb).1
  done := by
    intro X hP hw hK hc i pins s σ H E I hf st hg
    subst hP hw hK
    obtain ⟨⟨old, he⟩, hit, hne⟩ := st
    obtain ⟨xs, hq, hx⟩ := hg
    obtain ⟨its, rv, p, hz⟩ := I.list hq
    obtain ⟨f0, f1, f2, f3, f4, f5⟩ := hf it (by simp)
    have hl := rv.length
    exact wpAny_pyNext_enum_end (I.ok.hd hc) he hit p.isList (by simp; omega) fun h' eb => ⟨rfl, I.turned (t' := s.toks) (fun b o hb q => eb b o hb q) f0 f1 f3 f4 f5⟩
  self := fun A i s Q E st h => let ⟨⟨_, he⟩, _⟩ := st; wpAny_pyIter_enum he h
def iEnum (K : PySem.W.Frag) (ta : TA) : TI := fun σ H R => ta σ H fun vs H1 => ∃ a xs, vs = [.ref a] ∧ SqL K H1 a xs ∧ R (Ite K a) H1
theorem pi_enum {X : Cx} {e : Expr} {ta : TA} {p pos tpos : Pos} {elts : List Expr} {kk : Nat} (hg : Gl X "enumerate") (hm : X.mg "enumerate" = none) (ha : PA X [e] ta) (hs : starEach [e] X.env = [(false, eval e X.env)] := by rfl) :
    PI X (.Tuple elts kk tpos) (.Call (.Name "enumerate" p) [e] [] pos) (iEnum X.K ta) := by
  intro pins s σ H R I h
  refine Call_ (ld_blt I hg hm boot_enumerate (PyProof.Rows.callWith_type1 (thn (ha pos pins s σ H _ I h) fun us s1 ⟨vs, H1, I1, r1, q1⟩ => ?_) hs rfl))
  obtain ⟨a, xs, ex, hq, q⟩ := q1
  subst ex
  cases r1 with
  | cons r rr =>
    cases rr
    cases r
    obtain ⟨its, rv, p', hz⟩ := I1.list hq
    refine call_enumerate_list p'.isList fun h' he hit hsz hk => wpAny_pyIter_enum he ?_
    have I2 : Inv X pins σ H1 { s1 with heap := h' } := I1.kept (t' := s1.toks) hk
    refine ⟨s1.heap.objs.size + 1, [s1.heap.objs.size + 1, s1.heap.objs.size], _, _, H1, rfl, I2, turn_enum a (s1.heap.objs.size + 1) s1.heap.objs.size, ⟨⟨.none, he⟩, hit, Nat.succ_ne_self _⟩, fun b hb => ?_, q⟩
    have e' : b = s1.heap.objs.size + 1 ∨ b = s1.heap.objs.size := by simpa using hb
    have hle : s1.heap.objs.size ≤ b := by
      rcases e' with z | z
      · rw [z]; exact Nat.le_add_right _ _
      · rw [z]; exact Nat.le_refl _
    exact I1.fpOk hle (I1.hok.fresh hle)
theorem boot_zip5 : bootBuiltins "zip" = some (.type "zip") := by decide +kernel
def Itz (K : PySem.W.Frag) (a b : Addr) : It :=
  ⟨fun i H => ∃ (xs ys : List V) (x y : V), SqL K H a xs ∧ SqL K H b ys ∧ xs[i]? = some x ∧ ys[i]? = some y,
    fun i H v H' => ∃ T x y, v = .ref T ∧ H T = none ∧ H' = upd H T (.tup [x, y]) ∧ (∀ xs, SqL K H a xs → xs[i]? = some x) ∧ ∀ ys, SqL K H b ys → ys[i]? = some y,
    fun i H => ∃ xs ys : List V, SqL K H a xs ∧ SqL K H b ys ∧ (xs.length ≤ i ∨ ys.length ≤ i)⟩
theorem turn_zip {P : Program} {w : World} {K : PySem.W.Frag} {elts : List Expr} {kk : Nat} {tpos : Pos} {a b z TI TO i1 i2 : Addr} (D : ZipApart z TI TO i1 i2 a b) :
    Turn P w K (.Tuple elts kk tpos) (Itz K a b) [z, TI, TO, i1, i2] z (fun i h => IsZip h z TI TO .none ∧ IsPair h TI (.ref i1) (.ref i2) ∧ (∃ x y, IsPair h TO x y) ∧ h.IsListIter i1 a i ∧ h.IsListIter i2 b i) where
  mem := by simp
  obj := fun i h st c hc => by
    obtain ⟨hz, hTI, ⟨x, y, hTO⟩, ⟨o1, e1, _, d1⟩, ⟨o2, e2, _, d2⟩⟩ := st
    have e' : c = z ∨ c = TI ∨ c = TO ∨ c = i1 ∨ c = i2 := by simpa using hc
    rcases e' with q | q | q | q | q
    · rw [q]; exact ⟨_, hz, fun v q => nomatch q⟩
    · rw [q]; exact ⟨_, hTI, fun v q => nomatch q⟩
    · rw [q]; exact ⟨_, hTO, fun v q => nomatch q⟩
    · rw [q]; exact ⟨o1, e1, fun v q => by rw [d1] at q; cases q⟩
    · rw [q]; exact ⟨o2, e2, fun v q => by rw [d2] at q; cases q⟩
  keep := fun i h h' st k => by
    obtain ⟨hz, hTI, ⟨x, y, hTO⟩, h1, h2⟩ := st
    exact ⟨k z (by simp) _ hz, k TI (by simp) _ hTI, ⟨x, y, k TO (by simp) _ hTO⟩, h1.at fun o q => k i1 (by simp) o q, h2.at fun o q => k i2 (by simp) o q⟩
  item := by
    intro X hP hw hK hc i pins s σ H E I hf st hg
    subst hP hw hK
    obtain ⟨hz, hTI, ⟨x0, y0, hTO⟩, h1, h2⟩ := st
    obtain ⟨xs, ys, x, y, hqx, hqy, hx, hy⟩ := hg
    obtain ⟨its, rv, p, _⟩ := I.list hqx
    obtain ⟨its2, rv2, p2, _⟩ := I.list hqy
    obtain ⟨u, hu, ru⟩ := rv.get hx
    obtain ⟨u2, hu2, ru2⟩ := rv2.get hy
    have hzl : z < s.heap.objs.size := Heap.lt_size hz
    refine wpAny_pyNext_zip_item D hz hTI hTO h1 h2 p.isList p2.isList (x := u) (y := u2) (by simpa using hu) (by simpa using hu2) fun h' z' TO' h1' h2' hT hsz hk => ?_
    refine ⟨_, rfl, wpAny_letOwnedTupleGo_zip (s := { s with heap := h' }) z' fun h'' z'' sb => ?_⟩
    have hT2 : h''.get? s.heap.objs.size = some { cls := .type "tuple", data := .seq #[u, u2] } := (sb.2 _ (Nat.ne_of_gt hzl)).trans hT
    have new : ObjOk X.prog X.w (upd H s.heap.objs.size (.tup [x, y])) h'' s.heap.objs.size (.tup [x, y]) :=
      ⟨by show 2 ≤ sizeLine; decide, [u, u2], .cons ru (.cons ru2 .nil), ⟨_, hT2, rfl, _, rfl⟩⟩
    have I1 : Inv X pins σ (upd H s.heap.objs.size (.tup [x, y])) { s with heap := h'' } :=
      I.turnedNew (t' := s.toks) (ch := [z, TI, TO, i1, i2]) (fun c o hb q => (sb.2 c (fun q' => hb (by simp [q']))).trans (hk c o (fun q' => hb (by simp [q'])) (fun q' => hb (by simp [q'])) (fun q' => hb (by simp [q'])) (fun q' => hb (by simp [q'])) q)) hf (Nat.le_refl _) new
    refine ⟨.ref s.heap.objs.size, _, I1, rfl, ⟨_, x, y, rfl, I.hok.fresh (Nat.le_refl _), rfl, fun l hl => by rw [I.list_inj hl hqx]; exact hx, fun l hl => by rw [I.list_inj hl hqy]; exact hy⟩, ⟨z'', ?_, ⟨u, u2, ?_⟩, ?_, ?_⟩, fun c hcm => ?_⟩
    · exact (sb.2 _ D.TIz).trans (hk _ _ D.TIz D.TITO D.TIi1 D.TIi2 hTI)
    · exact (sb.2 _ D.TOz).trans TO'
    · exact h1'.at fun o q => (sb.2 _ D.i1z).trans q
    · exact h2'.at fun o q => (sb.2 _ D.i2z).trans q
    · have hlt : c < s.heap.objs.size := by
        have e' : c = z ∨ c = TI ∨ c = TO ∨ c = i1 ∨ c = i2 := by simpa using hcm
        rcases e' with q | q | q | q | q
        · rw [q]; exact hzl
        · rw [q]; exact Heap.lt_size hTI
        · rw [q]; exact Heap.lt_size hTO
        · rw [q]; obtain ⟨_, e1, _⟩ := h1; exact Heap.lt_size e1
        · rw [q]; obtain ⟨_, e2, _⟩ := h2; exact Heap.lt_size e2
      rw [upd_ne (Nat.ne_of_lt hlt)]
      exact (hf c hcm).1
  done := by
    intro X hP hw hK hc i pins s σ H E I hf st hg
    subst hP hw hK
    obtain ⟨hz, hTI, ⟨x0, y0, hTO⟩, h1, h2⟩ := st
    obtain ⟨xs, ys, hqx, hqy, hend⟩ := hg
    obtain ⟨its, rv, p, _⟩ := I.list hqx
    obtain ⟨its2, rv2, p2, _⟩ := I.list hqy
    have l1 := rv.length
    have l2 := rv2.length
    have he : its.toArray[i]? = none ∨ its2.toArray[i]? = none := by
      rcases hend with q | q
      · exact .inl (by simp; omega)
      · exact .inr (by simp; omega)
    exact wpAny_pyNext_zip_end (I.ok.hd hc) D hz hTI hTO h1 h2 p.isList p2.isList he fun h' hk => ⟨rfl, I.turnedL (t' := s.toks) (ch := [z, TI, TO, i1, i2]) (fun c o hb q =>
      hk c o (fun q' => hb (by simp [q'])) (fun q' => hb (by simp [q'])) (fun q' => hb (by simp [q'])) (fun q' => hb (by simp [q'])) q) hf⟩
  self := fun A i s Q E st h => wpAny_pyIter_zip st.1 h
def iZip (K : PySem.W.Frag) (ta : TA) : TI := fun σ H R => ta σ H fun vs H1 => ∃ a b xs ys, vs = [.ref a, .ref b] ∧ SqL K H1 a xs ∧ SqL K H1 b ys ∧ R (Itz K a b) H1
theorem pi_zip {X : Cx} {e e2 : Expr} {ta : TA} {p pos tpos : Pos} {elts : List Expr} {kk : Nat} (hg : Gl X "zip") (hm : X.mg "zip" = none) (ha : PA X [e, e2] ta)
    (hs : starEach [e, e2] X.env = (false, eval e X.env) :: starEach [e2] X.env := by rfl) (hpl : (backTo pos (starEach [e2] X.env)).any (·.1) = false := by rfl) :
    PI X (.Tuple elts kk tpos) (.Call (.Name "zip" p) [e, e2] [] pos) (iZip X.K ta) := by
  intro pins s σ H R I h
  refine Call_ (ld_blt I hg hm boot_zip5 (PyProof.Rows.callWith_type1 (thn (ha pos pins s σ H _ I h) fun us s1 ⟨vs, H1, I1, r1, q1⟩ => ?_) hs hpl))
  obtain ⟨a, b, xs, ys, ex, hqx, hqy, q⟩ := q1
  subst ex
  cases r1 with
  | cons r rr =>
    cases rr with
    | cons r' rr =>
      cases rr
      cases r
      cases r'
      obtain ⟨its, rv, p1, _⟩ := I1.list hqx
      obtain ⟨its2, rv2, p2, _⟩ := I1.list hqy
      have la : a < s1.heap.objs.size := p1.lt
      have lb : b < s1.heap.objs.size := p2.lt
      refine call_zip_2 p1.isList p2.isList fun h' hz hTI hTO h1 h2 hsz hk => wpAny_pyIter_zip hz ?_
      have I2 : Inv X pins σ H1 { s1 with heap := h' } := I1.kept (t' := s1.toks) hk
      refine ⟨s1.heap.objs.size + 4, [s1.heap.objs.size + 4, s1.heap.objs.size + 2, s1.heap.objs.size + 3, s1.heap.objs.size, s1.heap.objs.size + 1], _, _, H1, rfl, I2, turn_zip (PySem.W.ktu_apart s1.heap.objs.size a b la lb), ⟨hz, hTI, ⟨_, _, hTO⟩, h1, h2⟩, fun c hcm => ?_, q⟩
      have e' : c = s1.heap.objs.size + 4 ∨ c = s1.heap.objs.size + 2 ∨ c = s1.heap.objs.size + 3 ∨ c = s1.heap.objs.size ∨ c = s1.heap.objs.size + 1 := by simpa using hcm
      have hle : s1.heap.objs.size ≤ c := by
        rcases e' with z | z | z | z | z
        · rw [z]; exact Nat.le_add_right _ _
        · rw [z]; exact Nat.le_add_right _ _
        · rw [z]; exact Nat.le_add_right _ _
        · rw [z]; exact Nat.le_refl _
        · rw [z]; exact Nat.le_add_right _ _
      exact I1.fpOk hle (I1.hok.fresh hle)
end L2
section
namespace Bits
open PySem PyProof.Rows
theorem bitAnd_mask {x : Int} (k : Nat) (hx : 0 ≤ x) : Builtin.bitAnd x (2 ^ k - 1) = x % 2 ^ k := by
  obtain ⟨n, rfl⟩ := Int.eq_ofNat_of_zero_le hx
  have hp : 0 < 2 ^ k := Nat.two_pow_pos k
  rw [two_pow_cast]
  have e : ((2 ^ k : Nat) : Int) - 1 = ((2 ^ k - 1 : Nat) : Int) := by
    generalize (2 : Nat) ^ k = m at hp
    omega
  rw [e, bitAnd_pp (by omega) (by omega), Int.toNat_natCast, Int.toNat_natCast, Nat.and_two_pow_sub_one_eq_mod]
  first
    | rfl
    | exact Int.natCast_emod _ _
    | simp
theorem nat_xor_add_and (m : Nat) : ∀ n : Nat, (m ^^^ n) + 2 * (m &&& n) = m + n := by
  induction m using Nat.strongRecOn with
  | _ m ih =>
    intro n
    by_cases h0 : m = 0
    · subst h0
      simp
    · have ih' := ih (m / 2) (by omega) (n / 2)
      rw [← Nat.xor_div_two, ← Nat.and_div_two] at ih'
      have o1 := @Nat.xor_mod_two_eq_one m n
      have a1 := @Nat.and_mod_two_eq_one m n
      omega
theorem bitXor_pp {x y : Int} (hx : 0 ≤ x) (hy : 0 ≤ y) : Builtin.bitXor x y = ((x.toNat ^^^ y.toNat : Nat) : Int) := by
  have e := nat_xor_add_and x.toNat y.toNat
  rw [bitXor_and, bitAnd_pp hx hy]
  omega
theorem bitOr_pp {x y : Int} (hx : 0 ≤ x) (hy : 0 ≤ y) : Builtin.bitOr x y = ((x.toNat ||| y.toNat : Nat) : Int) := by
  have e := nat_or_add_and x.toNat y.toNat
  rw [bitOr_and, bitAnd_pp hx hy]
  omega
end Bits
end
section
namespace TL
open PySem PySem.Builtin PySem.Builtin.Str PySem.StrLaws
end TL
end
namespace L2
open PySem PySem.Spec PyProof.Rows
section
variable {X : Cx} {pins : List (Addr × Obj)} {σ : St} {H : Hp} {s : Shared} {Q : VK}
end
section
variable {X : Cx}
end
section
variable {X : Cx} {o e : Expr} {to te : TE}
end
end L2
namespace L2
open PySem PySem.Spec PyProof.Rows
section
variable {X : Cx}
end
end L2
namespace Att
open PySem PySem.W PySem.Calls PyProof.Rows
theorem ints_of_wellAll {P : Params} {h : Heap} : ∀ (ns : List Int) (vs : List Value), WellAll P h vs (ns.map WData.int) → IntsAre vs ns := by
  intro ns
  induction ns with
  | nil =>
    intro vs w
    rw [List.map_nil] at w
    cases w
    exact .nil
  | cons n ns ih =>
    intro vs w
    rw [List.map_cons] at w
    cases w with
    | cons a b =>
      cases a
      exact .cons _ _ (ih _ b)
section
variable {prog : Program} {w : World} {A : Around} {E : Value → Shared → Prop} {s : Shared} {K : Frag}
end
end Att
namespace L2
open PySem PySem.Spec PyProof.Rows
theorem vals_ints : ∀ {vs : List Value} {ns : List Int}, IntsAre vs ns → Vals (ns.map V.int) vs
  | _, _, .nil => .nil
  | _, _, .cons n t h => .cons ⟨t, rfl⟩ (vals_ints h)
def Only (H : Hp) : Prop := ∀ b, H b = none ∨ ∃ o xs, H b = some (.frz o (.lst xs))
end L2
namespace L2
open PySem PySem.Spec PyProof.Rows
end L2
namespace L2
open PySem PySem.Spec PyProof.Rows
def inClass (s : Stmt) (j : Nat) : Stmt := match s with
  | .ClassDef _ _ _ body _ _ _ _ _ _ _ => body.getD j (.Pass ⟨0, 0, 0, 0⟩)
  | _ => .Pass ⟨0, 0, 0, 0⟩
def defArgs (s : Stmt) : Arguments := match s with
  | .FunctionDef _ a _ _ _ _ _ _ _ _ => a
  | _ => { posonlyargs := [], args := [], vararg := none, kwonlyargs := [], kw_defaults := [], kwarg := none, defaults := [] }
def defBody (s : Stmt) : List Stmt := match s with
  | .FunctionDef _ _ b _ _ _ _ _ _ _ => b
  | _ => []
def defScope (s : Stmt) : Scope := match s with
  | .FunctionDef _ _ _ _ _ _ sc _ _ _ => sc
  | _ => { kind := .function, names := [], isGenerator := false, isCoroutine := false }
abbrev CX0 : CXT := fun _ _ _ _ _ _ => False
abbrev E0 : XK := fun _ _ _ => False
theorem pass0 {X : Cx} : Passes CX0 X E0 := fun _ _ _ _ _ _ _ h => h.elim
structure Fun (K : PySem.W.Frag) (x qual : Str) (st : Stmt) (f : Addr) (fd : FuncData) : Prop where
  ex : ∃ (oc : Value) (od : Option Addr) (kV doc pm : Value) (an : Option Addr) (cdv ct : Value) (osl : Array (Option Value)),
    fd = PySem.W.fnOf x qual (defArgs st) (defBody st) (defScope st) .none kV doc pm an cdv ct ∧ K.lookup f = some ⟨oc, od, .func fd, osl⟩ ∧ PySem.W.codeIn K cdv qual = true
  kp : PySem.W.keepIn K (.ref f) = true
section
variable {P : Program} {w : World} {K : PySem.W.Frag} {mg : Str → Option Value} {base : Heap}
theorem Fun.ok {x qual : Str} {st : Stmt} {f : Addr} {fd : FuncData} {N ps : List Str} {k : Nat} {sp : Sp} (F : Fun K x qual st f fd) (S : FnScope N ps (defScope st)) (len : ∀ vs H Q E, sp vs H Q E → vs.length = ps.length)
    (hbody : ∀ (cdv : Value) (A : Around) (outer : List Env) (s : Shared) (H : Hp) (vs : List V) (Q : VK) (E : XK), Room k (A.deeper (envOfC qual (defScope st) s.heap.objs.size f cdv)) → sp vs H Q E →
      ∃ t, PSs (cxOf CX0 P w K mg base N qual (defScope st) f cdv A outer s H E).nox (defBody st) t ∧ t { nx := fun _ H' => Q .non H', rt := Q } (start N vs) H) : FnOk P w K mg base CX0 (k + 1) f fd ps sp := by
  obtain ⟨oc, od, kV, doc, pm, an, cdv, ct, osl, rfl, lk, hcd⟩ := F.ex
  refine fn_of lk hcd S len fun A outer s H vs Q E hr hsp => ?_
  obtain ⟨t, h, q⟩ := hbody cdv A outer s H vs Q E hr hsp
  exact ⟨t, h.nox, q⟩
theorem Fun.binds {x qual : Str} {st : Stmt} {f : Addr} {fd : FuncData} {ps : List Str} (F : Fun K x qual st f fd)
    (h : ∀ (kV doc pm : Value) (an : Option Addr) (cdv ct : Value) (us : List Value), us.length = ps.length → bindArgs (PySem.W.fnOf x qual (defArgs st) (defBody st) (defScope st) .none kV doc pm an cdv ct) ⟨us, []⟩ = pure (ps.zip us)) : Binds K fd ps [] := by
  obtain ⟨oc, od, kV, doc, pm, an, cdv, ct, osl, rfl, lk, hcd⟩ := F.ex
  exact .all (h kV doc pm an cdv ct)
theorem fun_mk {x qual : Str} {st : Stmt} {f : Addr} {oc : Value} {od an : Option Addr} {osl : Array (Option Value)} {kV doc pm cdv ct : Value} (l : K.lookup f = some ⟨oc, od, .func (PySem.W.fnOf x qual (defArgs st) (defBody st) (defScope st) .none kV doc pm an cdv ct), osl⟩)
    (c : PySem.W.codeIn K cdv qual = true) (k : PySem.W.keepIn K (.ref f) = true) : Fun K x qual st f (PySem.W.fnOf x qual (defArgs st) (defBody st) (defScope st) .none kV doc pm an cdv ct) := ⟨⟨oc, od, kV, doc, pm, an, cdv, ct, osl, rfl, l, c⟩, k⟩
end
theorem hu_of {A : Around} {k : Nat} (hr : Room k A) : A.units + 1 < cLine := Nat.lt_of_le_of_lt (Nat.add_le_add_left (by decide : 1 ≤ 64) _) hr.units
section
variable {X : Cx}
theorem pv (i : Nat) {x : Str} {pos : Pos} (hN : X.N[i]? = some x := by rfl) (hv : Vis X.env.scope x := by first | exact Or.inl rfl | exact Or.inr (Or.inl rfl) | exact Or.inr (Or.inr rfl)) (hd : (x == ("__debug__" : Str)) = false := by decide)
    (hcd : (x == ("__classdict__" : Str)) = false := by decide) : PE X (.Name x pos) (tVar i) := pe_var hN hv hd hcd
end
theorem iteF {A B : Prop} (h : B) : if false = true then A else B := by
  rw [if_neg Bool.false_ne_true]
  exact h
theorem iteT {A B : Prop} (h : A) : if true = true then A else B := by
  rw [if_pos rfl]
  exact h
def Same (H H' : Hp) : Prop := ∀ b o, H b = some o → H' b = some o
theorem Same.refl (H : Hp) : Same H H := fun _ _ h => h
theorem Same.trans {H H1 H2 : Hp} (a : Same H H1) (b : Same H1 H2) : Same H H2 := fun c o h => b c o (a c o h)
theorem Same.free {H H' : Hp} (e : Same H H') {l : Addr} (h : H' l = Option.none) : H l = Option.none := by
  cases q : H l with
  | none => rfl
  | some o =>
    rw [e l o q] at h
    cases h
section
variable {κ : Type} [DecidableEq κ]
end
end L2
set_option maxHeartbeats 4000000
namespace Tw
open Sd16 (number little)
def Byt (l : List Nat) : Prop := ∀ x ∈ l, x < 256
theorem Byt.nil : Byt [] := fun _ h => by simp at h
theorem Byt.app {a b : List Nat} (h : Byt a) (k : Byt b) : Byt (a ++ b) := fun x m => by
  rcases List.mem_append.mp m with m | m
  · exact h x m
  · exact k x m
theorem Byt.take {a : List Nat} (h : Byt a) (n : Nat) : Byt (a.take n) := fun x m => h x (List.mem_of_mem_take m)
theorem Byt.drop {a : List Nat} (h : Byt a) (n : Nat) : Byt (a.drop n) := fun x m => h x (List.mem_of_mem_drop m)
theorem Byt.cons {a : Nat} {l : List Nat} (h : a < 256) (k : Byt l) : Byt (a :: l) := fun x m => by
  rcases List.mem_cons.mp m with m | m
  · omega
  · exact k x m
theorem Byt.rep (n : Nat) {c : Nat} (h : c < 256) : Byt (List.replicate n c) := fun x m => by
  have := (List.mem_replicate.mp m).2
  omega
theorem number_cons (c : Nat) (r : List Nat) : number (c :: r) = c + 256 * number r := rfl
theorem number_nil : number [] = 0 := rfl
theorem number_app : ∀ a b : List Nat, number (a ++ b) = number a + 256 ^ a.length * number b
  | [], b => by simp [number_nil]
  | c :: a, b => by
    rw [List.cons_append, number_cons, number_cons, number_app a b, List.length_cons, Nat.pow_succ]
    grind
theorem number_lt : ∀ {l : List Nat}, Byt l → number l < 256 ^ l.length
  | [], _ => by simp [number_nil]
  | c :: l, h => by
    have h1 : c < 256 := h c (by simp)
    have h2 := number_lt (l := l) fun x m => h x (by simp [m])
    rw [number_cons, List.length_cons, Nat.pow_succ]
    omega
theorem take_succ_of {α : Type} {l : List α} {i : Nat} {x : α} (h : l[i]? = some x) : l.take (i + 1) = l.take i ++ [x] := by
  rw [List.take_add_one, h]; rfl
theorem pow_256 (i : Nat) : 256 ^ i = 2 ^ (8 * i) := by rw [Nat.pow_mul]
theorem number_turn {l : List Nat} {i c : Nat} (h : l[i]? = some c) : number (l.take (i + 1)) = number (l.take i) + c * 2 ^ (8 * i) := by
  have hl : i < l.length := (List.getElem?_eq_some_iff.mp h).1
  rw [take_succ_of h, number_app, List.length_take, Nat.min_eq_left (Nat.le_of_lt hl), number_cons, number_nil, pow_256]
  grind
theorem number_take_lt {l : List Nat} (h : Byt l) (i : Nat) : number (l.take i) < 2 ^ (8 * i) := by
  have h1 := number_lt (h.take i)
  have h2 : 256 ^ (l.take i).length ≤ 256 ^ i := Nat.pow_le_pow_right (by decide) (by rw [List.length_take]; omega)
  rw [pow_256 i] at h2
  omega
theorem little_length (k n : Nat) : (little k n).length = k := by simp [little]
theorem little_byt (k n : Nat) : Byt (little k n) := fun x m => by
  simp only [little, List.mem_map] at m
  obtain ⟨i, _, rfl⟩ := m
  exact Nat.mod_lt _ (by decide)
theorem little_get {k n i : Nat} (h : i < k) : (little k n)[i]? = some (n / 2 ^ (8 * i) % 256) := by
  simp [little, h, pow_256]
theorem little_succ (k n : Nat) : little (k + 1) n = n % 256 :: little k (n / 256) := by
  simp only [little, List.range_succ_eq_map, List.map_cons, List.map_map]
  congr 1
  · simp
  · apply List.map_congr_left
    intro i _
    simp only [Function.comp, Nat.pow_succ]
    rw [Nat.div_div_eq_div_mul, Nat.mul_comm (256 ^ i)]
theorem number_little : ∀ (k n : Nat), number (little k n) = n % 256 ^ k
  | 0, n => by simp [little, number_nil, Nat.mod_one]
  | k + 1, n => by
    rw [little_succ, number_cons, number_little k, Nat.pow_succ, Nat.mul_comm (256 ^ k), Nat.mod_mul]
theorem little_number : ∀ {l : List Nat} {k : Nat}, Byt l → l.length = k → little k (number l) = l
  | [], k, _, e => by
    subst e; simp [little]
  | c :: l, k, h, e => by
    subst e
    have h1 : c < 256 := h c (by simp)
    have h2 : Byt l := fun x m => h x (by simp [m])
    have e1 : (c + 256 * number l) % 256 = c := by omega
    have e2 : (c + 256 * number l) / 256 = number l := by omega
    rw [List.length_cons, little_succ, number_cons, e1, e2, little_number h2 rfl]
theorem little_eq_iff {l : List Nat} {k n : Nat} (h : Byt l) (e : l.length = k) (hn : n < 256 ^ k) : l = little k n ↔ number l = n := by
  constructor
  · intro q; rw [q, number_little, Nat.mod_eq_of_lt hn]
  · intro q; rw [← q, little_number h e]
theorem bytesOf_little (k n : Nat) : Ql09.bytesOf k n = little k n := rfl
theorem numberQ (b : List Nat) : Ql09.number b = number b := rfl
def wordsL (l : List Nat) : List Nat := (List.range ((l.length + 3) / 4)).map fun i => number ((l.drop (4 * i)).take 4)
theorem wordsL_len (l : List Nat) : (wordsL l).length = (l.length + 3) / 4 := by simp [wordsL]
theorem word_lt {l : List Nat} (h : Byt l) (i : Nat) : number ((l.drop i).take 4) < 2 ^ 32 := by
  have := number_lt ((h.drop i).take 4)
  have h2 : 256 ^ ((l.drop i).take 4).length ≤ 256 ^ 4 := Nat.pow_le_pow_right (by decide) (by rw [List.length_take]; omega)
  omega
theorem wordsL_lt {l : List Nat} (h : Byt l) : ∀ x ∈ wordsL l, x < 2 ^ 32 := fun x m => by
  simp only [wordsL, List.mem_map] at m
  obtain ⟨i, _, rfl⟩ := m
  exact word_lt h _
theorem blocks_eq (n : Nat) : ∀ (k : Nat) (b : List Nat), Ql09.blocks n k b = (List.range k).map fun i => (b.drop (n * i)).take n
  | 0, b => rfl
  | k + 1, b => by
    rw [Ql09.blocks, blocks_eq n k, List.range_succ_eq_map, List.map_cons, List.map_map]
    congr 1
    apply List.map_congr_left
    intro i _
    simp only [Function.comp, List.drop_drop]
    congr 2
    rw [Nat.mul_succ]; omega
theorem words_eq {b : List Nat} (h4 : b.length % 4 = 0) : Ql09.words b = (wordsL b).map (BitVec.ofNat 32) := by
  have e : (b.length + 3) / 4 = b.length / 4 := by omega
  simp only [Ql09.words, wordsL, blocks_eq, e, List.map_map]
  rfl
end Tw
namespace Tw
open Sd16 (number little ror mix compress START ORDERS PLACES)
theorem mul_mod_pow {t n m : Nat} (h : n + m = 32) : t * 2 ^ m % 2 ^ 32 = t % 2 ^ n * 2 ^ m := by
  rw [← h, Nat.pow_add, Nat.mul_mod_mul_right]
theorem ror_or {t n : Nat} (hn : n ≤ 32) (ht : t < 2 ^ 32) : (t / 2 ^ n) ||| (t * 2 ^ (32 - n) % 2 ^ 32) = ror t n := by
  have h1 : t / 2 ^ n < 2 ^ (32 - n) := by
    rw [Nat.div_lt_iff_lt_mul (Nat.two_pow_pos n), ← Nat.pow_add, show 32 - n + n = 32 by omega]
    exact ht
  rw [mul_mod_pow (n := n) (m := 32 - n) (by omega), Nat.or_comm, Nat.mul_comm (t % 2 ^ n), ← Nat.two_pow_add_eq_or_of_lt h1, ror]
  rw [Nat.mul_comm (t % 2 ^ n)]
  omega
theorem ror_lt {t n : Nat} (hn : n ≤ 32) (ht : t < 2 ^ 32) : ror t n < 2 ^ 32 := by
  rw [← ror_or hn ht]
  apply Nat.or_lt_two_pow
  · exact Nat.lt_of_le_of_lt (Nat.div_le_self _ _) ht
  · exact Nat.mod_lt _ (by decide)
theorem xor_lt {a b : Nat} (ha : a < 2 ^ 32) (hb : b < 2 ^ 32) : a ^^^ b < 2 ^ 32 := Nat.xor_lt_two_pow ha hb
def mixN (a b c d x y : Nat) : Nat × Nat × Nat × Nat :=
  let one := (a + b + x) % 2 ^ 32
  let four := ror (d ^^^ one) 16
  let three := (c + four) % 2 ^ 32
  let two := ror (b ^^^ three) 12
  let one := (one + two + y) % 2 ^ 32
  let four := ror (four ^^^ one) 8
  let three := (three + four) % 2 ^ 32
  (one, ror (two ^^^ three) 7, three, four)
theorem getD_set_self' {l : List Nat} {i x : Nat} (h : i < l.length) : (l.set i x).getD i 0 = x := by
  simp [List.getD, h]
theorem getD_set_ne' {l : List Nat} {i j x : Nat} (h : i ≠ j) : (l.set i x).getD j 0 = l.getD j 0 := by
  simp [List.getD, List.getElem?_set_ne h]
theorem mix_eq {v : List Nat} {a b c d x y : Nat} (hn : a ≠ b ∧ a ≠ c ∧ a ≠ d ∧ b ≠ c ∧ b ≠ d ∧ c ≠ d) (ha : a < v.length) (hb : b < v.length) (hc : c < v.length) (hd : d < v.length) :
    mix v ((a, b, c, d), x, y) = ((((v.set a (mixN (v.getD a 0) (v.getD b 0) (v.getD c 0) (v.getD d 0) x y).1).set b (mixN (v.getD a 0) (v.getD b 0) (v.getD c 0) (v.getD d 0) x y).2.1).set c
      (mixN (v.getD a 0) (v.getD b 0) (v.getD c 0) (v.getD d 0) x y).2.2.1).set d (mixN (v.getD a 0) (v.getD b 0) (v.getD c 0) (v.getD d 0) x y).2.2.2) := by
  obtain ⟨h1, h2, h3, h4, h5, h6⟩ := hn
  have X : ∀ m n : Nat, Nat.xor m n = m ^^^ n := fun _ _ => rfl
  have e1 := h1.symm; have e2 := h2.symm; have e3 := h3.symm; have e4 := h4.symm; have e5 := h5.symm; have e6 := h6.symm
  simp only [mix, mixN, Sd16.W, X]
  simp only [getD_set_self', getD_set_ne', List.length_set, ha, hb, hc, hd, h1, h2, h3, h4, h5, h6, e1, e2, e3, e4, e5, e6, ne_eq, not_false_eq_true]
  apply List.ext_getElem?
  intro i
  simp only [List.getElem?_set, List.length_set]
  by_cases q1 : a = i
  · subst q1; simp [h1, h2, h3, e1, e2, e3, ha]
  · by_cases q2 : b = i
    · subst q2; simp [h4, h5, e4, e5, e1, h1, hb]
    · by_cases q3 : c = i
      · subst q3; simp [h6, e6, e2, e4, h2, h4, hc]
      · by_cases q4 : d = i
        · subst q4; simp [e3, e5, e6, h3, h5, h6, hd]
        · simp [q1, q2, q3, q4]
def W32 (l : List Nat) : Prop := ∀ x ∈ l, x < 2 ^ 32
theorem W32.set {l : List Nat} (h : W32 l) (i : Nat) {x : Nat} (hx : x < 2 ^ 32) : W32 (l.set i x) := fun y m => by
  rcases List.mem_or_eq_of_mem_set m with m | m
  · exact h y m
  · omega
theorem W32.getD {l : List Nat} (h : W32 l) (i : Nat) : l.getD i 0 < 2 ^ 32 := by
  rw [List.getD_eq_getElem?_getD]
  cases e : l[i]? with
  | none => simp
  | some x => exact h x (List.mem_of_getElem? e)
theorem W32.app {a b : List Nat} (h : W32 a) (k : W32 b) : W32 (a ++ b) := fun x m => by
  rcases List.mem_append.mp m with m | m
  · exact h x m
  · exact k x m
theorem mixN_lt {a b c d x y : Nat} (ha : a < 2 ^ 32) (hb : b < 2 ^ 32) (hc : c < 2 ^ 32) (hd : d < 2 ^ 32) :
    (mixN a b c d x y).1 < 2 ^ 32 ∧ (mixN a b c d x y).2.1 < 2 ^ 32 ∧ (mixN a b c d x y).2.2.1 < 2 ^ 32 ∧ (mixN a b c d x y).2.2.2 < 2 ^ 32 := by
  have m : ∀ n : Nat, n % 2 ^ 32 < 2 ^ 32 := fun n => Nat.mod_lt _ (by decide)
  simp only [mixN]
  refine ⟨m _, ror_lt (by decide) (xor_lt (ror_lt (by decide) (xor_lt hb (m _))) (m _)), m _, ror_lt (by decide) (xor_lt (ror_lt (by decide) (xor_lt hd (m _))) (m _))⟩
def P4 (a b c d : Nat) : Prop := (a ≠ b ∧ a ≠ c ∧ a ≠ d ∧ b ≠ c ∧ b ≠ d ∧ c ≠ d) ∧ a < 16 ∧ b < 16 ∧ c < 16 ∧ d < 16
theorem mix_len (v : List Nat) (p : (Nat × Nat × Nat × Nat) × Nat × Nat) : (mix v p).length = v.length := by
  obtain ⟨⟨a, b, c, d⟩, x, y⟩ := p
  simp only [mix, List.length_set]
theorem mix_w32 {v : List Nat} {a b c d x y : Nat} (h : P4 a b c d) (hl : v.length = 16) (hv : W32 v) : W32 (mix v ((a, b, c, d), x, y)) := by
  rw [mix_eq h.1 (by rw [hl]; exact h.2.1) (by rw [hl]; exact h.2.2.1) (by rw [hl]; exact h.2.2.2.1) (by rw [hl]; exact h.2.2.2.2)]
  obtain ⟨q1, q2, q3, q4⟩ := mixN_lt (x := x) (y := y) (hv.getD a) (hv.getD b) (hv.getD c) (hv.getD d)
  exact (((hv.set _ q1).set _ q2).set _ q3).set _ q4
def LANES : List (Nat × Nat × Nat × Nat × Nat × Nat) :=
  [(0, 4, 8, 12, 0, 1), (1, 5, 9, 13, 2, 3), (2, 6, 10, 14, 4, 5), (3, 7, 11, 15, 6, 7), (0, 5, 10, 15, 8, 9), (1, 6, 11, 12, 10, 11), (2, 7, 8, 13, 12, 13), (3, 4, 9, 14, 14, 15)]
def lane (m s : List Nat) (v : List Nat) (q : Nat × Nat × Nat × Nat × Nat × Nat) : List Nat :=
  mix v ((q.1, q.2.1, q.2.2.1, q.2.2.2.1), m.getD (s.getD q.2.2.2.2.1 0) 0, m.getD (s.getD q.2.2.2.2.2 0) 0)
def rnd (m : List Nat) (v s : List Nat) : List Nat := LANES.foldl (lane m s) v
theorem lanes_p4 : ∀ q ∈ LANES, P4 q.1 q.2.1 q.2.2.1 q.2.2.2.1 := by
  unfold P4
  decide
theorem fold_inv {α β : Type} (P : β → Prop) (f : β → α → β) : ∀ (l : List α) (b : β), P b → (∀ b a, a ∈ l → P b → P (f b a)) → P (l.foldl f b)
  | [], b, h, _ => h
  | a :: l, b, h, k => fold_inv P f l (f b a) (k b a (by simp) h) fun b c m h => k b c (by simp [m]) h
theorem lane_ok {m s v : List Nat} {q : Nat × Nat × Nat × Nat × Nat × Nat} (hq : q ∈ LANES) (h : v.length = 16 ∧ W32 v) : (lane m s v q).length = 16 ∧ W32 (lane m s v q) :=
  ⟨by rw [lane, mix_len]; exact h.1, mix_w32 (lanes_p4 q hq) h.1 h.2⟩
theorem rnd_ok {m s v : List Nat} (h : v.length = 16 ∧ W32 v) : (rnd m v s).length = 16 ∧ W32 (rnd m v s) :=
  fold_inv (fun v => v.length = 16 ∧ W32 v) _ LANES v h fun _ _ hq h => lane_ok hq h
def work0 (h : List Nat) (count : Nat) (last : Bool) : List Nat :=
  let v := h ++ START
  let v := v.set 12 (v.getD 12 0 ^^^ (count % 2 ^ 32))
  let v := v.set 13 (v.getD 13 0 ^^^ (count / 2 ^ 32))
  if last = true then v.set 14 (v.getD 14 0 ^^^ 4294967295) else v
def rounds (m : List Nat) (v : List Nat) : List Nat := ORDERS.foldl (rnd m) v
theorem START_w32 : W32 START := by unfold W32; decide
theorem work0_ok {h : List Nat} {count : Nat} {last : Bool} (hl : h.length = 8) (hw : W32 h) (hc : count < 2 ^ 64) : (work0 h count last).length = 16 ∧ W32 (work0 h count last) := by
  have hs : START.length = 8 := rfl
  have a : W32 (h ++ START) := hw.app START_w32
  have hc2 : count / 2 ^ 32 < 2 ^ 32 := by omega
  have b := a.set 12 (xor_lt (a.getD 12) (Nat.mod_lt count (show 0 < 2 ^ 32 by decide)))
  have c := b.set 13 (xor_lt (b.getD 13) hc2)
  constructor
  · simp only [work0]; split <;> simp [hl, hs]
  · simp only [work0]; split
    · exact c.set 14 (xor_lt (c.getD 14) (by decide))
    · exact c
theorem not_eq_xor {x : Nat} (h : x < 2 ^ 32) : 2 ^ 32 - 1 - x = x ^^^ 4294967295 := by
  apply Nat.eq_of_testBit_eq
  intro i
  rw [Nat.testBit_xor, show (4294967295 : Nat) = 2 ^ 32 - 1 by decide, Nat.testBit_two_pow_sub_one, show 2 ^ 32 - 1 - x = 2 ^ 32 - (x + 1) by omega, Nat.testBit_two_pow_sub_succ h]
  by_cases q : i < 32
  · simp [q]
  · simp only [q, decide_false, Bool.false_and, Bool.xor_false]
    rw [Nat.testBit_lt_two_pow (Nat.lt_of_lt_of_le h (Nat.pow_le_pow_right (by decide) (by omega)))]
theorem compress_eq {h : List Nat} {block : List Nat} {count : Nat} {last : Bool} (hl : h.length = 8) (hw : W32 h) (hb : block.length = 64) (hc : count < 2 ^ 64) :
    compress h block count last = (List.range 8).map fun i => h.getD i 0 ^^^ (rounds (wordsL block) (work0 h count last)).getD i 0 ^^^ (rounds (wordsL block) (work0 h count last)).getD (i + 8) 0 := by
  have hs : START.length = 8 := rfl
  have e16 : (block.length + 3) / 4 = 16 := by omega
  have em : (List.range 16).map (fun i => number ((block.drop (4 * i)).take 4)) = wordsL block := by rw [wordsL, e16]
  have ec : count / 2 ^ 32 % 2 ^ 32 = count / 2 ^ 32 := Nat.mod_eq_of_lt (by omega)
  have X : ∀ m n : Nat, Nat.xor m n = m ^^^ n := fun _ _ => rfl
  have a : W32 (h ++ START) := hw.app START_w32
  have b := a.set 12 (xor_lt (a.getD 12) (Nat.mod_lt count (show 0 < 2 ^ 32 by decide)))
  have c := b.set 13 (xor_lt (b.getD 13) (show count / 2 ^ 32 < 2 ^ 32 by omega))
  have ew : (let v := h ++ START; let v := v.set 12 (Nat.xor (v.getD 12 0) (count % Sd16.W)); let v := v.set 13 (Nat.xor (v.getD 13 0) (count / Sd16.W % Sd16.W)); if last = true then v.set 14 (Sd16.W - 1 - v.getD 14 0) else v) = work0 h count last := by
    simp only [work0, X, Sd16.W, ec]
    split
    · rw [not_eq_xor (c.getD 14)]
    · rfl
  have er : ∀ v, ORDERS.foldl (fun v s => (PLACES.zipIdx).foldl (fun v p => mix v (p.1, (wordsL block).getD (s.getD (2 * p.2) 0) 0, (wordsL block).getD (s.getD (2 * p.2 + 1) 0) 0)) v) v = rounds (wordsL block) v := fun v => rfl
  unfold compress
  rw [em]
  simp only [X] at ew ⊢
  rw [ew, er]
  simp only [Nat.xor_assoc]
theorem compress_ok {h : List Nat} {block : List Nat} {count : Nat} {last : Bool} (hl : h.length = 8) (hw : W32 h) (hb : block.length = 64) (hc : count < 2 ^ 64) :
    (compress h block count last).length = 8 ∧ W32 (compress h block count last) := by
  rw [compress_eq hl hw hb hc]
  have r : W32 (rounds (wordsL block) (work0 h count last)) :=
    (fold_inv (fun v => v.length = 16 ∧ W32 v) (rnd (wordsL block)) ORDERS _ (work0_ok hl hw hc) fun _ _ _ h => rnd_ok h).2
  refine ⟨by simp, fun x m => ?_⟩
  simp only [List.mem_map] at m
  obtain ⟨i, _, rfl⟩ := m
  exact xor_lt (xor_lt (hw.getD i) (r.getD i)) (r.getD (i + 8))
end Tw
namespace Tw
open Sd16 (number little ror mix compress START ORDERS PLACES)
theorem blocks_step {k n : Nat} {h b : List Nat} (hb : 64 < b.length) : Sd16.blocks (k + 1) h n b = Sd16.blocks k (compress h (b.take 64) (n + 64) false) (n + 64) (b.drop 64) := by
  rw [Sd16.blocks, if_neg (by omega)]
theorem blocks_last {k n : Nat} {h b : List Nat} (hb : b.length ≤ 64) : Sd16.blocks (k + 1) h n b = compress h (b ++ List.replicate (64 - b.length) 0) (n + b.length) true := by
  rw [Sd16.blocks, if_pos hb]
structure BlkInv (d : List Nat) (h0 : List Nat) (i : Nat) (st : List Nat) : Prop where
  len : st.length = 8
  w : W32 st
  at_ : 64 * i ≤ d.length
  eq : ∀ k, d.length < k + i → Sd16.blocks (k + i) h0 0 d = Sd16.blocks k st (64 * i) (d.drop (64 * i))
theorem BlkInv.start {d h0 : List Nat} (hl : h0.length = 8) (hw : W32 h0) : BlkInv d h0 0 h0 := ⟨hl, hw, by omega, fun k _ => rfl⟩
theorem BlkInv.turn {d h0 st : List Nat} {i : Nat} (I : BlkInv d h0 i st) (h : 64 * i + 64 < d.length) (hd : d.length < 2 ^ 64) :
    BlkInv d h0 (i + 1) (compress st ((d.drop (64 * i)).take 64) (64 * i + 64) false) := by
  have hb : ((d.drop (64 * i)).take 64).length = 64 := by rw [List.length_take, List.length_drop]; omega
  obtain ⟨c1, c2⟩ := compress_ok (count := 64 * i + 64) (last := false) I.len I.w hb (by omega)
  refine ⟨c1, c2, by omega, fun k hk => ?_⟩
  rw [show k + (i + 1) = (k + 1) + i by omega, I.eq (k + 1) (by omega), blocks_step (by rw [List.length_drop]; omega), List.drop_drop, show 64 * i + 64 = 64 * (i + 1) by omega]
theorem BlkInv.done {d h0 st : List Nat} {i : Nat} (I : BlkInv d h0 i st) (h : ¬ 64 * i + 64 < d.length) :
    Sd16.blocks (d.length + 1) h0 0 d = compress st (d.drop (64 * i) ++ List.replicate (64 - (d.drop (64 * i)).length) 0) d.length true := by
  have hi : i ≤ d.length := by have := I.at_; omega
  have e := I.eq (d.length - i + 1) (by omega)
  rw [show d.length - i + 1 + i = d.length + 1 by omega] at e
  have := I.at_
  rw [e, blocks_last (by rw [List.length_drop]; omega)]
  congr 1
  rw [List.length_drop]; omega
theorem BlkInv.fin_len {d h0 st : List Nat} {i : Nat} (I : BlkInv d h0 i st) (h : ¬ 64 * i + 64 < d.length) :
    (d.drop (64 * i)).length ≤ 64 ∧ (d.drop (64 * i) ++ List.replicate (64 - (d.drop (64 * i)).length) 0).length = 64 := by
  have := I.at_
  have h1 : (d.drop (64 * i)).length ≤ 64 := by rw [List.length_drop]; omega
  refine ⟨h1, by rw [List.length_append, List.length_replicate]; omega⟩
def keyed (key b : List Nat) : List Nat := (key ++ List.replicate ((64 - key.length % 64) % 64) 0) ++ b
theorem keyed_eq {key b : List Nat} (h : key.length = 0 ∨ key.length = 32) : (if key = [] then b else key ++ (List.replicate (64 - key.length) 0 ++ b)) = keyed key b := by
  rcases h with h | h
  · have e : key = [] := List.length_eq_zero_iff.mp h
    subst e; simp [keyed]
  · have e : key ≠ [] := by intro q; subst q; simp at h
    rw [if_neg e, keyed, h, List.append_assoc]
def state0 (k size : Nat) : List Nat := START.set 0 (START.getD 0 0 ^^^ 16842752 ^^^ k * 256 ^^^ size)
theorem state0_eq {key : List Nat} {out : Nat} (h : (key.length = 0 ∧ out = 32) ∨ (key.length = 32 ∧ out = 16)) :
    START.set 0 (Nat.xor 0x6A09E667 (0x01010000 + 256 * key.length + out)) = state0 key.length out := by
  rcases h with ⟨h, rfl⟩ | ⟨h, rfl⟩ <;> (rw [h]; decide)
theorem state0_ok {k size : Nat} (h : (k = 0 ∧ size = 32) ∨ (k = 32 ∧ size = 16)) : (state0 k size).length = 8 ∧ W32 (state0 k size) := by
  rcases h with ⟨rfl, rfl⟩ | ⟨rfl, rfl⟩ <;> (unfold W32; decide)
theorem blake_eq {key b : List Nat} {out : Nat} (h : (key.length = 0 ∧ out = 32) ∨ (key.length = 32 ∧ out = 16)) :
    Sd16.blake out key b = ((Sd16.blocks ((keyed key b).length + 1) (state0 key.length out) 0 (keyed key b)).flatMap (little 4)).take out := by
  unfold Sd16.blake
  rw [state0_eq h, keyed_eq (by omega)]
theorem flat_little_len (l : List Nat) : (l.flatMap (little 4)).length = 4 * l.length := by
  induction l with
  | nil => rfl
  | cons a l ih => rw [List.flatMap_cons, List.length_append, ih, little_length, List.length_cons]; omega
theorem flat_little_byt (l : List Nat) : Byt (l.flatMap (little 4)) := fun x m => by
  obtain ⟨a, _, h⟩ := List.mem_flatMap.mp m
  exact little_byt 4 a x h
theorem blocks_len : ∀ (k : Nat) (h : List Nat) (n : Nat) (b : List Nat), h.length = 8 → (Sd16.blocks k h n b).length = 8
  | 0, h, n, b, e => e
  | k + 1, h, n, b, e => by
    unfold Sd16.blocks
    split
    · simp [compress]
    · exact blocks_len k _ _ _ (by simp [compress])
theorem blake_len {key b : List Nat} {out : Nat} (ho : out ≤ 32) : (Sd16.blake out key b).length = out := by
  unfold Sd16.blake
  simp only [List.length_take, flat_little_len]
  rw [blocks_len _ _ _ _ (by simp [START])]
  omega
theorem blake_byt (out : Nat) (key b : List Nat) : Byt (Sd16.blake out key b) := by
  unfold Sd16.blake
  exact (flat_little_byt _).take _
theorem hash_len (b : List Nat) : (Sd16.hash b).length = 32 := blake_len (by decide)
theorem hash_byt (b : List Nat) : Byt (Sd16.hash b) := blake_byt _ _ _
theorem hmac_len (k b : List Nat) : (Sd16.hmac k b).length = 32 := hash_len _
theorem hmac_byt (k b : List Nat) : Byt (Sd16.hmac k b) := hash_byt _
theorem mac1_len (k b : List Nat) : (Sd16.mac1 k b).length = 16 := blake_len (by decide)
def padk (key : List Nat) : List Nat := key ++ List.replicate (64 - key.length) 0
theorem padk_byt {key : List Nat} (h : Byt key) : Byt (padk key) := h.app (Byt.rep _ (by decide))
theorem padk_len {key : List Nat} (h : key.length ≤ 64) : (padk key).length = 64 := by
  rw [padk, List.length_append, List.length_replicate]; omega
theorem xor_byt {l : List Nat} (h : Byt l) {c : Nat} (hc : c < 256) : Byt (l.map fun x => x ^^^ c) := fun x m => by
  obtain ⟨y, hy, rfl⟩ := List.mem_map.mp m
  exact Nat.xor_lt_two_pow (n := 8) (h y hy) hc
theorem hmac_eq (key b : List Nat) : Sd16.hmac key b = Sd16.hash ((padk key).map (fun x => x ^^^ 92) ++ Sd16.hash ((padk key).map (fun x => x ^^^ 54) ++ b)) := by
  have X : ∀ c : Nat, (Nat.xor c) = fun x => x ^^^ c := fun c => by funext x; exact Nat.xor_comm c x
  unfold Sd16.hmac
  simp only [X]
  rfl
def lastK (t : List Nat) : Nat → List Nat
  | 0 => []
  | k + 1 => Sd16.hmac t (lastK t k ++ [k + 1])
theorem keysOn_get (t : List Nat) : ∀ (k i : Nat), Sd16.keysOn t k (i + 1) (lastK t i) = (List.range k).map fun j => lastK t (i + j + 1)
  | 0, i => rfl
  | k + 1, i => by
    have e := keysOn_get t k (i + 1)
    rw [List.range_succ_eq_map, List.map_cons, List.map_map]
    show Sd16.hmac t (lastK t i ++ [i + 1]) :: Sd16.keysOn t k (i + 1 + 1) (lastK t (i + 1)) = _
    rw [e]
    congr 1
    apply List.map_congr_left
    intro j _
    simp only [Function.comp]
    congr 1
    omega
theorem keys_eq (n : Nat) (c x : List Nat) : Sd16.keys n c x = (List.range n).map fun j => lastK (Sd16.hmac c x) (j + 1) := by
  have := keysOn_get (Sd16.hmac c x) n 0
  simpa [Sd16.keys, lastK] using this
theorem lastK_len (t : List Nat) (k : Nat) : (lastK t (k + 1)).length = 32 := hmac_len _ _
theorem lastK_byt (t : List Nat) : ∀ k : Nat, Byt (lastK t k)
  | 0 => Byt.nil
  | k + 1 => hmac_byt _ _
end Tw
namespace Tw
open Sd16 (number little)
def rolN (t n : Nat) : Nat := (t * 2 ^ n % 2 ^ 32) ||| (t / 2 ^ (32 - n))
theorem rol_eq (x : BitVec 32) {n : Nat} (h : n < 32) : (x.rotateLeft n).toNat = rolN x.toNat n := by
  rw [BitVec.toNat_rotateLeft, Nat.mod_eq_of_lt h, Nat.shiftLeft_eq, Nat.shiftRight_eq_div_pow, rolN]
def toN (s : List (BitVec 32)) : List Nat := s.map BitVec.toNat
theorem toN_getD (s : List (BitVec 32)) (i : Nat) : (toN s).getD i 0 = (Ql09.word s i).toNat := by
  simp only [toN, Ql09.word, List.getD_eq_getElem?_getD, List.getElem?_map]
  cases s[i]? <;> rfl
def qN (a b c d : Nat) : Nat × Nat × Nat × Nat :=
  let one := (a + b) % 2 ^ 32
  let four := rolN (d ^^^ one) 16
  let three := (c + four) % 2 ^ 32
  let two := rolN (b ^^^ three) 12
  let one := (one + two) % 2 ^ 32
  let four := rolN (four ^^^ one) 8
  let three := (three + four) % 2 ^ 32
  (one, rolN (two ^^^ three) 7, three, four)
def quarterN (v : List Nat) (p : Nat × Nat × Nat × Nat) : List Nat :=
  let q := qN (v.getD p.1 0) (v.getD p.2.1 0) (v.getD p.2.2.1 0) (v.getD p.2.2.2 0)
  (((v.set p.1 q.1).set p.2.1 q.2.1).set p.2.2.1 q.2.2.1).set p.2.2.2 q.2.2.2
theorem toN_set (s : List (BitVec 32)) (i : Nat) (x : BitVec 32) : toN (s.set i x) = (toN s).set i x.toNat := by
  simp [toN, List.map_set]
theorem quarter_eq (s : List (BitVec 32)) (p : Nat × Nat × Nat × Nat) : toN (Ql09.quarter s p) = quarterN (toN s) p := by
  obtain ⟨a, b, c, d⟩ := p
  simp only [Ql09.quarter, quarterN, qN, toN_set, toN_getD, BitVec.toNat_add, BitVec.toNat_xor, rol_eq _ (show 16 < 32 by decide), rol_eq _ (show 12 < 32 by decide), rol_eq _ (show 8 < 32 by decide), rol_eq _ (show 7 < 32 by decide)]
theorem foldl_toN (f : List (BitVec 32) → Nat × Nat × Nat × Nat → List (BitVec 32)) (g : List Nat → Nat × Nat × Nat × Nat → List Nat) (h : ∀ s p, toN (f s p) = g (toN s) p) :
    ∀ (l : List (Nat × Nat × Nat × Nat)) (s : List (BitVec 32)), toN (l.foldl f s) = l.foldl g (toN s)
  | [], s => rfl
  | p :: l, s => by rw [List.foldl_cons, List.foldl_cons, foldl_toN f g h l, h]
def twiceN (v : List Nat) : List Nat := Ql09.ROUNDS.foldl quarterN v
theorem twice_eq (s : List (BitVec 32)) : toN (Ql09.twice s) = twiceN (toN s) := foldl_toN _ _ quarter_eq _ s
theorem quarterN_len (v : List Nat) (p : Nat × Nat × Nat × Nat) : (quarterN v p).length = v.length := by simp [quarterN]
theorem twiceN_len (v : List Nat) : (twiceN v).length = v.length :=
  fold_inv (fun x : List Nat => x.length = v.length) quarterN Ql09.ROUNDS v rfl fun b a _ h => by rw [quarterN_len]; exact h
def tensN (v : List Nat) : Nat → List Nat
  | 0 => v
  | k + 1 => twiceN (tensN v k)
theorem tensN_len (v : List Nat) : ∀ k, (tensN v k).length = v.length
  | 0 => rfl
  | k + 1 => by rw [tensN, twiceN_len, tensN_len v k]
theorem tens_eq (s : List (BitVec 32)) : ∀ k : Nat, toN ((List.range k).foldl (fun t _ => Ql09.twice t) s) = tensN (toN s) k
  | 0 => rfl
  | k + 1 => by rw [List.range_succ, List.foldl_append, List.foldl_cons, List.foldl_nil, twice_eq, tens_eq s k, tensN]
def CONSTS : List Nat := [0x61707865, 0x3320646E, 0x79622D32, 0x6B206574]
def startN (key once : List Nat) (counter : Nat) : List Nat := CONSTS ++ wordsL key ++ [counter] ++ wordsL once
theorem map_ofNat_toN {l : List Nat} (h : W32 l) : toN (l.map (BitVec.ofNat 32)) = l := by
  simp only [toN, List.map_map]
  conv => rhs; rw [← List.map_id l]
  apply List.map_congr_left
  intro x m
  simp only [Function.comp, BitVec.toNat_ofNat, id]
  exact Nat.mod_eq_of_lt (h x m)
theorem start_eq {key once : List Nat} {counter : Nat} (hk : Byt key) (ho : Byt once) (h1 : key.length % 4 = 0) (h2 : once.length % 4 = 0) (hc : counter < 2 ^ 32) :
    toN ([0x61707865, 0x3320646E, 0x79622D32, 0x6B206574] ++ (Ql09.words key ++ (BitVec.ofNat 32 counter :: Ql09.words once))) = startN key once counter := by
  have e1 : toN ([0x61707865, 0x3320646E, 0x79622D32, 0x6B206574] : List (BitVec 32)) = CONSTS := by decide
  have ea : ∀ a b : List (BitVec 32), toN (a ++ b) = toN a ++ toN b := fun a b => by simp [toN]
  have ec : ∀ (a : BitVec 32) (b : List (BitVec 32)), toN (a :: b) = a.toNat :: toN b := fun a b => by simp [toN]
  rw [ea, e1, ea, ec, words_eq h1, words_eq h2, map_ofNat_toN (wordsL_lt hk), map_ofNat_toN (wordsL_lt ho), BitVec.toNat_ofNat, Nat.mod_eq_of_lt hc, startN]
  simp
theorem startN_len {key once : List Nat} {counter : Nat} (h1 : key.length = 32) (h2 : once.length = 12) : (startN key once counter).length = 16 := by
  simp only [startN, List.length_append, wordsL_len, h1, h2]; rfl
def sumsN (start work : List Nat) : List Nat := (start.zip work).flatMap fun x => little 4 ((x.1 + x.2) % 2 ^ 32)
def blockN (key once : List Nat) (counter : Nat) : List Nat := sumsN (startN key once counter) (tensN (startN key once counter) 10)
theorem sums_eq : ∀ (s t : List (BitVec 32)), ((t.zip s).flatMap fun x => Ql09.bytesOf 4 (x.1 + x.2).toNat) = sumsN (toN s) (toN t)
  | [], t => by simp [sumsN, toN]
  | a :: s, [] => by simp [sumsN, toN]
  | a :: s, b :: t => by
    have ih := sums_eq s t
    simp only [sumsN, toN, List.zip_cons_cons, List.flatMap_cons, List.map_cons] at ih ⊢
    rw [ih, BitVec.toNat_add, Nat.add_comm, bytesOf_little]
theorem block_eq {key once : List Nat} {counter : Nat} (hk : Byt key) (ho : Byt once) (h1 : key.length % 4 = 0) (h2 : once.length % 4 = 0) (hc : counter < 2 ^ 32) : Ql09.block key once counter = blockN key once counter := by
  unfold Ql09.block
  simp only []
  rw [sums_eq, tens_eq, start_eq hk ho h1 h2 hc, blockN]
theorem sumsN_len (s t : List Nat) (h : s.length = t.length) : (sumsN s t).length = 4 * s.length := by
  induction s generalizing t with
  | nil => simp [sumsN]
  | cons a s ih =>
    cases t with
    | nil => simp at h
    | cons b t =>
      have := ih t (by simpa using h)
      simp only [sumsN, List.zip_cons_cons, List.flatMap_cons, List.length_append, little_length, List.length_cons] at this ⊢
      omega
theorem sumsN_byt (s t : List Nat) : Byt (sumsN s t) := fun x m => by
  obtain ⟨a, _, h⟩ := List.mem_flatMap.mp m
  exact little_byt _ _ x h
theorem blockN_len {key once : List Nat} {counter : Nat} (h1 : key.length = 32) (h2 : once.length = 12) : (blockN key once counter).length = 64 := by
  rw [blockN, sumsN_len _ _ (by rw [tensN_len]), startN_len h1 h2]
theorem blockN_byt (key once : List Nat) (counter : Nat) : Byt (blockN key once counter) := sumsN_byt _ _
theorem zip_take_succ {s t : List Nat} {i x y : Nat} (h1 : s[i]? = some x) (h2 : t[i]? = some y) : (s.zip t).take (i + 1) = (s.zip t).take i ++ [(x, y)] := by
  apply take_succ_of
  rw [List.getElem?_zip_eq_some]; exact ⟨h1, h2⟩
def coverN (key once : List Nat) (k : Nat) : List Nat := (List.range k).flatMap fun i => blockN key once (1 + i)
theorem coverN_len {key once : List Nat} (h1 : key.length = 32) (h2 : once.length = 12) : ∀ k, (coverN key once k).length = 64 * k
  | 0 => rfl
  | k + 1 => by
    have ih := coverN_len h1 h2 k
    simp only [coverN, List.range_succ, List.flatMap_append, List.length_append, List.flatMap_cons, List.flatMap_nil, List.append_nil] at ih ⊢
    rw [ih, blockN_len h1 h2]; omega
theorem coverN_succ (key once : List Nat) (k : Nat) : coverN key once (k + 1) = coverN key once k ++ blockN key once (1 + k) := by
  simp [coverN, List.range_succ, List.flatMap_append]
def xorN (a b : List Nat) : List Nat := (a.zip b).map fun x => x.1 ^^^ x.2
theorem xorN_byt {a b : List Nat} (ha : Byt a) (hb : Byt b) : Byt (xorN a b) := fun x m => by
  obtain ⟨⟨p, q⟩, h, rfl⟩ := List.mem_map.mp m
  have := List.of_mem_zip h
  exact Nat.xor_lt_two_pow (n := 8) (ha _ this.1) (hb _ this.2)
theorem stream_eq {key once b : List Nat} (hk : Byt key) (ho : Byt once) (h1 : key.length = 32) (h2 : once.length = 12) (hb : b.length < 2 ^ 32) :
    Ql09.stream key once 1 b = xorN b (coverN key once ((b.length + 63) / 64)) := by
  have e : (List.range ((b.length + 63) / 64)).flatMap (fun i => Ql09.block key once ((1 + i) % 2 ^ 32)) = coverN key once ((b.length + 63) / 64) := by
    rw [coverN, List.flatMap_def, List.flatMap_def]
    apply congrArg List.flatten
    apply List.map_congr_left
    intro i m
    have hi := List.mem_range.mp m
    have hlt : 1 + i < 2 ^ 32 := by omega
    rw [Nat.mod_eq_of_lt hlt, block_eq hk ho (by omega) (by omega) hlt]
  rw [Ql09.stream, e]
  rfl
theorem xorN_app {a b c d : List Nat} (h : a.length = b.length) : xorN (a ++ c) (b ++ d) = xorN a b ++ xorN c d := by
  simp only [xorN, List.zip_append h, List.map_append]
theorem stream_turn {key once b : List Nat} (h1 : key.length = 32) (h2 : once.length = 12) {i : Nat} (hi : 64 * i ≤ b.length) :
    xorN (b.take (64 * i)) (coverN key once i) ++ xorN ((b.drop (64 * i)).take 64) (blockN key once (1 + i)) = xorN (b.take (64 * (i + 1))) (coverN key once (i + 1)) := by
  rw [coverN_succ, ← xorN_app (by rw [List.length_take, coverN_len h1 h2]; omega), show 64 * (i + 1) = 64 * i + 64 by omega, List.take_add]
theorem xorN_take_left {a b : List Nat} (h : b.length ≥ a.length) : (xorN a b).length = a.length := by
  simp only [xorN, List.length_map, List.length_zip]; omega
theorem coverN_byt (key once : List Nat) (k : Nat) : Byt (coverN key once k) := fun x m => by
  obtain ⟨a, _, h⟩ := List.mem_flatMap.mp m
  exact blockN_byt _ _ _ x h
def polyN (r : Nat) (b : List Nat) : Nat → Nat
  | 0 => 0
  | k + 1 => (polyN r b k + (number ((b.drop (16 * k)).take 16 ++ [1]))) * r % Ql09.P
theorem number_one (c : List Nat) : number (c ++ [1]) = number c + 256 ^ c.length := by
  rw [number_app, number_cons, number_nil]; omega
theorem poly_eq (r : Nat) (b : List Nat) : ∀ k : Nat, (Ql09.blocks 16 k b).foldl (fun a c => (a + Ql09.number c + 256 ^ c.length) * r % Ql09.P) 0 = polyN r b k
  | 0 => rfl
  | k + 1 => by
    have ih := poly_eq r b k
    rw [blocks_eq] at ih ⊢
    rw [List.range_succ, List.map_append, List.foldl_append, ih]
    simp only [List.map_cons, List.map_nil, List.foldl_cons, List.foldl_nil, polyN, number_one, numberQ]
    rw [Nat.add_assoc]
theorem mark_eq (key b : List Nat) : Ql09.mark key b = little 16 (polyN (number (key.take 16) &&& 21267647620597763993911028882763415551) b ((b.length + 15) / 16) + number (key.drop 16)) := by
  unfold Ql09.mark
  simp only [Ql09.clamp, numberQ, bytesOf_little]
  rw [← poly_eq]
  rfl
theorem mark_len (key b : List Nat) : (Ql09.mark key b).length = 16 := by rw [mark_eq, little_length]
theorem mark_byt (key b : List Nat) : Byt (Ql09.mark key b) := by rw [mark_eq]; exact little_byt _ _
theorem polyN_lt (r : Nat) (b : List Nat) : ∀ k, polyN r b k < Ql09.P
  | 0 => by show 0 < Ql09.P; decide
  | k + 1 => Nat.mod_lt _ (by decide)
theorem once_len (n : Nat) : (Sd16.once n).length = 12 := by simp [Sd16.once, little_length]
theorem once_byt (n : Nat) : Byt (Sd16.once n) := Byt.app (by unfold Byt; decide) (little_byt _ _)
theorem once_eq (n : Nat) : Sd16.once n = little 4 0 ++ little 8 n := by
  have : little 4 0 = [0, 0, 0, 0] := by decide
  rw [this]; rfl
theorem tag_len (k o s b : List Nat) : (Ql09.tag k o s b).length = 16 := mark_len _ _
theorem tag_byt (k o s b : List Nat) : Byt (Ql09.tag k o s b) := mark_byt _ _
theorem stream_len {key once b : List Nat} (hk : Byt key) (ho : Byt once) (h1 : key.length = 32) (h2 : once.length = 12) (hb : b.length < 2 ^ 32) : (Ql09.stream key once 1 b).length = b.length := by
  rw [stream_eq hk ho h1 h2 hb, xorN_take_left]
  rw [coverN_len h1 h2]; omega
theorem stream_byt {key once b : List Nat} (hk : Byt key) (ho : Byt once) (h1 : key.length = 32) (h2 : once.length = 12) (hb : b.length < 2 ^ 32) (h : Byt b) : Byt (Ql09.stream key once 1 b) := by
  rw [stream_eq hk ho h1 h2 hb]; exact xorN_byt h (coverN_byt _ _ _)
theorem sealed_len {k b seen : List Nat} {n : Nat} (hk : Byt k) (h1 : k.length = 32) (hb : b.length < 2 ^ 32) : (Sd16.sealed k n b seen).length = b.length + 16 := by
  simp only [Sd16.sealed, Ql09.sealUp, List.length_append, tag_len, stream_len hk (once_byt n) h1 (once_len n) hb]
theorem sealed_byt {k b seen : List Nat} {n : Nat} (hk : Byt k) (h1 : k.length = 32) (hb : b.length < 2 ^ 32) (h : Byt b) : Byt (Sd16.sealed k n b seen) := by
  simp only [Sd16.sealed, Ql09.sealUp]
  exact (stream_byt hk (once_byt n) h1 (once_len n) hb h).app (tag_byt _ _ _ _)
theorem open_len {k c seen b : List Nat} {n : Nat} (hk : Byt k) (h1 : k.length = 32) (hb : c.length < 2 ^ 32) (hc : Byt c) (h : Sd16.open_ k n c seen = some b) : b.length + 16 = c.length ∧ Byt b := by
  unfold Sd16.open_ Ql09.open_ at h
  split at h
  · cases h
  · simp only [] at h
    split at h
    · have e := (Option.some.inj h).symm
      subst e
      have hl : (c.take (c.length - 16)).length < 2 ^ 32 := by rw [List.length_take]; omega
      refine ⟨?_, stream_byt hk (once_byt n) h1 (once_len n) hl (hc.take _)⟩
      rw [stream_len hk (once_byt n) h1 (once_len n) hl, List.length_take]; omega
    · cases h
end Tw
namespace Tw
open Sd16 (number little)
open Sz09 (Pair ladder neg)
abbrev PZ : Int := 57896044618658097711785492504343953926634992332820282019728792003956564819949
theorem P_eq : Sz09.P = 57896044618658097711785492504343953926634992332820282019728792003956564819949 := by decide
theorem PZ_eq : ((Sz09.P : Nat) : Int) = PZ := by rw [P_eq]; rfl
theorem P_pos : 0 < Sz09.P := by rw [P_eq]; decide
def C (x y : Int) : Prop := x % PZ = y % PZ
theorem C.refl (x : Int) : C x x := rfl
theorem C.symm {x y : Int} (h : C x y) : C y x := Eq.symm h
theorem C.trans {x y z : Int} (h : C x y) (k : C y z) : C x z := Eq.trans h k
theorem C.add {x y z w : Int} (h : C x y) (k : C z w) : C (x + z) (y + w) := by
  unfold C at *; rw [Int.add_emod, h, k, ← Int.add_emod]
theorem C.sub {x y z w : Int} (h : C x y) (k : C z w) : C (x - z) (y - w) := by
  unfold C at *; rw [Int.sub_emod, h, k, ← Int.sub_emod]
theorem C.mul {x y z w : Int} (h : C x y) (k : C z w) : C (x * z) (y * w) := by
  unfold C at *; rw [Int.mul_emod, h, k, ← Int.mul_emod]
theorem C.ml (x : Int) : C (x % PZ) x := Int.emod_emod_of_dvd x (Int.dvd_refl _)
theorem C.modr {x y : Int} (h : C x y) : C x (y % PZ) := h.trans (C.ml y).symm
theorem cast_mod {n : Nat} {z : Int} (h : C (n : Int) z) : ((n % Sz09.P : Nat) : Int) = z % PZ := by
  rw [Int.natCast_emod, PZ_eq]; exact h
theorem C.cm {n : Nat} {z : Int} (h : C (n : Int) z) : C ((n % Sz09.P : Nat) : Int) z := by
  rw [cast_mod h]; exact C.ml z
theorem C.ng (b : Nat) : C ((Sz09.neg b : Nat) : Int) (-(b : Int)) := by
  unfold Sz09.neg
  apply C.cm
  have hb : b % Sz09.P ≤ Sz09.P := Nat.le_of_lt (Nat.mod_lt _ P_pos)
  rw [Int.natCast_sub hb, PZ_eq, Int.natCast_emod, PZ_eq]
  have h1 : C (PZ - (b : Int) % PZ) (0 - (b : Int)) := C.sub (by unfold C; decide) (C.ml _)
  rw [Int.zero_sub] at h1
  exact h1
theorem C.addneg {a b : Nat} {x y : Int} (h : C (a : Int) x) (k : C (b : Int) y) : C (((a + neg b : Nat)) : Int) (x - y) := by
  rw [Int.natCast_add]
  have h2 : C ((neg b : Nat) : Int) (0 - y) := (C.ng b).trans (by
    have := C.sub (C.refl 0) k
    rw [Int.zero_sub] at this
    exact this)
  have := C.add h h2
  rw [show x + (0 - y) = x - y by omega] at this
  exact this
structure Quad where
  a : Int
  b : Int
  c : Int
  d : Int
def stepZ (u : Int) (s : Quad) : Quad :=
  let A := s.a + s.b
  let B := s.a - s.b
  let da := (s.c - s.d) * A % PZ
  let cb := (s.c + s.d) * B % PZ
  let aa := A * A % PZ
  let bb := B * B % PZ
  let e := aa - bb
  ⟨aa * bb % PZ, e * (aa + 121665 * e) % PZ, (da + cb) * (da + cb) % PZ, u * ((da - cb) * (da - cb) % PZ) % PZ⟩
def quadOf (s : Pair) : Quad := ⟨s.a, s.b, s.c, s.d⟩
theorem step_eq (u : Nat) (s : Pair) : quadOf (s.step u) = stepZ u (quadOf s) := by
  obtain ⟨a, b, c, d⟩ := s
  have hp : C (((a + b) % Sz09.P : Nat) : Int) ((a : Int) + b) := C.cm (by rw [Int.natCast_add]; exact C.refl _)
  have hq : C (((a + neg b) % Sz09.P : Nat) : Int) ((a : Int) - b) := C.cm (C.addneg (C.refl _) (C.refl _))
  generalize hpp : (a + b) % Sz09.P = p at hp
  generalize hqq : (a + neg b) % Sz09.P = q at hq
  have hA : C (((p * p : Nat)) : Int) (((a : Int) + b) * (a + b) % PZ) := by rw [Int.natCast_mul]; exact (hp.mul hp).modr
  have hB : C (((q * q : Nat)) : Int) (((a : Int) - b) * (a - b) % PZ) := by rw [Int.natCast_mul]; exact (hq.mul hq).modr
  have hx : C ((((c + neg d) % Sz09.P * p % Sz09.P : Nat)) : Int) (((c : Int) - d) * (a + b) % PZ) := by
    refine C.cm ?_
    rw [Int.natCast_mul]
    exact ((C.cm (C.addneg (C.refl _) (C.refl _))).mul hp).modr
  have hy : C ((((c + d) % Sz09.P * q % Sz09.P : Nat)) : Int) (((c : Int) + d) * (a - b) % PZ) := by
    refine C.cm ?_
    rw [Int.natCast_mul]
    refine (C.mul (C.cm ?_) hq).modr
    rw [Int.natCast_add]; exact C.refl _
  generalize hxx : (c + neg d) % Sz09.P * p % Sz09.P = x at hx
  generalize hyy : (c + d) % Sz09.P * q % Sz09.P = y at hy
  have he : C ((((p * p + neg (q * q)) % Sz09.P : Nat)) : Int) (((a : Int) + b) * (a + b) % PZ - ((a : Int) - b) * (a - b) % PZ) := C.cm (C.addneg hA hB)
  generalize hee : (p * p + neg (q * q)) % Sz09.P = e at he
  simp only [Pair.step, quadOf, stepZ, hpp, hqq, hxx, hyy, hee]
  congr 1
  · refine cast_mod ?_
    rw [Int.natCast_mul]
    refine C.mul (C.cm hA) hB
  · refine cast_mod ?_
    rw [Int.natCast_mul, Int.natCast_add]
    refine he.mul (C.add hA ?_)
    rw [Int.natCast_mul]
    exact C.mul (C.refl _) he
  · refine cast_mod ?_
    rw [Int.natCast_mul, Int.natCast_add]
    exact (hx.add hy).mul (hx.add hy)
  · refine cast_mod ?_
    rw [Int.natCast_mul]
    refine C.mul (C.refl _) (C.modr (C.cm ?_))
    rw [Int.natCast_mul]
    exact (C.addneg hx hy).mul (C.addneg hx hy)
theorem step_lt (u : Nat) (s : Pair) : (s.step u).a < Sz09.P ∧ (s.step u).b < Sz09.P ∧ (s.step u).c < Sz09.P ∧ (s.step u).d < Sz09.P :=
  ⟨Nat.mod_lt _ P_pos, Nat.mod_lt _ P_pos, Nat.mod_lt _ P_pos, Nat.mod_lt _ P_pos⟩
def PairLt (s : Pair) : Prop := s.a < Sz09.P ∧ s.b < Sz09.P ∧ s.c < Sz09.P ∧ s.d < Sz09.P
theorem swap_swap (s : Pair) : s.swap.swap = s := rfl
def cur (sw : Nat) (s : Pair) : Pair := if sw = 1 then s.swap else s
structure LadInv (u n : Nat) (i sw : Nat) (c : Pair) : Prop where
  le : i ≤ 255
  bt : sw = 0 ∨ sw = 1
  lt : PairLt c
  eq : ladder u n 255 ⟨1, 0, u, 1⟩ = ladder u n (255 - i) (cur sw c)
  last : 0 < i → sw = n / 2 ^ (255 - i) % 2
theorem one_lt : 1 < Sz09.P := by rw [P_eq]; decide
theorem LadInv.start {u n : Nat} (hu : u < Sz09.P) : LadInv u n 0 0 ⟨1, 0, u, 1⟩ :=
  ⟨by omega, .inl rfl, ⟨one_lt, P_pos, hu, one_lt⟩, rfl, fun h => by omega⟩
def curB (bit sw : Nat) (c : Pair) : Pair := if bit ≠ sw then c.swap else c
theorem LadInv.turn {u n i sw : Nat} {c : Pair} (I : LadInv u n i sw c) (h : i < 255) :
    LadInv u n (i + 1) (n / 2 ^ (254 - i) % 2) ((curB (n / 2 ^ (254 - i) % 2) sw c).step u) := by
  have hb : n / 2 ^ (254 - i) % 2 = 0 ∨ n / 2 ^ (254 - i) % 2 = 1 := by omega
  refine ⟨by omega, hb, step_lt _ _, ?_, fun _ => by rw [show 255 - (i + 1) = 254 - i by omega]⟩
  rw [I.eq, show 255 - i = (254 - i) + 1 by omega, ladder, show 255 - (i + 1) = 254 - i by omega]
  congr 1
  have ht : n.testBit (254 - i) = decide (n / 2 ^ (254 - i) % 2 = 1) := Nat.testBit_eq_decide_div_mod_eq
  rcases hb with hb | hb <;> rcases I.bt with hs | hs <;> subst hs <;> simp [ht, hb, cur, curB, swap_swap]
theorem LadInv.done {u n sw : Nat} {c : Pair} (I : LadInv u n 255 sw c) (h : n % 2 = 0) : ladder u n 255 ⟨1, 0, u, 1⟩ = c := by
  have e := I.last (by omega)
  rw [show 255 - 255 = 0 by omega, Nat.pow_zero, Nat.div_one, h] at e
  rw [I.eq, e]
  rfl
theorem pow_eq : ∀ (k n a : Nat), n < 2 ^ k → Sz09.pow a k n % Sz09.P = a ^ n % Sz09.P
  | 0, n, a, h => by
    have e : n = 0 := by simpa using h
    subst e; rfl
  | k + 1, n, a, h => by
    have h2 : n / 2 < 2 ^ k := by rw [Nat.pow_succ] at h; omega
    have ih := pow_eq k (n / 2) (a * a % Sz09.P) h2
    have e2 : (a * a % Sz09.P) ^ (n / 2) % Sz09.P = a ^ (2 * (n / 2)) % Sz09.P := by
      rw [← Nat.pow_mod, Nat.pow_mul, Nat.pow_two]
    unfold Sz09.pow
    split
    · rename_i ho
      rw [Nat.mod_mod, Nat.mul_mod, ih, e2, ← Nat.mul_mod]
      congr 1
      conv => rhs; rw [show n = 2 * (n / 2) + 1 by omega, Nat.pow_succ, Nat.mul_comm]
    · rename_i ho
      rw [ih, e2, show 2 * (n / 2) = n by omega]
theorem inv_eq (a : Nat) (h : a < Sz09.P) : Sz09.inv a = a ^ (Sz09.P - 2) % Sz09.P := by
  have hb : Sz09.P - 2 < 2 ^ 255 := by rw [P_eq]; decide
  have ho : (Sz09.P - 2) % 2 = 1 := by rw [P_eq]
  have hm : Sz09.inv a = Sz09.inv a % Sz09.P := by
    unfold Sz09.inv
    show Sz09.pow (a % Sz09.P) (254 + 1) (Sz09.P - 2) = Sz09.pow (a % Sz09.P) (254 + 1) (Sz09.P - 2) % Sz09.P
    unfold Sz09.pow
    rw [if_pos ho, Nat.mod_mod]
  rw [hm]
  unfold Sz09.inv
  rw [pow_eq _ _ _ hb, Nat.mod_eq_of_lt h]
theorem inv_turn {v e k : Nat} : (if e / 2 ^ k % 2 = 1 then (v ^ (e / 2 ^ (k + 1)) % Sz09.P * (v ^ (e / 2 ^ (k + 1)) % Sz09.P) % Sz09.P) * v % Sz09.P
    else v ^ (e / 2 ^ (k + 1)) % Sz09.P * (v ^ (e / 2 ^ (k + 1)) % Sz09.P) % Sz09.P) = v ^ (e / 2 ^ k) % Sz09.P := by
  have e1 : e / 2 ^ (k + 1) = e / 2 ^ k / 2 := by rw [Nat.pow_succ, Nat.div_div_eq_div_mul]
  rw [e1]
  generalize e / 2 ^ k = n
  have e2 : v ^ (n / 2) % Sz09.P * (v ^ (n / 2) % Sz09.P) % Sz09.P = v ^ (2 * (n / 2)) % Sz09.P := by
    rw [← Nat.mul_mod, ← Nat.pow_add, ← Nat.two_mul]
  rw [e2]
  split
  · rename_i h
    rw [Nat.mod_mul_mod, ← Nat.pow_succ, show (2 * (n / 2)).succ = n by omega]
  · rename_i h
    rw [show 2 * (n / 2) = n by omega]
theorem low_eq : ∀ {l : List Nat}, Byt l → Sz09.low (l.map UInt8.ofNat) = number l
  | [], _ => rfl
  | c :: l, h => by
    have h1 : c < 256 := h c (by simp)
    have h2 := low_eq (l := l) fun x m => h x (by simp [m])
    rw [List.map_cons, Sz09.low, h2, number_cons]
    have e : (UInt8.ofNat c).toNat = c := by simp; omega
    rw [e]
theorem toLow_eq : ∀ (k n : Nat), (Sz09.toLow n k).map UInt8.toNat = little k n
  | 0, n => rfl
  | k + 1, n => by
    rw [Sz09.toLow, List.map_cons, toLow_eq k, little_succ]
    congr 1
    simp
def scalarN (k : List Nat) : Nat := number k % 2 ^ 255 / 8 * 8 % 2 ^ 254 + 2 ^ 254
theorem scalar_eq {k : List Nat} (h : Byt k) (hl : k.length = 32) : Sz09.secret (k.map UInt8.ofNat) = scalarN k := by
  unfold Sz09.secret scalarN
  rw [List.take_of_length_le (by rw [List.length_map, hl]; exact Nat.le_refl _), low_eq h]
theorem scalar_even (k : List Nat) : scalarN k % 2 = 0 := by
  unfold scalarN
  have : (2 : Nat) ^ 254 = 2 * 2 ^ 253 := by rw [← Nat.pow_succ']
  omega
theorem scalar_or {m : Nat} (h : m < 2 ^ 255) : (m - m % 8) ||| 2 ^ 254 = m / 8 * 8 % 2 ^ 254 + 2 ^ 254 := by
  have e : m - m % 8 = m / 8 * 8 := by omega
  rw [e]
  generalize hn : m / 8 * 8 = n
  have hn2 : n < 2 ^ 255 := by omega
  have p : (2 : Nat) ^ 255 = 2 * 2 ^ 254 := by rw [← Nat.pow_succ']
  have hr : n % 2 ^ 254 < 2 ^ 254 := Nat.mod_lt _ (Nat.two_pow_pos _)
  have e1 : n % 2 ^ 254 + 2 ^ 254 = 2 ^ 254 ||| n % 2 ^ 254 := by
    have := Nat.two_pow_add_eq_or_of_lt hr 1
    rw [Nat.mul_one] at this
    omega
  rw [e1]
  by_cases q : n < 2 ^ 254
  · rw [Nat.mod_eq_of_lt q, Nat.or_comm]
  · have e2 : n = 2 ^ 254 + n % 2 ^ 254 := by
      have : n / 2 ^ 254 = 1 := by omega
      have := Nat.div_add_mod n (2 ^ 254)
      omega
    have e3 : n = 2 ^ 254 ||| n % 2 ^ 254 := by omega
    rw [e3, Nat.or_comm, ← Nat.or_assoc, Nat.or_self, ← e3]
    exact e3
def mulN (n u : Nat) : Nat := (ladder u n 255 ⟨1, 0, u, 1⟩).a * Sz09.inv (ladder u n 255 ⟨1, 0, u, 1⟩).b % Sz09.P
theorem agree_eq {k u : List Nat} (hk : Byt k) (hu : Byt u) (lk : k.length = 32) (lu : u.length = 32) :
    Sd16.agree k u = little 32 (mulN (scalarN k) (number u % 2 ^ 255 % Sz09.P)) := by
  unfold Sd16.agree Sz09.agree
  simp only []
  rw [toLow_eq, scalar_eq hk lk, List.take_of_length_le (by rw [List.length_map, lu]; exact Nat.le_refl _), low_eq hu]
  rfl
theorem agree_len (k u : List Nat) : (Sd16.agree k u).length = 32 := by
  unfold Sd16.agree Sz09.agree
  simp only []
  rw [toLow_eq, little_length]
theorem agree_byt (k u : List Nat) : Byt (Sd16.agree k u) := by
  unfold Sd16.agree Sz09.agree
  simp only []
  rw [toLow_eq]; exact little_byt _ _
theorem nine_eq : Sd16.NINE = little 32 9 := by decide
theorem nothing_iff (b : List Nat) : Sd16.nothing b = decide (b = List.replicate b.length 0) := by
  unfold Sd16.nothing
  induction b with
  | nil => rfl
  | cons a b ih =>
    rw [List.all_cons, ih, List.length_cons, List.replicate_succ]
    by_cases h : a = 0
    · subst h; simp
    · simp [h]
end Tw
namespace L2
open PySem PySem.Spec PyProof.Rows
section
variable {X : Cx}
theorem bits_of_lt {k : Int} {n : Nat} (h : k.natAbs < 2 ^ n) : Builtin.Int.intBits k ≤ n := by
  unfold Builtin.Int.intBits
  split
  · exact Nat.zero_le _
  · rename_i h0
    have hn : k.natAbs ≠ 0 := by
      intro z
      apply h0
      have : k = 0 := by omega
      subst this; rfl
    have := (Nat.log2_lt hn).mpr h
    omega
def CMulB (i j : Int) : Prop := i.natAbs < 2 ^ 1000 ∧ j.natAbs < 2 ^ 1000
theorem op_mulB : OpR X (binaryOp .Mult) (rI CMulB fun i j => .int (i * j)) := opI fun _ _ _ _ _ _ _ hc q =>
  mul_int q (.of_bits (Nat.le_trans (bits_of_lt hc.1) (by decide)) (Nat.le_trans (bits_of_lt hc.2) (by decide)))
theorem pe_const {x : Str} {v : V} {pos : Pos} (hg : Gl X x) (hm : ∃ u, X.mg x = some u ∧ RelV v u) (hd : (x == ("__debug__" : Str)) = false := by decide) : PE X (.Name x pos) (tC v) := by
  obtain ⟨u, h1, h2⟩ := hm
  exact pe_glob hg h1 h2 hd
def tFldA (C : Addr) (ta : TE) (f : Str) : TE := fun σ H Q => ta σ H fun x H1 => ∃ a dx fs v, x = .ref a ∧ H1 a = some (.ins C dx fs) ∧ fs.lookup f = some v ∧ Q v H1
theorem pe_fldA {C : Addr} {e : Expr} {f : Str} {pos : Pos} {ta : TE} (he : PE X e ta) (hb : attributeBase e f X.env (eval e X.env) = eval e X.env) (cl : Cls X.K C) (na : NoAttr X.K C f) : PE X (.Attribute e f pos) (tFldA C ta f) := by
  intro pins s σ H Q I h
  refine attr_of hb (thn (he pins s σ H _ I h) fun u s1 ⟨x, H1, I1, rx, a, dx, fs, v, ex, ea, l, q⟩ => ?_)
  subst ex
  obtain rfl : u = Value.ref a := rx
  exact getattr_ok I1 ea cl na l fun u' s2 I2 ru => ⟨v, H1, I2, ru, q⟩
def sFldA (C : Addr) (ta tv : TE) (f : Str) : TS := fun D σ H => tv σ H fun y H1 => ta σ H1 fun x H2 => ∃ a dx fs, x = .ref a ∧ H2 a = some (.ins C dx fs) ∧ fs.length < 1000 ∧ D.nx σ (upd H2 a (.ins C dx (putF f y fs)))
theorem ps_fldA {C : Addr} {o value : Expr} {f : Str} {pos pos' : Pos} {ta tv : TE} (ha : PE X o ta) (hv : PE X value tv) (hs : swapsWith value (some (.Attribute o f pos')) pos.line X.env = pure false) (cl : Cls X.K C) (na : NoAttr X.K C f) :
    PS X (.Assign [.Attribute o f pos'] value pos) (sFldA C ta tv f) := by
  intro pins s σ H D I h
  refine plainObj_wpAny_Assign_Attribute (thn (hv pins s σ H _ I h) fun u s1 ⟨y, H1, I1, ry, q⟩ => thn (ha pins s1 σ H1 _ I1 q) fun ov s2 ⟨x, H2, I2, rx, a, dx, fs, ex, ea, l, q2⟩ => ?_) hs
  subst ex
  obtain rfl : ov = Value.ref a := rx
  exact setattr_ok I2 ea cl na l ry fun s3 I3 => ⟨σ, _, I3, q2⟩
theorem bt_list : bootBuiltins "list" = some (.type "list") := by decide +kernel
theorem bt_ord : bootBuiltins "ord" = some (.builtin "ord") := by decide +kernel
theorem bt_max : bootBuiltins "max" = some (.builtin "max") := by decide +kernel
theorem un_of {A : Around} {k : Nat} (hr : Room k A) : A.units + 64 < cLine := by have := hr.un; omega
theorem un0_of {A : Around} {k : Nat} (hr : Room k A) : A.units < cLine := by have := hr.un; omega
end
theorem for_enum {K : PySem.W.Frag} {a : Addr} {xs : List V} {g : TG} {tb : TS} {D : Ends} {σ : St} {H : Hp} (Pv : Nat → St → Hp → Prop) (h0 : Pv 0 σ H) (hl : ∀ i σ H, i ≤ xs.length → Pv i σ H → SqL K H a xs)
    (hs : ∀ i x σ H T, xs[i]? = some x → Pv i σ H → H T = none → g (.ref T) σ (upd H T (.tup [.int (i : Nat), x])) fun σ2 H2 => tb { D with nx := Pv (i + 1), ct := Pv (i + 1), bk := D.nx } σ2 H2) (hd : ∀ σ H, Pv xs.length σ H → D.nx σ H) :
    ∃ W : Nat → Nat → St → Hp → Prop, (∃ m, W 0 m σ H) ∧ ∀ i m σ H, W i m σ H →
      ((Ite K a).stop i H ∧ D.nx σ H) ∨ ((Ite K a).go i H ∧ ∃ N : St → Hp → Prop, (∀ σ' H', N σ' H' → ∃ m', m' < m ∧ W (i + 1) m' σ' H') ∧ ∀ x H', (Ite K a).yld i H x H' → g x σ H' fun σ2 H2 => tb { D with nx := N, ct := N, bk := D.nx } σ2 H2) := by
  refine ⟨fun i m σ H => m = xs.length - i ∧ i ≤ xs.length ∧ Pv i σ H, ⟨xs.length, by simp, Nat.zero_le _, h0⟩, ?_⟩
  rintro i m σ H ⟨rfl, hi, p⟩
  have q := hl i σ H hi p
  by_cases hlt : i < xs.length
  · refine .inr ⟨⟨xs, xs[i], q, by simp [hlt]⟩, Pv (i + 1), fun σ' H' p' => ⟨xs.length - (i + 1), by omega, rfl, hlt, p'⟩, fun x H' y => ?_⟩
    obtain ⟨T, x', rfl, hT, rfl, y⟩ := y
    exact hs i x' σ _ T (y xs q) p hT
  · have e : i = xs.length := by omega
    subst e
    exact .inl ⟨⟨xs, q, Nat.le_refl _⟩, hd σ H p⟩
theorem for_zip {K : PySem.W.Frag} {a b : Addr} {xs ys : List V} {n : Nat} {g : TG} {tb : TS} {D : Ends} {σ : St} {H : Hp} (hn : n = min xs.length ys.length) (Pv : Nat → St → Hp → Prop) (h0 : Pv 0 σ H) (hl : ∀ i σ H, i ≤ n → Pv i σ H → SqL K H a xs ∧ SqL K H b ys)
    (hs : ∀ i x y σ H T, xs[i]? = some x → ys[i]? = some y → Pv i σ H → H T = none → g (.ref T) σ (upd H T (.tup [x, y])) fun σ2 H2 => tb { D with nx := Pv (i + 1), ct := Pv (i + 1), bk := D.nx } σ2 H2) (hd : ∀ σ H, Pv n σ H → D.nx σ H) :
    ∃ W : Nat → Nat → St → Hp → Prop, (∃ m, W 0 m σ H) ∧ ∀ i m σ H, W i m σ H →
      ((Itz K a b).stop i H ∧ D.nx σ H) ∨ ((Itz K a b).go i H ∧ ∃ N : St → Hp → Prop, (∀ σ' H', N σ' H' → ∃ m', m' < m ∧ W (i + 1) m' σ' H') ∧ ∀ x H', (Itz K a b).yld i H x H' → g x σ H' fun σ2 H2 => tb { D with nx := N, ct := N, bk := D.nx } σ2 H2) := by
  refine ⟨fun i m σ H => m = n - i ∧ i ≤ n ∧ Pv i σ H, ⟨n, by simp, Nat.zero_le _, h0⟩, ?_⟩
  rintro i m σ H ⟨rfl, hi, p⟩
  obtain ⟨q1, q2⟩ := hl i σ H hi p
  by_cases hlt : i < n
  · have l1 : i < xs.length := by omega
    have l2 : i < ys.length := by omega
    refine .inr ⟨⟨xs, ys, xs[i], ys[i], q1, q2, by simp [l1], by simp [l2]⟩, Pv (i + 1), fun σ' H' p' => ⟨n - (i + 1), by omega, rfl, hlt, p'⟩, fun x H' y => ?_⟩
    obtain ⟨T, x', y', rfl, hT, rfl, y1, y2⟩ := y
    exact hs i x' y' σ _ T (y1 xs q1) (y2 ys q2) p hT
  · have e : i = n := by omega
    subst e
    exact .inl ⟨⟨xs, ys, q1, q2, by omega⟩, hd σ H p⟩
theorem lc_zip {K : PySem.W.Frag} {a b : Addr} {xs ys : List V} {n : Nat} {g : TG} {tt : TT} {te : TE} {vs : List Nat} {σ : St} {H1 : Hp} {D : Addr} {Qd : Hp → Prop} (hn : n = min xs.length ys.length) (Pv : Nat → Hp → Prop) (h0 : Pv 0 (upd H1 D (.lst []))) (hl : ∀ i H, i ≤ n → Pv i H → SqL K H a xs ∧ SqL K H b ys)
    (hs : ∀ i x y H T, xs[i]? = some x → ys[i]? = some y → Pv i H → H T = none → g (.ref T) (wipe σ vs) (upd H T (.tup [x, y])) fun σ2 H2 => wipe σ2 vs = wipe σ vs ∧ tt σ2 H2 fun b H3 =>
      if b = true then te σ2 H3 fun y H4 => ∃ acc, H4 D = some (.lst acc) ∧ acc.length < sizeLine ∧ Pv (i + 1) (upd H4 D (.lst (acc ++ [y]))) else Pv (i + 1) H3) (hd : ∀ H, Pv n H → Qd H) :
    ∃ W : Nat → Nat → Hp → Prop, (∃ m, W 0 m (upd H1 D (.lst []))) ∧ ∀ i m H, W i m H →
      ((Itz K a b).stop i H ∧ Qd H) ∨ ((Itz K a b).go i H ∧ ∃ Nx : Hp → Prop, (∀ H', Nx H' → ∃ m', m' < m ∧ W (i + 1) m' H') ∧ ∀ x H', (Itz K a b).yld i H x H' → g x (wipe σ vs) H' fun σ2 H2 => wipe σ2 vs = wipe σ vs ∧ tt σ2 H2 fun b H3 =>
        if b = true then te σ2 H3 fun y H4 => ∃ acc, H4 D = some (.lst acc) ∧ acc.length < sizeLine ∧ Nx (upd H4 D (.lst (acc ++ [y]))) else Nx H3) := by
  refine ⟨fun i m H => m = n - i ∧ i ≤ n ∧ Pv i H, ⟨n, by simp, Nat.zero_le _, h0⟩, ?_⟩
  rintro i m H ⟨rfl, hi, p⟩
  obtain ⟨q1, q2⟩ := hl i H hi p
  by_cases hlt : i < n
  · have l1 : i < xs.length := by omega
    have l2 : i < ys.length := by omega
    refine .inr ⟨⟨xs, ys, xs[i], ys[i], q1, q2, by simp [l1], by simp [l2]⟩, Pv (i + 1), fun H' p' => ⟨n - (i + 1), by omega, rfl, hlt, p'⟩, fun x H' y => ?_⟩
    obtain ⟨T, x', y', rfl, hT, rfl, y1, y2⟩ := y
    exact hs i x' y' _ T (y1 xs q1) (y2 ys q2) p hT
  · have e : i = n := by omega
    subst e
    exact .inl ⟨⟨xs, ys, q1, q2, by omega⟩, hd H p⟩
theorem lc_str {x : Str} {g : TG} {tt : TT} {te : TE} {vs : List Nat} {σ : St} {H1 : Hp} {D : Addr} {Qd : Hp → Prop} (Pv : Nat → Hp → Prop) (h0 : Pv 0 (upd H1 D (.lst [])))
    (hs : ∀ i c H, x.cps.toList[i]? = some c → Pv i H → g (.str ⟨#[c]⟩) (wipe σ vs) H fun σ2 H2 => wipe σ2 vs = wipe σ vs ∧ tt σ2 H2 fun b H3 =>
      if b = true then te σ2 H3 fun y H4 => ∃ acc, H4 D = some (.lst acc) ∧ acc.length < sizeLine ∧ Pv (i + 1) (upd H4 D (.lst (acc ++ [y]))) else Pv (i + 1) H3) (hd : ∀ H, Pv x.cps.toList.length H → Qd H) :
    ∃ W : Nat → Nat → Hp → Prop, (∃ m, W 0 m (upd H1 D (.lst []))) ∧ ∀ i m H, W i m H →
      ((Its x).stop i H ∧ Qd H) ∨ ((Its x).go i H ∧ ∃ Nx : Hp → Prop, (∀ H', Nx H' → ∃ m', m' < m ∧ W (i + 1) m' H') ∧ ∀ y H', (Its x).yld i H y H' → g y (wipe σ vs) H' fun σ2 H2 => wipe σ2 vs = wipe σ vs ∧ tt σ2 H2 fun b H3 =>
        if b = true then te σ2 H3 fun y H4 => ∃ acc, H4 D = some (.lst acc) ∧ acc.length < sizeLine ∧ Nx (upd H4 D (.lst (acc ++ [y]))) else Nx H3) := by
  have el : x.cps.toList.length = x.cps.size := by simp
  refine ⟨fun i m H => m = x.cps.size - i ∧ i ≤ x.cps.size ∧ Pv i H, ⟨x.cps.size, by simp, Nat.zero_le _, h0⟩, ?_⟩
  rintro i m H ⟨rfl, hi, p⟩
  by_cases hlt : i < x.cps.size
  · refine .inr ⟨hlt, Pv (i + 1), fun H' p' => ⟨x.cps.size - (i + 1), by omega, rfl, hlt, p'⟩, fun y H' q => ?_⟩
    obtain ⟨rfl, c, hc, rfl⟩ := q
    exact hs i c _ (by simpa using hc) p
  · have e : i = x.cps.toList.length := by omega
    exact .inl ⟨(show x.cps.size ≤ i by omega), hd H (e ▸ p)⟩
end L2
namespace HT
open PySem PyProof.Rows
def lexGt : List Int → List Int → Bool
  | x :: xs, y :: ys => if x = y then lexGt xs ys else decide (y < x)
  | _, _ => false
theorem rcGt_int (A : Around) (s : Shared) (a : Int) (t : Tok) (c : Int) (u : Tok) (prog : Program) (w : World) (E : Value → Shared → Prop) (Q : Value → Shared → Prop) (h : Q (.bool (decide (c < a))) s) :
    wpAny (model prog w) A (richCompare .Gt (.int a t) (.int c u)) Q E s :=
  (PyProof.Rows.gt_int h : wpAny (model prog w) A (compareOp .Gt (.int a t) (.int c u)) Q E s)
section
open PySem.SeqAt
open PySem.AutoSeq1 (wpAny_loadPart')
open PySem.MeetsSeq PySem.MeetsSeq2 PySem.MeetsSeq3
theorem ints_get {vs : List Value} {ns : List Int} (h : IntsAre vs ns) : ∀ {i : Nat} {v : Value}, vs[i]? = some v → ∃ n t, ns[i]? = some n ∧ v = .int n t := by
  induction h with
  | nil => intro i v e; simp at e
  | cons n t h ih =>
    intro i v e
    cases i with
    | zero => exact ⟨n, t, rfl, by simpa using e.symm⟩
    | succ i => simpa using ih (by simpa using e)
theorem gt_loop (l b : Addr) (items items2 : Array Value) (n n2 : Nat) (dd dd2 : Option Addr) (sl sl2 : Array (Option Value)) (ns ms : List Int) (hi : IntsAre items.toList ns) (hj : IntsAre items2.toList ms) (hsz : items.size = items2.size) (k : Nat) :
    ∀ i : Nat, items.size - i = k → Meets (Builtin.«list.__eq__.loop» ⟨[.ref l, .ref b, rawInt i, rawInt 4], []⟩)
      (fun A R s => s.heap.get? l = some { cls := .type "list", dict := dd, data := .seq items n, slots := sl } ∧ s.heap.get? b = some { cls := .type "list", dict := dd2, data := .seq items2 n2, slots := sl2 } ∧
        R (.ok (.ret (.bool (lexGt (ns.drop i) (ms.drop i))))) s) := by
  have z1 : items.size = ns.length := by rw [← hi.length]; simp
  have z2 : items2.size = ms.length := by rw [← hj.length]; simp
  induction k with
  | zero =>
    intro i hk prog w A R s h
    obtain ⟨hp, g, d, tk, os⟩ := s; obtain ⟨hl, hb, h⟩ := h
    wp_walk using wpAny_loadPart' hl, wpAny_loadPart' hb
    have hi1 : items[((i : Nat) : Int).toNat]? = none := by simp; omega
    have hi2 : items2[((i : Nat) : Int).toNat]? = none := by simp; omega
    have hd : ns.drop i = [] := by simp; omega
    rw [hd] at h
    rw [hi1, hi2]
    wp_walk using wpAny_loadPart' hl, wpAny_loadPart' hb
    show R (.ok (.ret (.bool (decide (items.size > items2.size))))) _
    rw [hsz]
    simpa [lexGt] using h
  | succ k ih =>
    intro i hk prog w A R s h
    obtain ⟨hp, g, d, tk, os⟩ := s; obtain ⟨hl, hb, h⟩ := h
    wp_walk using wpAny_loadPart' hl, wpAny_loadPart' hb
    have hlt : i < items.size := by omega
    have hlt2 : i < items2.size := by omega
    have hi1 : items[((i : Nat) : Int).toNat]? = some items[i] := by simp [hlt]
    have hi2 : items2[((i : Nat) : Int).toNat]? = some items2[i] := by simp [hlt2]
    obtain ⟨x, t, ex, e1⟩ := ints_get hi (i := i) (v := items[i]) (by simp [hlt])
    obtain ⟨y, u, ey, e2⟩ := ints_get hj (i := i) (v := items2[i]) (by simp [hlt2])
    have hn1 : i < ns.length := by omega
    have hn2 : i < ms.length := by omega
    have d1 : ns.drop i = x :: ns.drop (i + 1) := by
      rw [List.drop_eq_getElem_cons hn1]
      rw [List.getElem?_eq_getElem hn1] at ex
      rw [Option.some.inj ex]
    have d2 : ms.drop i = y :: ms.drop (i + 1) := by
      rw [List.drop_eq_getElem_cons hn2]
      rw [List.getElem?_eq_getElem hn2] at ey
      rw [Option.some.inj ey]
    have hc : ((i : Int) + 1) = ((i + 1 : Nat) : Int) := by push_cast; rfl
    rw [d1, d2, lexGt] at h
    rw [hi1, hi2, e1, e2]
    obtain ⟨e, he, hiff⟩ := eqAt_int A.in1 ⟨hp, g, d, tk, os⟩ x t y u
    refine wpAny_bind (he prog w _ _ ?_)
    cases e with
    | true =>
      rw [if_pos (hiff.mp rfl)] at h
      wp_walk
      rw [hc]
      exact ⟨plainId_quiet plain_eq_loop _, codeAny_builtin entry_eq_loop (by
        rw [Around.under_plainId plain_eq_loop _]
        exact ih (i + 1) (by omega) prog w A R _ ⟨hl, hb, by simpa using h⟩)⟩
    | false =>
      rw [if_neg (fun q => absurd (hiff.mpr q) Bool.false_ne_true)] at h
      wp_walk using wpAny_loadPart' hl, wpAny_loadPart' hb
      rw [hi1, hi2, e1, e2]
      have hri := rcGt_int A.in1 ⟨hp, g, d, tk, os⟩ x t y u prog w
      wp_walk using hri
      simpa using h
theorem list_gt (l b : Addr) (items items2 : Array Value) (n n2 : Nat) (dd dd2 : Option Addr) (sl sl2 : Array (Option Value)) (ns ms : List Int) (hi : IntsAre items.toList ns) (hj : IntsAre items2.toList ms) (hsz : items.size = items2.size) :
    Meets (Builtin.«list.__gt__» ⟨[.ref l, .ref b], []⟩)
      (fun A R s => s.heap.get? l = some { cls := .type "list", dict := dd, data := .seq items n, slots := sl } ∧ s.heap.get? b = some { cls := .type "list", dict := dd2, data := .seq items2 n2, slots := sl2 } ∧
        R (.ok (.ret (.bool (lexGt ns ms)))) s) := by
  intro prog w A R s h
  obtain ⟨hp, g, d, tk, os⟩ := s; obtain ⟨hl, hb, h⟩ := h
  have f3 := AutoSeq1.sub_list_list
  wp_walk using wpAny_loadPart' hl, wpAny_loadPart' hb
  exact ⟨plainId_quiet plain_eq_loop _, codeAny_builtin entry_eq_loop (by
    rw [Around.under_plainId plain_eq_loop _]
    exact gt_loop l b items items2 n n2 dd dd2 sl sl2 ns ms hi hj hsz _ 0 rfl prog w A R _ ⟨hl, hb, by simpa using h⟩)⟩
end
section
variable {prog : Program} {w : World} {A : Around} {E : Value → Shared → Prop} {s : Shared}
theorem gt_listInts {l b : Addr} {items items2 : Array Value} {n n2 : Nat} {dd dd2 : Option Addr} {sl sl2 : Array (Option Value)} {ns ms : List Int} {Q : Value → Shared → Prop}
    (ho : s.heap.get? l = some { cls := .type "list", dict := dd, data := .seq items n, slots := sl }) (ho2 : s.heap.get? b = some { cls := .type "list", dict := dd2, data := .seq items2 n2, slots := sl2 })
    (hi : IntsAre items.toList ns) (hj : IntsAre items2.toList ms) (hsz : items.size = items2.size)
    (hu : A.units < cLine) (h : Q (.bool (lexGt ns ms)) s) : wpAny (model prog w) A (compareOp .Gt (.ref l) (.ref b)) Q E s :=
  richCompare_meets_room (op := .Gt) ⟨_, ho, rfl⟩ ⟨_, ho2, rfl⟩ PySem.F.slot_list_gt PySem.F.entry_list_gt (PySem.F.args_list_gt_2 _ _) (list_gt l b items items2 n n2 dd dd2 sl sl2 ns ms hi hj hsz)
    ⟨ho, ho2, show Value.bool (lexGt ns ms) ≠ Value.notImplemented ∧ Q (.bool (lexGt ns ms)) s from ⟨(fun x => nomatch x), h⟩⟩ hu
end
end HT
namespace L2
open PySem PySem.Spec PyProof.Rows
def rGtL : R2 := fun x y H Q => ∃ a b ns ms, x = .ref a ∧ y = .ref b ∧ H a = some (.lst (ns.map V.int)) ∧ H b = some (.lst (ms.map V.int)) ∧ ns.length = ms.length ∧ Q (.bl (HT.lexGt ns ms)) H
theorem op_gtL {X : Cx} (hu : X.A.units < cLine) : OpR X (compareOp .Gt) rGtL := by
  intro pins s σ H x y v u Q I rx ry h
  obtain ⟨a, b, ns, ms, rfl, rfl, ha, hb, hl, q⟩ := h
  obtain rfl : v = Value.ref a := rx
  obtain rfl : u = Value.ref b := ry
  obtain ⟨its, n, r1, e1, _⟩ := I.lst ha
  obtain ⟨its2, n2, r2, e2, _⟩ := I.lst hb
  have i1 : IntsAre its ns := intsAre_of r1
  have i2 : IntsAre its2 ms := intsAre_of r2
  refine HT.gt_listInts e1 e2 (ns := ns) (ms := ms) (by simpa using i1) (by simpa using i2) ?_ hu ⟨.bl (HT.lexGt ns ms), H, I, rfl, q⟩
  have z1 := i1.length
  have z2 := i2.length
  simp only [List.size_toArray]
  omega
end L2
namespace Tw
open PySem L2
def top (i : Nat) : Stmt := PySem.Challenge.pw_twoends_s01_answers.main.body.getD i (.Pass ⟨0, 0, 0, 0⟩)
abbrev bs (l : List Nat) : List V := l.map fun (n : Nat) => V.int (n : Int)
structure FnT (K : PySem.W.Frag) (mg : Str → Option Value) (x : Str) (st : Stmt) (f : Addr) (fd : FuncData) (ps : List Str) : Prop where
  fn : Fun K x x st f fd
  bd : Binds K fd ps []
  mg : mg x = some (.ref f)
theorem FnT.kp {K : PySem.W.Frag} {mg : Str → Option Value} {x : Str} {st : Stmt} {f : Addr} {fd : FuncData} {ps : List Str} (h : FnT K mg x st f fd ps) : PySem.W.keepIn K (.ref f) = true := h.fn.kp
structure MeT (K : PySem.W.Frag) (C : Addr) (x qual : Str) (st : Stmt) (f : Addr) (fd : FuncData) (ps : List Str) : Prop where
  fn : Fun K x qual st f fd
  bd : Binds K fd ps []
  mt : Meth K C x f
structure ClT (K : PySem.W.Frag) (mg : Str → Option Value) (x : Str) (C fi : Addr) (attrs : List Str) : Prop where
  cl : Cls K C
  mkc : Mk K C fi
  mg : mg x = some (.ref C)
  na : ∀ a ∈ attrs, NoAttr K C a
def CnT (mg : Str → Option Value) (x : Str) (v : V) : Prop := ∃ u, mg x = some u ∧ RelV v u
def TupT (K : PySem.W.Frag) (a : Addr) (ls : List (List Nat)) : Prop :=
  ∃ ts : List Addr, (∀ H, SqT K H a (ts.map V.ref)) ∧ ts.length = ls.length ∧ ∀ (i : Nat) (t : Addr) (l : List Nat), ts[i]? = some t → ls[i]? = some l → ∀ H, SqT K H t (bs l)
abbrev s_number_of : Stmt := top 1
abbrev s_octets_of : Stmt := top 2
abbrev s_words_of : Stmt := top 3
abbrev s_octets_of_text : Stmt := top 4
abbrev s_filled : Stmt := top 5
abbrev s_inverse : Stmt := top 12
abbrev s_scalar_of : Stmt := top 13
abbrev s_multiplied : Stmt := top 14
abbrev s_agreed : Stmt := top 15
abbrev s_public : Stmt := top 16
abbrev s_worth_nothing : Stmt := top 17
abbrev s_mix : Stmt := top 24
abbrev s_compressed : Stmt := top 25
abbrev s_blake : Stmt := top 26
abbrev s_digest : Stmt := top 27
abbrev s_mac : Stmt := top 28
abbrev s_head : Stmt := top 35
abbrev s_mark_of : Stmt := top 36
abbrev s_marked : Stmt := top 37
abbrev s_is_well_marked : Stmt := top 38
abbrev s_hmac : Stmt := top 40
abbrev s_drawn : Stmt := top 41
abbrev s_Mixer___init__ : Stmt := inClass (top 45) 0
abbrev s_Mixer_twin : Stmt := inClass (top 45) 1
abbrev s_Mixer_absorb : Stmt := inClass (top 45) 2
abbrev s_Mixer_stir : Stmt := inClass (top 45) 3
abbrev s_Mixer_stir_for_key : Stmt := inClass (top 45) 4
abbrev s_Mixer_stir_psk_for_key : Stmt := inClass (top 45) 5
abbrev s_mixer_towards : Stmt := top 46
abbrev s_quarter : Stmt := top 52
abbrev s_stream_block : Stmt := top 53
abbrev s_crypted : Stmt := top 54
abbrev s_poly_tag : Stmt := top 59
abbrev s_nonce_of : Stmt := top 62
abbrev s_tag_of : Stmt := top 63
abbrev s_seal : Stmt := top 64
abbrev s_unseal : Stmt := top 65
abbrev s_Handshake___init__ : Stmt := inClass (top 68) 0
abbrev s_Greeting___init__ : Stmt := inClass (top 69) 0
abbrev s_new_handshake : Stmt := top 70
abbrev s_first_message : Stmt := top 71
abbrev s_read_first : Stmt := top 72
abbrev s_Session___init__ : Stmt := inClass (top 78) 0
abbrev s_Session_is_used_up : Stmt := inClass (top 78) 1
abbrev s_Session_packet : Stmt := inClass (top 78) 2
abbrev s_Session_is_new : Stmt := inClass (top 78) 3
abbrev s_Session_accept : Stmt := inClass (top 78) 4
abbrev s_has_packet_form : Stmt := top 79
abbrev s_key_of_second : Stmt := top 82
abbrev s_second_message : Stmt := top 83
abbrev s_answering_session : Stmt := top 84
abbrev s_read_second : Stmt := top 85
abbrev s_End___init__ : Stmt := inClass (top 89) 0
abbrev s_End_begin : Stmt := inClass (top 89) 1
abbrev s_End_take : Stmt := inClass (top 89) 2
abbrev s_End_take_first : Stmt := inClass (top 89) 3
abbrev s_End_is_later : Stmt := inClass (top 89) 4
abbrev s_End_take_second : Stmt := inClass (top 89) 5
abbrev s_End_make_current : Stmt := inClass (top 89) 6
abbrev s_End_take_packet : Stmt := inClass (top 89) 7
abbrev s_End_send : Stmt := inClass (top 89) 8
abbrev s_accepted : Stmt := top 90
abbrev s_Identity___init__ : Stmt := inClass (top 92) 0
abbrev s_identity_with : Stmt := top 93
abbrev s_Line___init__ : Stmt := inClass (top 100) 0
abbrev s_Line_set_up : Stmt := inClass (top 100) 1
abbrev s_Line_begin : Stmt := inClass (top 100) 2
abbrev s_Line_take : Stmt := inClass (top 100) 3
abbrev s_Line_send : Stmt := inClass (top 100) 4
abbrev s_Reader___init__ : Stmt := inClass (top 106) 0
abbrev s_Reader_has_more : Stmt := inClass (top 106) 1
abbrev s_Reader_number : Stmt := inClass (top 106) 2
abbrev s_Reader_row : Stmt := inClass (top 106) 3
abbrev s_parts_of : Stmt := top 107
abbrev s_answer_of : Stmt := top 108
abbrev s_answers : Stmt := top 109
def L_LANES : List (List Nat) := [[0, 4, 8, 12, 0, 1], [1, 5, 9, 13, 2, 3], [2, 6, 10, 14, 4, 5], [3, 7, 11, 15, 6, 7], [0, 5, 10, 15, 8, 9], [1, 6, 11, 12, 10, 11], [2, 7, 8, 13, 12, 13], [3, 4, 9, 14, 14, 15]]
def L_CONSTANTS : List Nat := [1634760805, 857760878, 2036477234, 1797285236]
def L_QUARTERS : List (List Nat) := [[0, 4, 8, 12], [1, 5, 9, 13], [2, 6, 10, 14], [3, 7, 11, 15], [0, 5, 10, 15], [1, 6, 11, 12], [2, 7, 8, 13], [3, 4, 9, 14]]
def L_SHAPES : List (List Nat) := [[0, 3], [1, 2], [1, 2], [0, 1]]
set_option genInjectivity false in
set_option genSizeOf false in
structure Ad where
  f_number_of : Addr
  d_number_of : FuncData
  f_octets_of : Addr
  d_octets_of : FuncData
  f_words_of : Addr
  d_words_of : FuncData
  f_octets_of_text : Addr
  d_octets_of_text : FuncData
  f_filled : Addr
  d_filled : FuncData
  f_inverse : Addr
  d_inverse : FuncData
  f_scalar_of : Addr
  d_scalar_of : FuncData
  f_multiplied : Addr
  d_multiplied : FuncData
  f_agreed : Addr
  d_agreed : FuncData
  f_public : Addr
  d_public : FuncData
  f_worth_nothing : Addr
  d_worth_nothing : FuncData
  f_mix : Addr
  d_mix : FuncData
  f_compressed : Addr
  d_compressed : FuncData
  f_blake : Addr
  d_blake : FuncData
  f_digest : Addr
  d_digest : FuncData
  f_mac : Addr
  d_mac : FuncData
  f_head : Addr
  d_head : FuncData
  f_mark_of : Addr
  d_mark_of : FuncData
  f_marked : Addr
  d_marked : FuncData
  f_is_well_marked : Addr
  d_is_well_marked : FuncData
  f_hmac : Addr
  d_hmac : FuncData
  f_drawn : Addr
  d_drawn : FuncData
  f_Mixer___init__ : Addr
  d_Mixer___init__ : FuncData
  f_Mixer_twin : Addr
  d_Mixer_twin : FuncData
  f_Mixer_absorb : Addr
  d_Mixer_absorb : FuncData
  f_Mixer_stir : Addr
  d_Mixer_stir : FuncData
  f_Mixer_stir_for_key : Addr
  d_Mixer_stir_for_key : FuncData
  f_Mixer_stir_psk_for_key : Addr
  d_Mixer_stir_psk_for_key : FuncData
  f_mixer_towards : Addr
  d_mixer_towards : FuncData
  f_quarter : Addr
  d_quarter : FuncData
  f_stream_block : Addr
  d_stream_block : FuncData
  f_crypted : Addr
  d_crypted : FuncData
  f_poly_tag : Addr
  d_poly_tag : FuncData
  f_nonce_of : Addr
  d_nonce_of : FuncData
  f_tag_of : Addr
  d_tag_of : FuncData
  f_seal : Addr
  d_seal : FuncData
  f_unseal : Addr
  d_unseal : FuncData
  f_Handshake___init__ : Addr
  d_Handshake___init__ : FuncData
  f_Greeting___init__ : Addr
  d_Greeting___init__ : FuncData
  f_new_handshake : Addr
  d_new_handshake : FuncData
  f_first_message : Addr
  d_first_message : FuncData
  f_read_first : Addr
  d_read_first : FuncData
  f_Session___init__ : Addr
  d_Session___init__ : FuncData
  f_Session_is_used_up : Addr
  d_Session_is_used_up : FuncData
  f_Session_packet : Addr
  d_Session_packet : FuncData
  f_Session_is_new : Addr
  d_Session_is_new : FuncData
  f_Session_accept : Addr
  d_Session_accept : FuncData
  f_has_packet_form : Addr
  d_has_packet_form : FuncData
  f_key_of_second : Addr
  d_key_of_second : FuncData
  f_second_message : Addr
  d_second_message : FuncData
  f_answering_session : Addr
  d_answering_session : FuncData
  f_read_second : Addr
  d_read_second : FuncData
  f_End___init__ : Addr
  d_End___init__ : FuncData
  f_End_begin : Addr
  d_End_begin : FuncData
  f_End_take : Addr
  d_End_take : FuncData
  f_End_take_first : Addr
  d_End_take_first : FuncData
  f_End_is_later : Addr
  d_End_is_later : FuncData
  f_End_take_second : Addr
  d_End_take_second : FuncData
  f_End_make_current : Addr
  d_End_make_current : FuncData
  f_End_take_packet : Addr
  d_End_take_packet : FuncData
  f_End_send : Addr
  d_End_send : FuncData
  f_accepted : Addr
  d_accepted : FuncData
  f_Identity___init__ : Addr
  d_Identity___init__ : FuncData
  f_identity_with : Addr
  d_identity_with : FuncData
  f_Line___init__ : Addr
  d_Line___init__ : FuncData
  f_Line_set_up : Addr
  d_Line_set_up : FuncData
  f_Line_begin : Addr
  d_Line_begin : FuncData
  f_Line_take : Addr
  d_Line_take : FuncData
  f_Line_send : Addr
  d_Line_send : FuncData
  f_Reader___init__ : Addr
  d_Reader___init__ : FuncData
  f_Reader_has_more : Addr
  d_Reader_has_more : FuncData
  f_Reader_number : Addr
  d_Reader_number : FuncData
  f_Reader_row : Addr
  d_Reader_row : FuncData
  f_parts_of : Addr
  d_parts_of : FuncData
  f_answer_of : Addr
  d_answer_of : FuncData
  f_answers : Addr
  d_answers : FuncData
  c_Mixer : Addr
  c_Handshake : Addr
  c_Greeting : Addr
  c_Session : Addr
  c_End : Addr
  c_Identity : Addr
  c_Line : Addr
  c_Reader : Addr
  t_START : Addr
  t_ORDERS : Addr
  t_LANES : Addr
  t_CONSTANTS : Addr
  t_QUARTERS : Addr
  t_SHAPES : Addr
structure Tx (K : PySem.W.Frag) (mg : Str → Option Value) (A : Ad) : Prop where
  F_number_of : FnT K mg "number_of" s_number_of A.f_number_of A.d_number_of ["octets"]
  F_octets_of : FnT K mg "octets_of" s_octets_of A.f_octets_of A.d_octets_of ["number", "size"]
  F_words_of : FnT K mg "words_of" s_words_of A.f_words_of A.d_words_of ["octets"]
  F_octets_of_text : FnT K mg "octets_of_text" s_octets_of_text A.f_octets_of_text A.d_octets_of_text ["text"]
  F_filled : FnT K mg "filled" s_filled A.f_filled A.d_filled ["octets", "size"]
  F_inverse : FnT K mg "inverse" s_inverse A.f_inverse A.d_inverse ["value"]
  F_scalar_of : FnT K mg "scalar_of" s_scalar_of A.f_scalar_of A.d_scalar_of ["secret"]
  F_multiplied : FnT K mg "multiplied" s_multiplied A.f_multiplied A.d_multiplied ["scalar", "u"]
  F_agreed : FnT K mg "agreed" s_agreed A.f_agreed A.d_agreed ["secret", "point"]
  F_public : FnT K mg "public" s_public A.f_public A.d_public ["secret"]
  F_worth_nothing : FnT K mg "worth_nothing" s_worth_nothing A.f_worth_nothing A.d_worth_nothing ["octets"]
  F_mix : FnT K mg "mix" s_mix A.f_mix A.d_mix ["work", "a", "b", "c", "d", "x", "y"]
  F_compressed : FnT K mg "compressed" s_compressed A.f_compressed A.d_compressed ["state", "block", "reached", "last"]
  F_blake : FnT K mg "blake" s_blake A.f_blake A.d_blake ["size", "key", "message"]
  F_digest : FnT K mg "digest" s_digest A.f_digest A.d_digest ["message"]
  F_mac : FnT K mg "mac" s_mac A.f_mac A.d_mac ["key", "message"]
  F_head : FnT K mg "head" s_head A.f_head A.d_head ["kind"]
  F_mark_of : FnT K mg "mark_of" s_mark_of A.f_mark_of A.d_mark_of ["before", "number"]
  F_marked : FnT K mg "marked" s_marked A.f_marked A.d_marked ["before", "number"]
  F_is_well_marked : FnT K mg "is_well_marked" s_is_well_marked A.f_is_well_marked A.d_is_well_marked ["m", "kind", "size", "number"]
  F_hmac : FnT K mg "hmac" s_hmac A.f_hmac A.d_hmac ["key", "message"]
  F_drawn : FnT K mg "drawn" s_drawn A.f_drawn A.d_drawn ["count", "key", "message"]
  F_Mixer___init__ : MeT K A.c_Mixer "__init__" "Mixer.__init__" s_Mixer___init__ A.f_Mixer___init__ A.d_Mixer___init__ ["self", "chain", "seen"]
  F_Mixer_twin : MeT K A.c_Mixer "twin" "Mixer.twin" s_Mixer_twin A.f_Mixer_twin A.d_Mixer_twin ["self"]
  F_Mixer_absorb : MeT K A.c_Mixer "absorb" "Mixer.absorb" s_Mixer_absorb A.f_Mixer_absorb A.d_Mixer_absorb ["self", "octets"]
  F_Mixer_stir : MeT K A.c_Mixer "stir" "Mixer.stir" s_Mixer_stir A.f_Mixer_stir A.d_Mixer_stir ["self", "octets"]
  F_Mixer_stir_for_key : MeT K A.c_Mixer "stir_for_key" "Mixer.stir_for_key" s_Mixer_stir_for_key A.f_Mixer_stir_for_key A.d_Mixer_stir_for_key ["self", "octets"]
  F_Mixer_stir_psk_for_key : MeT K A.c_Mixer "stir_psk_for_key" "Mixer.stir_psk_for_key" s_Mixer_stir_psk_for_key A.f_Mixer_stir_psk_for_key A.d_Mixer_stir_psk_for_key ["self", "psk"]
  F_mixer_towards : FnT K mg "mixer_towards" s_mixer_towards A.f_mixer_towards A.d_mixer_towards ["number"]
  F_quarter : FnT K mg "quarter" s_quarter A.f_quarter A.d_quarter ["work", "a", "b", "c", "d"]
  F_stream_block : FnT K mg "stream_block" s_stream_block A.f_stream_block A.d_stream_block ["key", "counter", "nonce"]
  F_crypted : FnT K mg "crypted" s_crypted A.f_crypted A.d_crypted ["key", "nonce", "octets"]
  F_poly_tag : FnT K mg "poly_tag" s_poly_tag A.f_poly_tag A.d_poly_tag ["key", "message"]
  F_nonce_of : FnT K mg "nonce_of" s_nonce_of A.f_nonce_of A.d_nonce_of ["count"]
  F_tag_of : FnT K mg "tag_of" s_tag_of A.f_tag_of A.d_tag_of ["key", "nonce", "covered", "seen"]
  F_seal : FnT K mg "seal" s_seal A.f_seal A.d_seal ["key", "count", "plain", "seen"]
  F_unseal : FnT K mg "unseal" s_unseal A.f_unseal A.d_unseal ["key", "count", "sealed", "seen"]
  F_Handshake___init__ : MeT K A.c_Handshake "__init__" "Handshake.__init__" s_Handshake___init__ A.f_Handshake___init__ A.d_Handshake___init__ ["self", "mine", "moment", "mixer"]
  F_Greeting___init__ : MeT K A.c_Greeting "__init__" "Greeting.__init__" s_Greeting___init__ A.f_Greeting___init__ A.d_Greeting___init__ ["self", "theirs", "point", "stamp", "mixer"]
  F_new_handshake : FnT K mg "new_handshake" s_new_handshake A.f_new_handshake A.d_new_handshake ["identity", "mine", "moment"]
  F_first_message : FnT K mg "first_message" s_first_message A.f_first_message A.d_first_message ["identity", "handshake", "stamp"]
  F_read_first : FnT K mg "read_first" s_read_first A.f_read_first A.d_read_first ["identity", "m"]
  F_Session___init__ : MeT K A.c_Session "__init__" "Session.__init__" s_Session___init__ A.f_Session___init__ A.d_Session___init__ ["self", "mine", "theirs", "sending_key", "opening_key"]
  F_Session_is_used_up : MeT K A.c_Session "is_used_up" "Session.is_used_up" s_Session_is_used_up A.f_Session_is_used_up A.d_Session_is_used_up ["self"]
  F_Session_packet : MeT K A.c_Session "packet" "Session.packet" s_Session_packet A.f_Session_packet A.d_Session_packet ["self", "plain"]
  F_Session_is_new : MeT K A.c_Session "is_new" "Session.is_new" s_Session_is_new A.f_Session_is_new A.d_Session_is_new ["self", "number"]
  F_Session_accept : MeT K A.c_Session "accept" "Session.accept" s_Session_accept A.f_Session_accept A.d_Session_accept ["self", "m"]
  F_has_packet_form : FnT K mg "has_packet_form" s_has_packet_form A.f_has_packet_form A.d_has_packet_form ["m"]
  F_key_of_second : FnT K mg "key_of_second" s_key_of_second A.f_key_of_second A.d_key_of_second ["mixer", "point", "with_moment", "with_secret", "psk"]
  F_second_message : FnT K mg "second_message" s_second_message A.f_second_message A.d_second_message ["identity", "greeting", "mine", "moment", "met"]
  F_answering_session : FnT K mg "answering_session" s_answering_session A.f_answering_session A.d_answering_session ["greeting", "mine"]
  F_read_second : FnT K mg "read_second" s_read_second A.f_read_second A.d_read_second ["identity", "handshake", "m"]
  F_End___init__ : MeT K A.c_End "__init__" "End.__init__" s_End___init__ A.f_End___init__ A.d_End___init__ ["self", "identity"]
  F_End_begin : MeT K A.c_End "begin" "End.begin" s_End_begin A.f_End_begin A.d_End_begin ["self", "mine", "moment", "stamp"]
  F_End_take : MeT K A.c_End "take" "End.take" s_End_take A.f_End_take A.d_End_take ["self", "mine", "moment", "m"]
  F_End_take_first : MeT K A.c_End "take_first" "End.take_first" s_End_take_first A.f_End_take_first A.d_End_take_first ["self", "mine", "moment", "m"]
  F_End_is_later : MeT K A.c_End "is_later" "End.is_later" s_End_is_later A.f_End_is_later A.d_End_is_later ["self", "stamp"]
  F_End_take_second : MeT K A.c_End "take_second" "End.take_second" s_End_take_second A.f_End_take_second A.d_End_take_second ["self", "m"]
  F_End_make_current : MeT K A.c_End "make_current" "End.make_current" s_End_make_current A.f_End_make_current A.d_End_make_current ["self", "session"]
  F_End_take_packet : MeT K A.c_End "take_packet" "End.take_packet" s_End_take_packet A.f_End_take_packet A.d_End_take_packet ["self", "m"]
  F_End_send : MeT K A.c_End "send" "End.send" s_End_send A.f_End_send A.d_End_send ["self", "d"]
  F_accepted : FnT K mg "accepted" s_accepted A.f_accepted A.d_accepted ["session", "m"]
  F_Identity___init__ : MeT K A.c_Identity "__init__" "Identity.__init__" s_Identity___init__ A.f_Identity___init__ A.d_Identity___init__ ["self", "secret", "peer", "psk", "shared"]
  F_identity_with : FnT K mg "identity_with" s_identity_with A.f_identity_with A.d_identity_with ["secret", "peer", "psk"]
  F_Line___init__ : MeT K A.c_Line "__init__" "Line.__init__" s_Line___init__ A.f_Line___init__ A.d_Line___init__ ["self"]
  F_Line_set_up : MeT K A.c_Line "set_up" "Line.set_up" s_Line_set_up A.f_Line_set_up A.d_Line_set_up ["self", "secret", "peer", "psk"]
  F_Line_begin : MeT K A.c_Line "begin" "Line.begin" s_Line_begin A.f_Line_begin A.d_Line_begin ["self", "mine", "moment", "stamp"]
  F_Line_take : MeT K A.c_Line "take" "Line.take" s_Line_take A.f_Line_take A.d_Line_take ["self", "mine", "moment", "m"]
  F_Line_send : MeT K A.c_Line "send" "Line.send" s_Line_send A.f_Line_send A.d_Line_send ["self", "d"]
  F_Reader___init__ : MeT K A.c_Reader "__init__" "Reader.__init__" s_Reader___init__ A.f_Reader___init__ A.d_Reader___init__ ["self", "numbers"]
  F_Reader_has_more : MeT K A.c_Reader "has_more" "Reader.has_more" s_Reader_has_more A.f_Reader_has_more A.d_Reader_has_more ["self"]
  F_Reader_number : MeT K A.c_Reader "number" "Reader.number" s_Reader_number A.f_Reader_number A.d_Reader_number ["self"]
  F_Reader_row : MeT K A.c_Reader "row" "Reader.row" s_Reader_row A.f_Reader_row A.d_Reader_row ["self"]
  F_parts_of : FnT K mg "parts_of" s_parts_of A.f_parts_of A.d_parts_of ["reader", "call"]
  F_answer_of : FnT K mg "answer_of" s_answer_of A.f_answer_of A.d_answer_of ["line", "call", "parts"]
  F_answers : FnT K mg "answers" s_answers A.f_answers A.d_answers ["calls"]
  C_Mixer : ClT K mg "Mixer" A.c_Mixer A.f_Mixer___init__ ["chain", "seen"]
  C_Handshake : ClT K mg "Handshake" A.c_Handshake A.f_Handshake___init__ ["mine", "moment", "mixer"]
  C_Greeting : ClT K mg "Greeting" A.c_Greeting A.f_Greeting___init__ ["theirs", "point", "stamp", "mixer"]
  C_Session : ClT K mg "Session" A.c_Session A.f_Session___init__ ["mine", "theirs", "sending_key", "opening_key", "next_number", "greatest", "got"]
  C_End : ClT K mg "End" A.c_End A.f_End___init__ ["identity", "latest_stamp", "handshake", "fresh", "current", "former"]
  C_Identity : ClT K mg "Identity" A.c_Identity A.f_Identity___init__ ["secret", "own", "peer", "psk", "shared"]
  C_Line : ClT K mg "Line" A.c_Line A.f_Line___init__ ["end"]
  C_Reader : ClT K mg "Reader" A.c_Reader A.f_Reader___init__ ["numbers", "at"]
  M_PRIME_curve : CnT mg "PRIME_curve" (.int ((57896044618658097711785492504343953926634992332820282019728792003956564819949 : Nat) : Int))
  M_BELOW_TOP_BIT : CnT mg "BELOW_TOP_BIT" (.int ((57896044618658097711785492504343953926634992332820282019728792003956564819967 : Nat) : Int))
  M_TOP_SCALAR_BIT : CnT mg "TOP_SCALAR_BIT" (.int ((28948022309329048855892746252171976963317496166410141009864396001978282409984 : Nat) : Int))
  M_CURVE_NUMBER : CnT mg "CURVE_NUMBER" (.int ((121665 : Nat) : Int))
  M_BASE : CnT mg "BASE" (.int ((9 : Nat) : Int))
  M_BLOCK_blake : CnT mg "BLOCK_blake" (.int ((64 : Nat) : Int))
  M_LOW_blake : CnT mg "LOW_blake" (.int ((4294967295 : Nat) : Int))
  M_START : CnT mg "START" (.ref A.t_START)
  Q_START : ∀ H, SqT K H A.t_START (bs Sd16.START)
  M_ORDERS : CnT mg "ORDERS" (.ref A.t_ORDERS)
  Q_ORDERS : TupT K A.t_ORDERS Sd16.ORDERS
  M_LANES : CnT mg "LANES" (.ref A.t_LANES)
  Q_LANES : TupT K A.t_LANES L_LANES
  M_FIRST : CnT mg "FIRST" (.int ((1 : Nat) : Int))
  M_SECOND : CnT mg "SECOND" (.int ((2 : Nat) : Int))
  M_PACKET : CnT mg "PACKET" (.int ((4 : Nat) : Int))
  M_MARK : CnT mg "MARK" (.int ((16 : Nat) : Int))
  M_LABEL : CnT mg "LABEL" (.str "mac1----")
  M_CONSTRUCTION : CnT mg "CONSTRUCTION" (.str "Noise_IKpsk2_25519_ChaChaPoly_BLAKE2s")
  M_IDENTIFIER : CnT mg "IDENTIFIER" (.str "WireGuard v1 zx2c4 Jason@zx2c4.com")
  M_BLOCK_chacha : CnT mg "BLOCK_chacha" (.int ((64 : Nat) : Int))
  M_LOW_chacha : CnT mg "LOW_chacha" (.int ((4294967295 : Nat) : Int))
  M_CONSTANTS : CnT mg "CONSTANTS" (.ref A.t_CONSTANTS)
  Q_CONSTANTS : ∀ H, SqT K H A.t_CONSTANTS (bs L_CONSTANTS)
  M_QUARTERS : CnT mg "QUARTERS" (.ref A.t_QUARTERS)
  Q_QUARTERS : TupT K A.t_QUARTERS L_QUARTERS
  M_PRIME_poly : CnT mg "PRIME_poly" (.int ((1361129467683753853853498429727072845819 : Nat) : Int))
  M_CLAMP : CnT mg "CLAMP" (.int ((21267647620597763993911028882763415551 : Nat) : Int))
  M_PART_poly : CnT mg "PART_poly" (.int ((16 : Nat) : Int))
  M_TAG : CnT mg "TAG" (.int ((16 : Nat) : Int))
  M_SIZE_first : CnT mg "SIZE_first" (.int ((148 : Nat) : Int))
  M_NUMBERS_END : CnT mg "NUMBERS_END" (.int ((1152921504606846976 : Nat) : Int))
  M_WINDOW : CnT mg "WINDOW" (.int ((128 : Nat) : Int))
  M_PART_session : CnT mg "PART_session" (.int ((16 : Nat) : Int))
  M_SHORTEST : CnT mg "SHORTEST" (.int ((32 : Nat) : Int))
  M_SIZE_second : CnT mg "SIZE_second" (.int ((92 : Nat) : Int))
  M_NOT_RIGHT : CnT mg "NOT_RIGHT" (.int ((0 : Nat) : Int))
  M_NOT_NOW : CnT mg "NOT_NOW" (.int (-3))
  M_DONE : CnT mg "DONE" (.int ((0 : Nat) : Int))
  M_TOO_LONG : CnT mg "TOO_LONG" (.int (-1))
  M_WORTHLESS : CnT mg "WORTHLESS" (.int (-2))
  M_MOST_TAKEN : CnT mg "MOST_TAKEN" (.int ((65568 : Nat) : Int))
  M_MOST_SENT : CnT mg "MOST_SENT" (.int ((65536 : Nat) : Int))
  M_SET_UP : CnT mg "SET_UP" (.int ((0 : Nat) : Int))
  M_BEGIN : CnT mg "BEGIN" (.int ((1 : Nat) : Int))
  M_TAKE : CnT mg "TAKE" (.int ((2 : Nat) : Int))
  M_SHAPES : CnT mg "SHAPES" (.ref A.t_SHAPES)
  Q_SHAPES : TupT K A.t_SHAPES L_SHAPES
  N_enumerate : mg "enumerate" = none
  N_len : mg "len" = none
  N_list : mg "list" = none
  N_max : mg "max" = none
  N_ord : mg "ord" = none
  N_range : mg "range" = none
  N_zip : mg "zip" = none
end Tw
namespace L2
open PySem
def er (H : Hp) (a : Addr) : Hp := fun b => if b = a then none else H b
theorem er_same {H : Hp} {a : Addr} : er H a a = none := if_pos rfl
theorem er_ne {H : Hp} {a b : Addr} (h : b ≠ a) : er H a b = H b := if_neg h
theorem er_none {H : Hp} {a b : Addr} (h : H b = none) : er H a b = none := by
  unfold er
  split
  · rfl
  · exact h
theorem er_some {H : Hp} {a b : Addr} {o : HO} (h : er H a b = some o) : b ≠ a ∧ H b = some o := by
  by_cases e : b = a
  · rw [e, er_same] at h; cases h
  · rw [er_ne e] at h; exact ⟨e, h⟩
theorem er_upd {H : Hp} {a : Addr} {o : HO} (h : H a = none) : er (upd H a o) a = H := by
  funext b
  by_cases e : b = a
  · rw [e, er_same, h]
  · rw [er_ne e, upd_ne e]
theorem ObjOk.mono {P : Program} {w : World} {H H' : Hp} {h : Heap} {a : Addr} (k : ∀ b o, H b = some o → (∀ l, o ≠ .lst l) → H' b = some o) : ∀ {o : HO}, ObjOk P w H h a o → ObjOk P w H' h a o := by
  intro o x
  exact x.stay (fun _ _ _ h => h) (fun b hb => k _ _ hb (by intro l z; cases z)) fun b xs hb => k _ _ hb (by intro l z; cases z)
section
variable {X : Cx}
def tAside (t : TE) : TE := fun σ H Q => ∃ a xs, H a = some (.lst xs) ∧ t σ (er H a) fun v H' => H' a = none → Q v (upd H' a (.lst xs))
theorem pe_aside {e : Expr} {t : TE} (h : PE X e t) : PE X e (tAside t) := by
  intro pins s σ H Q I ⟨a, xs, ha, ht⟩
  obtain ⟨hlen, its, n, hv, hg⟩ := I.hok a _ ha
  have nfs : a ∉ X.fs := fun hb => by
    obtain ⟨_, o, ho, _⟩ := I.ok.funs.mem hb
    have := I.base.free a o ho (I.ok.frf a hb) fun z => I.ok.exfs a z hb
    rw [ha] at this; cases this
  have nl : a ≠ X.env.locals := fun z => by
    have := I.free
    rw [← z, ha] at this; cases this
  have I' : Inv X (pins ++ [(a, { cls := .type "list", data := .seq its.toArray n })]) σ (er H a) s := by
    refine ⟨I.ok, I.os, I.bare, ⟨I.base.keep, I.base.slot, fun b o h1 h2 h3 => er_none (I.base.free b o h1 h2 h3), I.base.there, fun b l e => ?_, fun b o u e => ?_, fun b ps e => ?_⟩, I.loc, I.cell, er_none I.free, fun x c e => er_none (I.freeC x c e), fun p hp => ?_, fun b o e => ?_, I.len⟩
    · have e' := I.base.tups b l e
      rw [er_ne (ne_of e' ha (by intro z; cases z))]; exact e'
    · have e' := I.base.frzs b o u e
      rw [er_ne (ne_of e' ha (by intro z; cases z))]; exact e'
    · obtain ⟨more, e'⟩ := I.base.tbls b ps e
      exact ⟨more, by rw [er_ne (ne_of e' ha (by intro z; cases z))]; exact e'⟩
    · rcases List.mem_append.mp hp with z | z
      · obtain ⟨g1, g2, g3⟩ := I.pin p (List.mem_append_left _ z)
        exact ⟨g1, er_none g2, g3⟩
      · rcases List.mem_append.mp z with z | z
        · obtain ⟨g1, g2, g3⟩ := I.pin p (List.mem_append_right _ z)
          exact ⟨g1, er_none g2, g3⟩
        · rw [List.mem_singleton.mp z]
          exact ⟨hg, er_same, nl, nfs, fun v z => by cases z⟩
    · obtain ⟨n1, e1⟩ := er_some e
      exact ObjOk.mono (fun c u hc hu => by rw [er_ne (ne_of hc ha (hu xs))]; exact hc) (I.hok b o e1)
  refine thn (h _ s σ (er H a) _ I' ht) fun u s' ⟨v, H', I2, r, q⟩ => ?_
  have pn := I2.pin (a, { cls := .type "list", data := .seq its.toArray n }) (List.mem_append_right _ (List.mem_append_right _ (List.mem_singleton.mpr rfl)))
  refine ⟨v, upd H' a (.lst xs), ?_, r, q pn.2.1⟩
  refine ⟨I2.ok, I2.os, I2.bare, ⟨I2.base.keep, I2.base.slot, fun b o h1 h2 h3 => ?_, I2.base.there, fun b l e => ?_, fun b o u e => ?_, fun b ps e => ?_⟩, I2.loc, I2.cell, ?_, fun x c e => ?_, fun p hp => ?_, fun b o e => ?_, I2.len⟩
  · have z := I.base.free b o h1 h2 h3
    rw [upd_ne (ne_of_none ha z).symm]; exact I2.base.free b o h1 h2 h3
  · rw [upd_ne (ne_of (I.base.tups b l e) ha (by intro z; cases z))]; exact I2.base.tups b l e
  · rw [upd_ne (ne_of (I.base.frzs b o u e) ha (by intro z; cases z))]; exact I2.base.frzs b o u e
  · obtain ⟨m1, e1⟩ := I.base.tbls b ps e
    obtain ⟨more, e'⟩ := I2.base.tbls b ps e
    exact ⟨more, by rw [upd_ne (ne_of e1 ha (by intro z; cases z))]; exact e'⟩
  · rw [upd_ne nl.symm]; exact I2.free
  · rw [upd_ne (ne_of_none ha (I.freeC x c e)).symm]; exact I2.freeC x c e
  · have hp' : p ∈ X.pn ++ (pins ++ [(a, { cls := .type "list", data := .seq its.toArray n })]) := (List.mem_append.mp hp).elim (fun z => List.mem_append_left _ z) fun z => List.mem_append_right _ (List.mem_append_left _ z)
    obtain ⟨g1, g2, g3⟩ := I2.pin p hp'
    have z := (I.pin p hp).2.1
    exact ⟨g1, by rw [upd_ne (ne_of_none ha z).symm]; exact g2, g3⟩
  · by_cases hb : b = a
    · subst hb
      rw [upd_same] at e
      injection e with e
      subst e
      exact ⟨hlen, its, n, hv, pn.1⟩
    · rw [upd_ne hb] at e
      exact ObjOk.mono (fun c u hc _ => by rw [upd_ne (ne_of_none hc pn.2.1)]; exact hc) (I2.hok b o e)
end
end L2
namespace Tw
open PySem L2
open Sd16 (number little)
abbrev LH (H : Hp) (a : Addr) (l : List Nat) : Prop := H a = some (.lst (bs l))
def RetL (H : Hp) (l : List Nat) (Q : VK) : Prop := ∀ p H', H p = none → Same H H' → LH H' p l → Q (.ref p) H'
def RetV (H : Hp) (v : V) (Q : VK) : Prop := ∀ H', Same H H' → Q v H'
theorem same_new {H0 H : Hp} {r : Addr} {o : HO} (s : Same H0 H) (n : H0 r = none) : Same H0 (upd H r o) := fun b o' h => by rw [upd_ne (ne_of_none h n)]; exact s b o' h
theorem same_lay {H : Hp} {p : Addr} {o : HO} (n : H p = none) : Same H (upd H p o) := same_new (Same.refl H) n
theorem bs_app (a b : List Nat) : bs a ++ bs b = bs (a ++ b) := by simp [bs]
theorem bs_len (a : List Nat) : (bs a).length = a.length := by simp [bs]
theorem bs_get {l : List Nat} {i : Nat} {x : V} (h : (bs l)[i]? = some x) : ∃ n : Nat, l[i]? = some n ∧ x = .int (n : Int) := by
  simp only [bs, List.getElem?_map] at h
  cases e : l[i]? with
  | none => rw [e] at h; cases h
  | some n => rw [e] at h; exact ⟨n, rfl, (Option.some.inj h).symm⟩
theorem bs_at {l : List Nat} {i n : Nat} (h : l[i]? = some n) : (bs l)[i]? = some (.int (n : Int)) := by simp [bs, h]
theorem bs_rep (k n : Nat) : (List.replicate k (bs [n])).flatten = bs (List.replicate k n) := by
  induction k with
  | zero => rfl
  | succ k ih =>
    rw [List.replicate_succ, List.flatten_cons, ih, List.replicate_succ]
    rfl
theorem bs_set (l : List Nat) (i n : Nat) : (bs l).set i (.int (n : Int)) = bs (l.set i n) := by simp [bs, List.map_set]
theorem cut_nn (l : List Nat) (i j : Nat) : cutV (bs l) (some (i : Int)) (some (j : Int)) = bs ((l.drop i).take (j - i)) := by
  simp only [cutV, HT.sIx_nat, bs, List.length_map, ← List.map_drop, ← List.map_take]
  congr 1
  by_cases h : i ≤ l.length
  · rw [Nat.min_eq_left h]
    by_cases h2 : j ≤ l.length
    · rw [Nat.min_eq_left h2]
    · rw [Nat.min_eq_right (by omega), List.take_of_length_le (by rw [List.length_drop]; omega), List.take_of_length_le (by rw [List.length_drop]; omega)]
  · have e1 : l.drop (min i l.length) = [] := List.drop_of_length_le (by omega)
    have e2 : l.drop i = [] := List.drop_of_length_le (by omega)
    rw [e1, e2]
    simp
theorem cut_no (l : List Nat) (i : Nat) : cutV (bs l) (some (i : Int)) none = bs (l.drop i) := by
  simp only [cutV, HT.sIx_nat, HT.sIx_none, bs, List.length_map, ← List.map_drop, ← List.map_take]
  congr 1
  rw [List.take_of_length_le (by rw [List.length_drop]; exact Nat.le_refl _)]
  by_cases h : i ≤ l.length
  · rw [Nat.min_eq_left h]
  · rw [Nat.min_eq_right (by omega), List.drop_of_length_le (Nat.le_refl _), List.drop_of_length_le (by omega)]
theorem cut_on (l : List Nat) (j : Nat) : cutV (bs l) none (some (j : Int)) = bs (l.take j) := by
  have := cut_nn l 0 j
  simp only [List.drop_zero, Nat.sub_zero] at this
  rw [← this]
  rfl
theorem and_low (n k : Nat) : Builtin.bitAnd (n : Int) ((2 ^ k - 1 : Nat) : Int) = ((n % 2 ^ k : Nat) : Int) := by
  have := Bits.bitAnd_mask (x := (n : Int)) k (by omega)
  have e : ((2 ^ k - 1 : Nat) : Int) = 2 ^ k - 1 := by
    have : 1 ≤ 2 ^ k := Nat.one_le_two_pow
    rw [Int.natCast_sub this]; push_cast; rfl
  rw [e, this]; push_cast; rfl
theorem and_1 (n : Nat) : Builtin.bitAnd (n : Int) 1 = ((n % 2 : Nat) : Int) := and_low n 1
theorem xor_nn (m n : Nat) : Builtin.bitXor (m : Int) (n : Int) = ((m ^^^ n : Nat) : Int) := by
  rw [Bits.bitXor_pp (by omega) (by omega)]; simp
theorem or_nn (m n : Nat) : Builtin.bitOr (m : Int) (n : Int) = ((m ||| n : Nat) : Int) := by
  rw [Bits.bitOr_pp (by omega) (by omega)]; simp
theorem and_nn (m n : Nat) : Builtin.bitAnd (m : Int) (n : Int) = ((m &&& n : Nat) : Int) := by
  rw [PyProof.Rows.bitAnd_pp (by omega) (by omega)]; simp
theorem shr_nn (m k : Nat) : (m : Int) / 2 ^ ((k : Nat) : Int).toNat = ((m / 2 ^ k : Nat) : Int) := by
  simp
theorem shl_nn (m k : Nat) : (m : Int) * 2 ^ ((k : Nat) : Int).toNat = ((m * 2 ^ k : Nat) : Int) := by
  simp
theorem small_pow {n : Nat} (h : n < 2 ^ 63) : n < 2 ^ 1000 := Nat.lt_of_lt_of_le h (Nat.pow_le_pow_right (by omega) (by omega))
theorem sz_small {n : Nat} (h : n ≤ 1000000) : n ≤ sizeLine := by
  have : sizeLine = sizeLine := rfl
  rw [PySem.sizeLine_eq]; omega
end Tw
namespace Tw
open PySem L2
theorem pe_nat {X : Cx} (n : Nat) {j : Nat} {pos : Pos} : PE X (.Constant (.int (n : Int)) j pos) (tC (.int (n : Int))) := pe_int
theorem gl_of {X : Cx} {x : Str} (h : X.env.kindOf x = some .globalImplicit) : Gl X x := h
theorem seq_const {v : V} {i : Nat} {rest : TS} {D : Ends} {σ : St} {H : Hp} (h : rest D (σ.set i (some v)) H) : tSeq (tAsg (tC v) (gName i)) rest D σ H := h
theorem seq_cut {B rest : TS} {D : Ends} {σ : St} {H : Hp} (M : St → Hp → Prop) (h2 : ∀ σ' H', M σ' H' → rest D σ' H') (h1 : (∀ σ' H', M σ' H' → rest D σ' H') → tSeq B rest D σ H) : tSeq B rest D σ H := h1 h2
theorem map_ref_get {ts : List Addr} {i : Nat} {x : V} (h : (ts.map V.ref)[i]? = some x) : ∃ t, ts[i]? = some t ∧ x = .ref t := by
  simp only [List.getElem?_map] at h
  cases e : ts[i]? with
  | none => rw [e] at h; cases h
  | some t => rw [e] at h; exact ⟨t, rfl, (Option.some.inj h).symm⟩
theorem at_len {α β : Type} {a : List α} {b : List β} (h : a.length = b.length) {i : Nat} {x : α} (hx : a[i]? = some x) : ∃ y, b[i]? = some y := by
  have hi := (List.getElem?_eq_some_iff.mp hx).1
  exact ⟨b[i]'(by omega), List.getElem?_eq_getElem (by omega)⟩
end Tw
namespace Tw
open PySem L2
open Sd16 (number little)
section
variable {X : Cx}
theorem opr_imp {f : Value → Value → Sem Value} {r r' : R2} (h : OpR X f r) (k : ∀ x y H Q, r' x y H Q → r x y H Q) : OpR X f r' := fun pins s σ H x y v u Q I rx ry q => h pins s σ H x y v u Q I rx ry (k x y H Q q)
theorem cr_imp {f : Value} {r r' : List V → Hp → VK → Prop} (h : CallR X f r) (k : ∀ xs H Q, r' xs H Q → r xs H Q) : CallR X f r' := fun pins s σ H xs us Q I r q => h pins s σ H xs us Q I r (k xs H Q q)
theorem RetL.upd {H : Hp} {l : List Nat} {Q : VK} (q : RetL H l Q) {p : Addr} (hp : H p = none) : Q (.ref p) (upd H p (.lst (bs l))) := q p _ hp (same_lay hp) upd_same
def rCatN : R2 := fun x y H Q => ∃ (a b : Addr) (l m : List Nat), x = .ref a ∧ y = .ref b ∧ LH H a l ∧ LH H b m ∧ l.length + m.length ≤ 1000000 ∧ RetL H (l ++ m) Q
theorem op_catN : OpR X (binaryOp .Add) rCatN := opr_imp op_cat fun x y H Q ⟨a, b, l, m, e1, e2, h1, h2, h3, q⟩ =>
  ⟨a, b, bs l, bs m, e1, e2, h1, h2, by rw [bs_len, bs_len]; exact sz_small h3, fun p hp => by rw [bs_app]; exact q.upd hp⟩
def rRepN : R2 := fun x y H Q => ∃ (a : Addr) (n k : Nat), x = .ref a ∧ y = .int (k : Int) ∧ LH H a [n] ∧ k ≤ 1000000 ∧ RetL H (List.replicate k n) Q
theorem op_repN : OpR X (binaryOp .Mult) rRepN := opr_imp op_rep fun x y H Q ⟨a, n, k, e1, e2, h1, h2, q⟩ =>
  ⟨a, k, bs [n], e1, e2, h1, by omega, by omega, by
    show 1 * _ ≤ sizeLine
    rw [Int.toNat_natCast, Nat.one_mul]; exact sz_small h2, fun p hp => by rw [Int.toNat_natCast, bs_rep]; exact q.upd hp⟩
def tLstN (t : TA) : TE := fun σ H Q => t σ H fun xs H1 => ∃ l : List Nat, xs = bs l ∧ l.length ≤ 1000000 ∧ RetL H1 l Q
theorem pe_lstN {es : List Expr} {t : TA} {pos : Pos} (h : PA X es t) : PE X (.List es pos) (tLstN t) := by
  intro pins s σ H Q I q
  have h' : PA X es (fun σ H Q' => ∃ Q0 : List V → Hp → Prop, t σ H Q0 ∧ ∀ xs H1, Q0 xs H1 → Q' xs H1) := fun pos pins s σ H Q' I ⟨Q0, a, b⟩ => by
    refine thn (h pos pins s σ H Q0 I a) fun us s' ⟨vs, H', i, r, z⟩ => ⟨vs, H', i, r, b _ _ z⟩
  refine pe_lst h' pins s σ H Q I ⟨_, q, ?_⟩
  rintro xs H1 ⟨l, rfl, hl, r⟩
  exact ⟨by rw [bs_len]; exact sz_small hl, fun p hp => r.upd hp⟩
def cutN (l : List Nat) : Option Int → Option Int → List Nat
  | some i, some j => (l.drop i.toNat).take (j.toNat - i.toNat)
  | some i, none => l.drop i.toNat
  | none, some j => l.take j.toNat
  | none, none => l
theorem cutN_on (l : List Nat) (j : Nat) : cutN l none (some (j : Int)) = l.take j := by simp only [cutN, Int.toNat_natCast]
theorem cutN_no (l : List Nat) (i : Nat) : cutN l (some (i : Int)) none = l.drop i := by simp only [cutN, Int.toNat_natCast]
theorem cutN_nn (l : List Nat) (i j : Nat) : cutN l (some (i : Int)) (some (j : Int)) = (l.drop i).take (j - i) := by simp only [cutN, Int.toNat_natCast]
def nnO : Option Int → Prop
  | some i => 0 ≤ i
  | none => True
theorem cut_eq (l : List Nat) : ∀ (lo hi : Option Int), nnO lo → nnO hi → cutV (bs l) lo hi = bs (cutN l lo hi)
  | some i, some j, h1, h2 => by
    obtain ⟨a, rfl⟩ := Int.eq_ofNat_of_zero_le h1
    obtain ⟨b, rfl⟩ := Int.eq_ofNat_of_zero_le h2
    exact cut_nn l a b
  | some i, none, h1, _ => by
    obtain ⟨a, rfl⟩ := Int.eq_ofNat_of_zero_le h1
    exact cut_no l a
  | none, some j, _, h2 => by
    obtain ⟨b, rfl⟩ := Int.eq_ofNat_of_zero_le h2
    exact cut_on l b
  | none, none, _, _ => by
    simp [cutV, cutN, HT.sIx_none]
    rw [List.take_of_length_le (by rw [bs_len]; exact Nat.le_refl _)]
def rSlN : V → Option Int → Option Int → Hp → VK → Prop := fun x lo hi H Q => ∃ (a : Addr) (l : List Nat), x = .ref a ∧ LH H a l ∧ nnO lo ∧ nnO hi ∧ RetL H (cutN l lo hi) Q
theorem sl_listN : SlR X rSlN := fun pins s σ H x v vl vu lo hi sl Q I rx hs pl pu ⟨a, l, e, h1, h2, h3, q⟩ =>
  sl_list pins s σ H x v vl vu lo hi sl Q I rx hs pl pu ⟨a, bs l, e, SqL.of h1, fun p hp => by rw [cut_eq l lo hi h2 h3]; exact q.upd hp⟩
def rLenN : List V → Hp → VK → Prop := fun xs H Q => ∃ (a : Addr) (l : List Nat), xs = [.ref a] ∧ LH H a l ∧ Q (.int (l.length : Int)) H
theorem call_lenN : CallR X (.builtin "len") rLenN := cr_imp call_len_seq fun xs H Q ⟨a, l, e, h, q⟩ => ⟨a, bs l, e, .inl (SqL.of h), by rw [bs_len]; exact q⟩
def rIxN : R2 := fun x y H Q => ∃ (a : Addr) (l : List Nat) (i n : Nat), x = .ref a ∧ y = .int (i : Int) ∧ LH H a l ∧ l[i]? = some n ∧ Q (.int (n : Int)) H
theorem ix_listN : IxR X rIxN := fun value slice pins s σ H x y v u Q I rx ry ⟨a, l, i, n, e1, e2, h, hi, q⟩ hs =>
  ix_list value slice pins s σ H x y v u Q I rx ry ⟨a, bs l, i, .int n, e1, e2, SqL.of h, atI_nat (bs_at hi), q⟩ hs
def rIxTN (K : PySem.W.Frag) : R2 := fun x y H Q => ∃ (a : Addr) (l : List Nat) (i n : Nat), x = .ref a ∧ y = .int (i : Int) ∧ SqT K H a (bs l) ∧ l[i]? = some n ∧ Q (.int (n : Int)) H
theorem ix_tupN : IxR X (rIxTN X.K) := fun value slice pins s σ H x y v u Q I rx ry ⟨a, l, i, n, e1, e2, h, hi, q⟩ hs =>
  ix_tup value slice pins s σ H x y v u Q I rx ry ⟨a, bs l, i, .int n, e1, e2, h, atI_nat (bs_at hi), q⟩ hs
def rListN (K : PySem.W.Frag) : List V → Hp → VK → Prop := fun xs H Q => ∃ (a : Addr) (l : List Nat), xs = [.ref a] ∧ (LH H a l ∨ SqT K H a (bs l)) ∧ RetL H l Q
theorem call_listN : CallR X (.type "list") (rListN X.K) := cr_imp call_list_of fun xs H Q ⟨a, l, e, h, q⟩ => ⟨a, bs l, e, h.imp (fun h => SqL.of h) id, fun p hp => q.upd hp⟩
def rSetN : TSet := fun o i v H Q => ∃ (a : Addr) (l : List Nat) (k n : Nat), o = .ref a ∧ i = .int (k : Int) ∧ v = .int (n : Int) ∧ LH H a l ∧ k < l.length ∧ Q (upd H a (.lst (bs (l.set k n))))
theorem set_listN : PSet X rSetN := fun pins s σ H o i v ov iv u Q I r1 r2 r3 ⟨a, l, k, n, e1, e2, e3, h, hk, q⟩ =>
  set_list pins s σ H o i v ov iv u Q I r1 r2 r3 ⟨a, bs l, k, k, e1, e2, h, by unfold ixN; rw [bs_len, if_pos (by omega), if_pos (by omega)]; simp, by rw [e3, bs_set]; exact q⟩
def rAppN : V → List V → Hp → VK → Prop := fun x vs H Q => ∃ (a : Addr) (l : List Nat) (n : Nat), x = .ref a ∧ vs = [.int (n : Int)] ∧ LH H a l ∧ l.length < 1000000 ∧ Q .non (upd H a (.lst (bs (l ++ [n]))))
theorem mt_appendN : MtR X "list.append" rAppN := fun pins s σ H x xs v us Q I rx rxs ⟨a, l, n, e1, e2, h, hk, q⟩ =>
  mt_append pins s σ H x xs v us Q I rx rxs ⟨a, bs l, .int n, e1, e2, h, by rw [bs_len, PySem.sizeLine_eq]; omega, by rw [← bs_app] at q; exact q⟩
def rExtN : V → List V → Hp → VK → Prop := fun x vs H Q => ∃ (a b : Addr) (l m : List Nat), x = .ref a ∧ vs = [.ref b] ∧ LH H a l ∧ LH H b m ∧ l.length + m.length ≤ 10000000 ∧ Q .non (upd H a (.lst (bs (l ++ m))))
theorem mt_extendN : MtR X "list.extend" rExtN := fun pins s σ H x xs v us Q I rx rxs ⟨a, b, l, m, e1, e2, h, h2, hk, q⟩ =>
  mt_extend pins s σ H x xs v us Q I rx rxs ⟨a, b, bs l, bs m, e1, e2, h, h2, by rw [bs_len, bs_len, PySem.sizeLine_eq]; omega, by rw [bs_app]; exact q⟩
theorem dp_bs {K : PySem.W.Frag} {H : Hp} : ∀ l : List Nat, DpAll K H (bs l) (l.map fun (n : Nat) => PyData.int (n : Int))
  | [] => .nil
  | n :: l => .cons (.int n) (dp_bs l)
def pdL (l : List Nat) : PyData := .list (l.map fun (n : Nat) => PyData.int (n : Int))
theorem canLay_ints : ∀ l : List Nat, PyData.canLayAll0 (l.map fun (n : Nat) => PyData.int (n : Int)) = true
  | [] => rfl
  | n :: l => by
    show (PyData.canLay0 (.int n) && PyData.canLayAll0 _) = true
    rw [canLay_ints l]; rfl
theorem depth_ints : ∀ l : List Nat, PyData.depthAll (l.map fun (n : Nat) => PyData.int (n : Int)) = 0
  | [] => rfl
  | n :: l => by
    show max (PyData.depth (.int n)) (PyData.depthAll _) = 0
    rw [depth_ints l]; rfl
theorem shaped_pdL (l : List Nat) : SeqAt.shaped (pdL l) = true := by
  have h1 : PyData.canLay0 (pdL l) = true := canLay_ints l
  have h2 : PyData.depth (pdL l) ≤ 64 := by
    show PyData.depthAll _ + 1 ≤ 64
    rw [depth_ints]; decide
  unfold SeqAt.shaped
  rw [h1, decide_eq_true h2]; rfl
def rEqN : R2 := fun x y H Q => ∃ (a b : Addr) (l m : List Nat), x = .ref a ∧ y = .ref b ∧ LH H a l ∧ LH H b m ∧ Q (.bl (decide (l = m))) H
def rNeN : R2 := fun x y H Q => (∃ (a b : Addr) (l m : List Nat), x = .ref a ∧ y = .ref b ∧ LH H a l ∧ LH H b m ∧ Q (.bl (!decide (l = m))) H) ∨ ∃ (b : Addr) (m : List Nat), x = .non ∧ y = .ref b ∧ LH H b m ∧ Q (.bl true) H
theorem eqv_pdL : ∀ l m : List Nat, PyData.eqv (pdL l) (pdL m) = decide (l = m) := by
  intro l m
  unfold pdL
  induction l generalizing m with
  | nil => cases m <;> simp [PyData.eqv, PyData.eqvAll]
  | cons a l ih =>
    cases m with
    | nil => simp [PyData.eqv, PyData.eqvAll]
    | cons b m =>
      have := ih m
      simp [PyData.eqv, PyData.eqvAll] at this ⊢
      rw [this]
      by_cases h : a = b
      · subst h; simp
      · have h2 : ¬ (a : Int) = (b : Int) := by omega
        simp [h, h2]
theorem op_eqN (hu : X.A.units + 64 < cLine) : OpR X (compareOp .Eq) rEqN := opr_imp (op_eqD hu) fun x y H Q ⟨a, b, l, m, e1, e2, h1, h2, q⟩ => by
  subst e1 e2
  exact ⟨pdL l, pdL m, .lst (SqL.of h1) (dp_bs l), .lst (SqL.of h2) (dp_bs m), shaped_pdL l, shaped_pdL m, by rw [eqv_pdL]; exact q⟩
theorem op_neN (hu : X.A.units + 64 < cLine) : OpR X (compareOp .NotEq) rNeN := opr_imp (op_neD hu) fun x y H Q h => by
  rcases h with ⟨a, b, l, m, e1, e2, h1, h2, q⟩ | ⟨b, m, e1, e2, h2, q⟩
  · subst e1 e2
    exact ⟨pdL l, pdL m, .lst (SqL.of h1) (dp_bs l), .lst (SqL.of h2) (dp_bs m), shaped_pdL l, shaped_pdL m, by rw [eqv_pdL]; exact q⟩
  · subst e1 e2
    exact ⟨.none, pdL m, .non, .lst (SqL.of h2) (dp_bs m), rfl, shaped_pdL m, by
      have : PyData.eqv .none (pdL m) = false := by simp [PyData.eqv, pdL]
      rw [this]; exact q⟩
def rGtN : R2 := fun x y H Q => ∃ (a b : Addr) (l m : List Nat), x = .ref a ∧ y = .ref b ∧ LH H a l ∧ LH H b m ∧ l.length = m.length ∧ Q (.bl (HT.lexGt (l.map fun (n : Nat) => (n : Int)) (m.map fun (n : Nat) => (n : Int)))) H
theorem op_gtN (hu : X.A.units < cLine) : OpR X (compareOp .Gt) rGtN := opr_imp (op_gtL hu) fun x y H Q ⟨a, b, l, m, e1, e2, h1, h2, hl, q⟩ =>
  ⟨a, b, _, _, e1, e2, by rw [List.map_map]; exact h1, by rw [List.map_map]; exact h2, by simp [hl], q⟩
end
end Tw
namespace Tw
open PySem L2
section
variable {X : Cx}
def r_addP : R2 := fun x y H Q => ∃ m n : Nat, x = .int (m : Int) ∧ y = .int (n : Int) ∧ Q (.int ((m + n : Nat) : Int)) H
theorem op_addP : OpR X (binaryOp .Add) r_addP := opr_imp op_add fun x y H Q ⟨m, n, e1, e2, q⟩ => ⟨m, n, e1, e2, q⟩
def r_subP : R2 := fun x y H Q => ∃ m n : Nat, x = .int (m : Int) ∧ y = .int (n : Int) ∧ (n ≤ m) ∧ Q (.int ((m - n : Nat) : Int)) H
theorem op_subP : OpR X (binaryOp .Sub) r_subP := opr_imp op_sub fun x y H Q ⟨m, n, e1, e2, c, q⟩ => ⟨m, n, e1, e2, by show Q (.int ((m : Int) - (n : Int))) H; rw [← Int.natCast_sub c]; exact q⟩
def r_mulP : R2 := fun x y H Q => ∃ m n : Nat, x = .int (m : Int) ∧ y = .int (n : Int) ∧ (m < 2 ^ 1000 ∧ n < 2 ^ 1000) ∧ Q (.int ((m * n : Nat) : Int)) H
theorem op_mulP : OpR X (binaryOp .Mult) r_mulP := opr_imp op_mulB fun x y H Q ⟨m, n, e1, e2, c, q⟩ => ⟨m, n, e1, e2, ⟨by simpa using c.1, by simpa using c.2⟩, q⟩
def r_modP : R2 := fun x y H Q => ∃ m n : Nat, x = .int (m : Int) ∧ y = .int (n : Int) ∧ (0 < n) ∧ Q (.int ((m % n : Nat) : Int)) H
theorem op_modP : OpR X (binaryOp .Mod) r_modP := opr_imp op_mod fun x y H Q ⟨m, n, e1, e2, c, q⟩ => ⟨m, n, e1, e2, by show (0 : Int) < n; omega, q⟩
def r_fdivP : R2 := fun x y H Q => ∃ m n : Nat, x = .int (m : Int) ∧ y = .int (n : Int) ∧ (0 < n ∧ n < 1073741824) ∧ Q (.int ((m / n : Nat) : Int)) H
theorem op_fdivP : OpR X (binaryOp .FloorDiv) r_fdivP := opr_imp op_fdiv fun x y H Q ⟨m, n, e1, e2, c, q⟩ => ⟨m, n, e1, e2, ⟨by show (0 : Int) < n; omega, by show (n : Int) < 1073741824; omega⟩, q⟩
def r_andP : R2 := fun x y H Q => ∃ m n : Nat, x = .int (m : Int) ∧ y = .int (n : Int) ∧ Q (.int ((m &&& n : Nat) : Int)) H
theorem op_andP : OpR X (binaryOp .BitAnd) r_andP := opr_imp op_and fun x y H Q ⟨m, n, e1, e2, q⟩ => ⟨m, n, e1, e2, by show Q (.int (Builtin.bitAnd (m : Int) (n : Int))) H; rw [and_nn]; exact q⟩
def r_orP : R2 := fun x y H Q => ∃ m n : Nat, x = .int (m : Int) ∧ y = .int (n : Int) ∧ Q (.int ((m ||| n : Nat) : Int)) H
theorem op_orP : OpR X (binaryOp .BitOr) r_orP := opr_imp op_or fun x y H Q ⟨m, n, e1, e2, q⟩ => ⟨m, n, e1, e2, by show Q (.int (Builtin.bitOr (m : Int) (n : Int))) H; rw [or_nn]; exact q⟩
def r_xorP : R2 := fun x y H Q => ∃ m n : Nat, x = .int (m : Int) ∧ y = .int (n : Int) ∧ Q (.int ((m ^^^ n : Nat) : Int)) H
theorem op_xorP : OpR X (binaryOp .BitXor) r_xorP := opr_imp op_xor fun x y H Q ⟨m, n, e1, e2, q⟩ => ⟨m, n, e1, e2, by show Q (.int (Builtin.bitXor (m : Int) (n : Int))) H; rw [xor_nn]; exact q⟩
def r_shlP : R2 := fun x y H Q => ∃ m n : Nat, x = .int (m : Int) ∧ y = .int (n : Int) ∧ (m < 2 ^ 64 ∧ n ≤ 1000000) ∧ Q (.int ((m * 2 ^ n : Nat) : Int)) H
theorem op_shlP : OpR X (binaryOp .LShift) r_shlP := opr_imp op_shl fun x y H Q ⟨m, n, e1, e2, c, q⟩ => ⟨m, n, e1, e2, ⟨by omega, by omega, by simpa using c.1⟩, by show Q (.int ((m : Int) * 2 ^ (n : Int).toNat)) H; rw [shl_nn]; exact q⟩
def r_shrP : R2 := fun x y H Q => ∃ m n : Nat, x = .int (m : Int) ∧ y = .int (n : Int) ∧ Q (.int ((m / 2 ^ n : Nat) : Int)) H
theorem op_shrP : OpR X (binaryOp .RShift) r_shrP := opr_imp op_shr fun x y H Q ⟨m, n, e1, e2, q⟩ => ⟨m, n, e1, e2, by omega, by show Q (.int ((m : Int) / 2 ^ (n : Int).toNat)) H; rw [shr_nn]; exact q⟩
def r_ltP : R2 := fun x y H Q => ∃ m n : Nat, x = .int (m : Int) ∧ y = .int (n : Int) ∧ Q (.bl (decide (m < n))) H
theorem op_ltP : OpR X (compareOp .Lt) r_ltP := opr_imp op_lt fun x y H Q ⟨m, n, e1, e2, q⟩ => ⟨m, n, e1, e2, by
  have e : decide ((m : Int) < (n : Int)) = decide (m < n) := by simp
  show Q (.bl (decide ((m : Int) < (n : Int)))) H
  rw [e]; exact q⟩
def r_gtP : R2 := fun x y H Q => ∃ m n : Nat, x = .int (m : Int) ∧ y = .int (n : Int) ∧ Q (.bl (decide (n < m))) H
theorem op_gtP : OpR X (compareOp .Gt) r_gtP := opr_imp op_gt fun x y H Q ⟨m, n, e1, e2, q⟩ => ⟨m, n, e1, e2, by
  have e : decide ((n : Int) < (m : Int)) = decide (n < m) := by simp
  show Q (.bl (decide ((n : Int) < (m : Int)))) H
  rw [e]; exact q⟩
def r_geP : R2 := fun x y H Q => ∃ m n : Nat, x = .int (m : Int) ∧ y = .int (n : Int) ∧ Q (.bl (decide (n ≤ m))) H
theorem op_geP : OpR X (compareOp .GtE) r_geP := opr_imp op_ge fun x y H Q ⟨m, n, e1, e2, q⟩ => ⟨m, n, e1, e2, by
  have e : decide ((n : Int) ≤ (m : Int)) = decide (n ≤ m) := by simp
  show Q (.bl (decide ((n : Int) ≤ (m : Int)))) H
  rw [e]; exact q⟩
theorem dec_nn (m n : Nat) : decide (V.int (m : Int) = V.int (n : Int)) = decide (m = n) := by
  by_cases h : m = n
  · subst h; simp
  · have : ¬ V.int (m : Int) = V.int (n : Int) := by intro e; injection e with e; omega
    rw [decide_eq_false h, decide_eq_false this]
def r_eqP : R2 := fun x y H Q => ∃ m n : Nat, x = .int (m : Int) ∧ y = .int (n : Int) ∧ Q (.bl (decide (m = n))) H
def r_neP : R2 := fun x y H Q => ∃ m n : Nat, x = .int (m : Int) ∧ y = .int (n : Int) ∧ Q (.bl (!decide (m = n))) H
theorem op_eqP : OpR X (compareOp .Eq) r_eqP := opr_imp op_eq fun x y H Q ⟨m, n, e1, e2, q⟩ => by
  subst e1 e2
  exact ⟨rfl, by rw [dec_nn]; exact q⟩
theorem op_neP : OpR X (compareOp .NotEq) r_neP := opr_imp op_ne fun x y H Q ⟨m, n, e1, e2, q⟩ => by
  subst e1 e2
  exact ⟨rfl, by rw [dec_nn]; exact q⟩
end
theorem for_rangeP {lo n : Nat} {g : TG} {tb : TS} {D : Ends} {σ : St} {H : Hp} (Pv : Nat → St → Hp → Prop) (h0 : Pv 0 σ H)
    (hs : ∀ i σ H, i < n → Pv i σ H → g (.int ((lo + i : Nat) : Int)) σ H fun σ2 H2 => tb { D with nx := Pv (i + 1), ct := Pv (i + 1), bk := D.nx } σ2 H2) (hd : ∀ σ H, Pv n σ H → D.nx σ H) :
    ∃ W : Nat → Nat → St → Hp → Prop, (∃ m, W 0 m σ H) ∧ ∀ i m σ H, W i m σ H →
      ((Itr (lo : Int) n).stop i H ∧ D.nx σ H) ∨ ((Itr (lo : Int) n).go i H ∧ ∃ N : St → Hp → Prop, (∀ σ' H', N σ' H' → ∃ m', m' < m ∧ W (i + 1) m' σ' H') ∧ ∀ x H', (Itr (lo : Int) n).yld i H x H' → g x σ H' fun σ2 H2 => tb { D with nx := N, ct := N, bk := D.nx } σ2 H2) :=
  for_range (lo := (lo : Int)) (n := n) Pv h0 (fun i σ H hi p => hs i σ H hi p) hd
theorem for_rangeCP {lo c n : Nat} {g : TG} {tb : TS} {D : Ends} {σ : St} {H : Hp} (Pv : Nat → St → Hp → Prop) (h0 : Pv 0 σ H)
    (hs : ∀ i σ H, i < n → Pv i σ H → g (.int ((lo + i * c : Nat) : Int)) σ H fun σ2 H2 => tb { D with nx := Pv (i + 1), ct := Pv (i + 1), bk := D.nx } σ2 H2) (hd : ∀ σ H, Pv n σ H → D.nx σ H) :
    ∃ W : Nat → Nat → St → Hp → Prop, (∃ m, W 0 m σ H) ∧ ∀ i m σ H, W i m σ H →
      ((Itc (lo : Int) (c : Int) n).stop i H ∧ D.nx σ H) ∨ ((Itc (lo : Int) (c : Int) n).go i H ∧ ∃ N : St → Hp → Prop, (∀ σ' H', N σ' H' → ∃ m', m' < m ∧ W (i + 1) m' σ' H') ∧ ∀ x H', (Itc (lo : Int) (c : Int) n).yld i H x H' → g x σ H' fun σ2 H2 => tb { D with nx := N, ct := N, bk := D.nx } σ2 H2) :=
  for_rangeC (lo := (lo : Int)) (c := (c : Int)) (n := n) Pv h0 (fun i σ H hi p => hs i σ H hi p) hd
theorem lc_rangeP {lo n : Nat} {g : TG} {tt : TT} {te : TE} {vs : List Nat} {σ : St} {H1 : Hp} {D : Addr} {Qd : Hp → Prop} (Pv : Nat → Hp → Prop) (h0 : Pv 0 (upd H1 D (.lst [])))
    (hs : ∀ i H, i < n → Pv i H → g (.int ((lo + i : Nat) : Int)) (wipe σ vs) H fun σ2 H2 => wipe σ2 vs = wipe σ vs ∧ tt σ2 H2 fun b H3 =>
      if b = true then te σ2 H3 fun y H4 => ∃ acc, H4 D = some (.lst acc) ∧ acc.length < sizeLine ∧ Pv (i + 1) (upd H4 D (.lst (acc ++ [y]))) else Pv (i + 1) H3) (hd : ∀ H, Pv n H → Qd H) :
    ∃ W : Nat → Nat → Hp → Prop, (∃ m, W 0 m (upd H1 D (.lst []))) ∧ ∀ i m H, W i m H →
      ((Itr (lo : Int) n).stop i H ∧ Qd H) ∨ ((Itr (lo : Int) n).go i H ∧ ∃ Nx : Hp → Prop, (∀ H', Nx H' → ∃ m', m' < m ∧ W (i + 1) m' H') ∧ ∀ x H', (Itr (lo : Int) n).yld i H x H' → g x (wipe σ vs) H' fun σ2 H2 => wipe σ2 vs = wipe σ vs ∧ tt σ2 H2 fun b H3 =>
        if b = true then te σ2 H3 fun y H4 => ∃ acc, H4 D = some (.lst acc) ∧ acc.length < sizeLine ∧ Nx (upd H4 D (.lst (acc ++ [y]))) else Nx H3) :=
  lc_range (lo := (lo : Int)) (n := n) Pv h0 (fun i H hi p => hs i H hi p) hd
theorem rgC_up {n c : Nat} (hn : n ≤ 1000000) (hc : 0 < c) (hc2 : c ≤ 1000) : RgC 0 (n : Int) (c : Int) ((n + (c - 1)) / c) := by
  have hs : Builtin.Range.rangeSize 0 (n : Int) (c : Int) = ((((n + (c - 1)) / c : Nat)) : Int) := by
    unfold Builtin.Range.rangeSize
    rw [if_pos (by omega)]
    by_cases h : n = 0
    · subst h
      rw [if_neg (by omega), Nat.zero_add, Nat.div_eq_of_lt (by omega)]
      rfl
    · rw [if_pos (by omega)]
      have e1 : ((n : Int) - 0 - 1) = ((n - 1 : Nat) : Int) := by omega
      have e2 : n + (c - 1) = (n - 1) + c := by omega
      rw [e1, e2, Nat.add_div_right _ hc]
      push_cast
      rfl
  have hle : (n + (c - 1)) / c ≤ n + (c - 1) := Nat.div_le_self _ _
  refine ⟨by omega, by omega, ?_, hs⟩
  unfold Builtin.Range.small
  rw [hs]
  have f : ∀ z : Int, -(2 ^ 63) ≤ z → z < 2 ^ 63 → Builtin.Range.rangeFitsLong z = true := fun z a b => by
    unfold Builtin.Range.rangeFitsLong
    rw [decide_eq_true a, decide_eq_true b]; rfl
  rw [f 0 (by omega) (by omega), f n (by omega) (by omega), f c (by omega) (by omega), f ((((n + (c - 1)) / c : Nat)) : Int) (by exact Int.le_trans (by decide) (Int.natCast_nonneg _)) (by omega), if_pos (by omega), f ((n : Int) + ((c : Int) - 1)) (by omega) (by omega)]
  simp
end Tw
open L2 in
local macro_rules | `(tactic| walk_at "tw nf") => `(tactic| dsimp only [gName, L2.start, List.map, List.length_cons, List.length_nil, Nat.reduceAdd, Nat.reduceSub, List.reduceReplicate, List.cons_append, List.nil_append, List.set_cons_zero, List.set_cons_succ])
namespace Tw
open PySem L2
open Sd16 (number little)
def sp_number_of (K : PySem.W.Frag) (A : Ad) : Sp := fun vs H Q _ => ∃ (a : Addr) (l : List Nat), vs = [.ref a] ∧ LH H a l ∧ Byt l ∧ l.length ≤ 100000 ∧ RetV H (.int (number l : Nat)) Q
def sp_octets_of (K : PySem.W.Frag) (A : Ad) : Sp := fun vs H Q _ => ∃ (n k : Nat), vs = [.int n, .int k] ∧ k ≤ 1000 ∧ RetL H (little k n) Q
def sp_words_of (K : PySem.W.Frag) (A : Ad) : Sp := fun vs H Q _ => ∃ (a : Addr) (l : List Nat), vs = [.ref a] ∧ LH H a l ∧ Byt l ∧ l.length ≤ 100000 ∧ RetL H (wordsL l) Q
def sp_octets_of_text (K : PySem.W.Frag) (A : Ad) : Sp := fun vs H Q _ => ∃ x : Str, vs = [.str x] ∧ x.length ≤ 1000 ∧ RetL H x.cps.toList Q
def sp_filled (K : PySem.W.Frag) (A : Ad) : Sp := fun vs H Q _ => ∃ (a : Addr) (l : List Nat) (k : Nat), vs = [.ref a, .int k] ∧ LH H a l ∧ l.length ≤ 100000 ∧ 0 < k ∧ k ≤ 1000 ∧ RetL H (l ++ List.replicate ((k - l.length % k) % k) 0) Q
theorem sc_filled : FnScope ["octets", "size", "missing"] ["octets", "size"] (defScope s_filled) := ⟨by kernel_rfl, by kernel_rfl, by kernel_rfl, by decide +kernel, by kernel_rfl, by decide +kernel, by decide +kernel⟩
theorem ok_filled {P : Program} {w : World} {K : PySem.W.Frag} {mg : Str → Option Value} {base : Heap} {A : Ad} (T : Tx K mg A) : FnOk P w K mg base CX0 1 A.f_filled A.d_filled ["octets", "size"] (sp_filled K A) := by
  have nd := sc_filled.nd
  refine T.F_filled.fn.ok sc_filled (fun vs H Q E h => ?_) (fun cdv A' outer s H vs Q E hr h => ?_)
  · obtain ⟨a, l, k, rfl, _⟩ := h
    rfl
  · obtain ⟨a, l, k, rfl, hl, hn, hk, hk2, q⟩ := h
    refine ⟨_, (pss_cons (ps_set (i := 2) nd (by rfl) (Or.inl (by rfl)) (pe_op op_modP (pe_op op_subP (pv 1) (pe_op op_modP (pe_callB call_lenN (gl_of (by kernel_rfl)) T.N_len PySem.boot_len (pa_cons (pv 0) pa_nil)) (pv 1))) (pv 1)))
      (pss_one (ps_ret (pe_op op_catN (pv 0) (pe_op op_repN (pe_lstN (pa_cons (pe_nat 0) pa_nil)) (pv 2)))))), ?_⟩
    refine ⟨_, rfl, _, rfl, a, l, rfl, hl, _, rfl, _, _, rfl, rfl, hk, _, _, rfl, rfl, Nat.le_of_lt (Nat.mod_lt _ hk), _, rfl, _, _, rfl, rfl, hk, ?_⟩
    have hm : (k - l.length % k) % k ≤ 1000 := Nat.le_trans (Nat.le_of_lt (Nat.mod_lt _ hk)) hk2
    refine ⟨_, rfl, [0], rfl, (by decide), fun z H1 hz s1 lz => ⟨_, rfl, z, 0, _, rfl, rfl, lz, (by omega), fun p H2 hp s2 lp => ⟨a, p, l, _, rfl, rfl, s2 _ _ (s1 _ _ hl), lp, ?_, fun r H3 hr3 s3 lr => ?_⟩⟩⟩
    · rw [List.length_replicate]; omega
    · have s13 := (s1.trans s2)
      exact q r H3 (s13.free hr3) (s13.trans s3) lr
theorem sc_number_of : FnScope ["octets", "number", "place", "octet"] ["octets"] (defScope s_number_of) := ⟨by kernel_rfl, by kernel_rfl, by kernel_rfl, by decide +kernel, by kernel_rfl, by decide +kernel, by decide +kernel⟩
theorem ok_number_of {P : Program} {w : World} {K : PySem.W.Frag} {mg : Str → Option Value} {base : Heap} {A : Ad} (T : Tx K mg A) : FnOk P w K mg base CX0 1 A.f_number_of A.d_number_of ["octets"] (sp_number_of K A) := by
  have nd := sc_number_of.nd
  refine T.F_number_of.fn.ok sc_number_of (fun vs H Q E h => ?_) (fun cdv A' outer s H vs Q E hr h => ?_)
  · obtain ⟨a, l, rfl, _⟩ := h
    rfl
  · obtain ⟨a, l, rfl, hl, hb, hn, q⟩ := h
    refine ⟨_, (pss_cons (ps_set (i := 1) nd (by rfl) (Or.inl (by rfl)) (pe_nat 0))
      (pss_cons (ps_for PassesOwn.never rfl (pi_enum (gl_of (by kernel_rfl)) T.N_enumerate (pa_cons (pv 0) pa_nil)) (pg_tup (n := 2) rfl (pgs_cons (pg_name (i := 2) nd (by rfl) (Or.inl (by rfl))) (pgs_cons (pg_name (i := 3) nd (by rfl) (Or.inl (by rfl))) pgs_nil))) (pss_one (ps_set (i := 1) nd (by rfl) (Or.inl (by rfl)) (pe_op op_orP (pv 1) (pe_op op_shlP (pv 3) (pe_op op_mulP (pe_nat 8) (pv 2)))))))
      (pss_one (ps_ret (pv 1))))), ?_⟩
    refine ⟨_, rfl, a, bs l, rfl, SqL.of hl, for_enum (K := K) (a := a) (xs := bs l) (fun i σ H2 => ∃ v2 v3, σ = [some (.ref a), some (.int (number (l.take i) : Nat)), v2, v3] ∧ Same H H2)
      ⟨none, none, rfl, Same.refl H⟩ (fun i σ H2 _ ⟨_, _, _, s2⟩ => SqL.of (s2 _ _ hl)) ?_ ?_⟩
    · rintro i x σ H2 T2 hi ⟨v2, v3, rfl, s2⟩ hT
      obtain ⟨c, hc, rfl⟩ := bs_get hi
      have hil : i < l.length := (List.getElem?_eq_some_iff.mp hc).1
      have hcb : c < 256 := hb c (List.mem_of_getElem? hc)
      refine ⟨T2, _, rfl, SqT.of upd_same, rfl, _, _, rfl, _, _, rfl, rfl, ?_⟩
      refine ⟨_, rfl, _, rfl, _, rfl, _, _, rfl, rfl, ⟨small_pow (by decide), small_pow (by omega)⟩, _, _, rfl, rfl, ⟨(by omega), (by show 8 * i ≤ 1000000; omega)⟩, _, _, rfl, rfl, ?_⟩
      refine ⟨some (.int (i : Nat)), some (.int (c : Nat)), ?_, same_new s2 ?_⟩
      · have e1 : number (l.take i) ||| c * 2 ^ (8 * i) = number (l.take (i + 1)) := by
          rw [number_turn hc, Nat.or_comm, Nat.mul_comm c, ← Nat.two_pow_add_eq_or_of_lt (number_take_lt hb i)]
          omega
        rw [e1]
        rfl
      · exact s2.free hT
    · rintro σ H2 ⟨v2, v3, rfl, s2⟩
      refine ⟨_, rfl, ?_⟩
      rw [List.take_of_length_le (by rw [bs_len]; exact Nat.le_refl _)]
      exact q _ s2
end Tw
namespace Tw
open PySem L2
open Sd16 (number little)
theorem sc_octets_of : FnScope ["number", "size", "place"] ["number", "size"] (defScope s_octets_of) := ⟨by kernel_rfl, by kernel_rfl, by kernel_rfl, by decide +kernel, by kernel_rfl, by decide +kernel, by decide +kernel⟩
theorem ok_octets_of {P : Program} {w : World} {K : PySem.W.Frag} {mg : Str → Option Value} {base : Heap} {A : Ad} (T : Tx K mg A) : FnOk P w K mg base CX0 1 A.f_octets_of A.d_octets_of ["number", "size"] (sp_octets_of K A) := by
  have nd := sc_octets_of.nd
  refine T.F_octets_of.fn.ok sc_octets_of (fun vs H Q E h => ?_) (fun cdv A' outer s H vs Q E hr h => ?_)
  · obtain ⟨n, k, rfl, _⟩ := h
    rfl
  · obtain ⟨n, k, rfl, hk, q⟩ := h
    refine ⟨_, (pss_one (ps_ret (pe_lc rfl nd (pi_range1 (gl_of (by kernel_rfl)) T.N_range (pa_cons (pv 1) pa_nil)) (blkOk_by (own := [("place", 2)]) (by kernel_rfl)) (fun _ _ _ _ _ => (pg_name (i := 2) nd (by rfl) (Or.inl (by rfl)))) (fun _ _ _ _ _ => pts_nil) (fun _ _ _ _ _ => (pe_op op_andP (pe_op op_shrP (pv 0) (pe_op op_mulP (pe_nat 8) (pv 2))) (pe_nat 255)))))), ?_⟩
    refine ⟨_, rfl, _, rfl, (by omega), (by omega), fun D hD => lc_rangeP (lo := 0) (n := k) (fun i H2 => Same H H2 ∧ LH H2 D ((little k n).take i)) ⟨same_lay hD, upd_same⟩ ?_ ?_⟩
    · rintro i H2 hi ⟨s2, l2⟩
      refine ⟨rfl, ?_⟩
      refine ⟨_, rfl, _, rfl, _, _, rfl, rfl, ⟨small_pow (by decide), small_pow (by omega)⟩, _, _, rfl, rfl, _, _, rfl, rfl, _, l2, ?_, same_new s2 hD, ?_⟩
      · rw [bs_len, List.length_take, little_length, PySem.sizeLine_eq]; omega
      · show upd _ D _ D = _
        have e1 : n / 2 ^ (8 * (0 + i)) &&& 255 = n / 2 ^ (8 * i) % 256 := by
          rw [Nat.zero_add]; exact Nat.and_two_pow_sub_one_eq_mod _ 8
        rw [upd_same, take_succ_of (little_get hi), ← bs_app, e1]
        rfl
    · rintro H2 ⟨s2, l2⟩
      rw [List.take_of_length_le (by rw [little_length]; exact Nat.le_refl _)] at l2
      exact q D H2 hD s2 l2
theorem sc_octets_of_text : FnScope ["text", "sign"] ["text"] (defScope s_octets_of_text) := ⟨by kernel_rfl, by kernel_rfl, by kernel_rfl, by decide +kernel, by kernel_rfl, by decide +kernel, by decide +kernel⟩
theorem ok_octets_of_text {P : Program} {w : World} {K : PySem.W.Frag} {mg : Str → Option Value} {base : Heap} {A : Ad} (T : Tx K mg A) : FnOk P w K mg base CX0 1 A.f_octets_of_text A.d_octets_of_text ["text"] (sp_octets_of_text K A) := by
  have nd := sc_octets_of_text.nd
  refine T.F_octets_of_text.fn.ok sc_octets_of_text (fun vs H Q E h => ?_) (fun cdv A' outer s H vs Q E hr h => ?_)
  · obtain ⟨x, rfl, _⟩ := h
    rfl
  · obtain ⟨x, rfl, hx, q⟩ := h
    refine ⟨_, (pss_one (ps_ret (pe_lc rfl nd (pi_str (pv 0)) (blkOk_by (own := [("sign", 1)]) (by kernel_rfl)) (fun _ _ _ _ _ => (pg_name (i := 1) nd (by rfl) (Or.inl (by rfl)))) (fun _ _ _ _ _ => pts_nil) (fun _ _ _ _ _ => (pe_callB call_ord (gl_of (by kernel_rfl)) T.N_ord bt_ord (pa_cons (pv 1) pa_nil)))))), ?_⟩
    have hx' : x.cps.toList.length ≤ 1000 := by have := hx; unfold Str.length at this; simpa using this
    refine ⟨_, rfl, x, rfl, fun D hD => lc_str (x := x) (fun i H2 => Same H H2 ∧ LH H2 D (x.cps.toList.take i)) ⟨same_lay hD, upd_same⟩ ?_ ?_⟩
    · rintro i c H2 hc ⟨s2, l2⟩
      refine ⟨rfl, ?_⟩
      refine ⟨_, rfl, _, rfl, rfl, _, l2, ?_, same_new s2 hD, ?_⟩
      · rw [bs_len, List.length_take, PySem.sizeLine_eq]; omega
      · show upd _ D _ D = _
        rw [upd_same, take_succ_of hc, ← bs_app]
        rfl
    · rintro H2 ⟨s2, l2⟩
      rw [List.take_of_length_le (Nat.le_refl _)] at l2
      exact q D H2 hD s2 l2
theorem sc_words_of : FnScope ["octets", "words", "at"] ["octets"] (defScope s_words_of) := ⟨by kernel_rfl, by kernel_rfl, by kernel_rfl, by decide +kernel, by kernel_rfl, by decide +kernel, by decide +kernel⟩
theorem wordsL_get {l : List Nat} {i : Nat} (h : i < (l.length + 3) / 4) : (wordsL l)[i]? = some (number ((l.drop (4 * i)).take 4)) := by
  simp [wordsL, h]
theorem ok_words_of {P : Program} {w : World} {K : PySem.W.Frag} {mg : Str → Option Value} {base : Heap} {A : Ad} (T : Tx K mg A) : FnOk P w K mg base CX0 2 A.f_words_of A.d_words_of ["octets"] (sp_words_of K A) := by
  have G_number_of := ok_number_of (P := P) (w := w) (base := base) T
  have nd := sc_words_of.nd
  refine T.F_words_of.fn.ok sc_words_of (fun vs H Q E h => ?_) (fun cdv A' outer s H vs Q E hr h => ?_)
  · obtain ⟨a, l, rfl, _⟩ := h
    rfl
  · obtain ⟨a, l, rfl, hl, hb, hn, q⟩ := h
    refine ⟨_, (pss_cons (ps_set (i := 1) nd (by rfl) (Or.inl (by rfl)) (pe_lstN pa_nil))
      (pss_cons (ps_for PassesOwn.never rfl (pi_range3 (gl_of (by kernel_rfl)) T.N_range (pa_cons (pe_nat 0) (pa_cons (pe_callB call_lenN (gl_of (by kernel_rfl)) T.N_len PySem.boot_len (pa_cons (pv 0) pa_nil)) (pa_cons (pe_nat 4) pa_nil)))) (pg_name (i := 2) nd (by rfl) (Or.inl (by rfl))) (pss_one (ps_expr (pe_bm PySem.F.plainAttrs_list PySem.F.slot_list_append PySem.F.type_list_append mt_appendN (pv 1) (pa_cons (pe_call G_number_of (hr.mono (by decide)) (gl_of (by kernel_rfl)) T.F_number_of.mg T.F_number_of.kp T.F_number_of.bd .nil pass0 (pa_cons (pe_slice sl_listN (pv 0) (po_some (pv 2)) (po_some (pe_op op_addP (pv 2) (pe_nat 4)))) pa_nil)) pa_nil)))))
      (pss_one (ps_ret (pv 1))))), ?_⟩
    refine ⟨[], rfl, (by decide), fun w0 H1 hw s1 lw => ?_⟩
    refine ⟨_, rfl, a, l, rfl, s1 _ _ hl, 0, (l.length : Int), 4, (l.length + 3) / 4, rfl, rgC_up (c := 4) (by omega) (by omega) (by omega), for_rangeCP (lo := 0) (c := 4) (n := (l.length + 3) / 4)
      (fun i σ H2 => ∃ v2, σ = [some (.ref a), some (.ref w0), v2] ∧ Same H H2 ∧ LH H2 w0 ((wordsL l).take i)) ⟨none, rfl, s1, lw⟩ ?_ ?_⟩
    · rintro i σ H2 hi ⟨v2, rfl, s2, l2⟩
      refine ⟨_, rfl, .inl ⟨rfl, _, SqL.of l2⟩, _, rfl, _, rfl, _, rfl, _, rfl, _, _, rfl, rfl, _, rfl, a, l, rfl, s2 _ _ hl, (by show (0 : Int) ≤ _; omega), (by show (0 : Int) ≤ _; omega), fun p H3 hp s3 lp => ?_⟩
      have ec : cutN l (some ((0 + i * 4 : Nat) : Int)) (some ((0 + i * 4 + 4 : Nat) : Int)) = (l.drop (4 * i)).take 4 := by
        simp only [cutN, Int.toNat_natCast]
        rw [show 0 + i * 4 + 4 - (0 + i * 4) = 4 by omega, show 0 + i * 4 = 4 * i by omega]
      rw [ec] at lp
      refine ⟨p, _, rfl, lp, (hb.drop _).take _, ?_, fun H4 s4 => ⟨w0, _, _, rfl, rfl, s4 _ _ (s3 _ _ l2), ?_, some (.int ((0 + i * 4 : Nat) : Int)), rfl, same_new (s2.trans (s3.trans s4)) hw, ?_⟩⟩
      · rw [List.length_take]; omega
      · rw [List.length_take, wordsL_len]; omega
      · show upd _ w0 _ w0 = _
        rw [upd_same, take_succ_of (wordsL_get hi)]
    · rintro σ H2 ⟨v2, rfl, s2, l2⟩
      rw [List.take_of_length_le (by rw [wordsL_len]; exact Nat.le_refl _)] at l2
      exact ⟨_, rfl, q w0 H2 hw s2 l2⟩
end Tw
namespace Tw
open PySem L2
open Sd16 (number little ror mix compress START ORDERS)
theorem and_low32 (n : Nat) : n &&& 4294967295 = n % 2 ^ 32 := Nat.and_two_pow_sub_one_eq_mod n 32
theorem ror_p {t n : Nat} (hn : n ≤ 32) (ht : t < 2 ^ 32) (m : Nat) (hm : m = 32 - n) : t / 2 ^ n ||| t * 2 ^ m &&& 4294967295 = ror t n := by
  subst hm
  rw [and_low32, ror_or hn ht]
theorem lt64 {n : Nat} (h : n < 2 ^ 32) : n < 2 ^ 64 := by omega
theorem getD_some {l : List Nat} {i : Nat} (h : i < l.length) : l[i]? = some (l.getD i 0) := by
  rw [List.getD_eq_getElem?_getD, List.getElem?_eq_getElem h]; rfl
def sp_mix (K : PySem.W.Frag) (A : Ad) : Sp := fun vs H Q _ => ∃ (w : Addr) (v : List Nat) (a b c d x y : Nat), vs = [.ref w, .int a, .int b, .int c, .int d, .int x, .int y] ∧ LH H w v ∧ v.length = 16 ∧ W32 v ∧ P4 a b c d ∧
  Q .non (upd H w (.lst (bs (mix v ((a, b, c, d), x, y)))))
theorem sc_mix : FnScope ["work", "a", "b", "c", "d", "x", "y", "one", "turned", "four", "three", "two"] ["work", "a", "b", "c", "d", "x", "y"] (defScope s_mix) := ⟨by kernel_rfl, by kernel_rfl, by kernel_rfl, by decide +kernel, by kernel_rfl, by decide +kernel, by decide +kernel⟩
theorem ok_mix {P : Program} {w : World} {K : PySem.W.Frag} {mg : Str → Option Value} {base : Heap} {A : Ad} (T : Tx K mg A) : FnOk P w K mg base CX0 1 A.f_mix A.d_mix ["work", "a", "b", "c", "d", "x", "y"] (sp_mix K A) := by
  have nd := sc_mix.nd
  refine T.F_mix.fn.ok sc_mix (fun vs H Q E h => ?_) (fun cdv A' outer s H vs Q E hr h => ?_)
  · obtain ⟨w, v, a, b, c, d, x, y, rfl, _⟩ := h
    rfl
  · obtain ⟨w, v, a, b, c, d, x, y, rfl, hL, hlen, hw, h4, q⟩ := h
    refine ⟨_, (pss_cons (ps_set (i := 7) nd (by rfl) (Or.inl (by rfl)) (pe_op op_andP (pe_op op_addP (pe_op op_addP (pe_ix ix_listN (pv 0) (pv 1) (fun _ _ => rfl)) (pe_ix ix_listN (pv 0) (pv 2) (fun _ _ => rfl))) (pv 5)) (pe_const (gl_of (by kernel_rfl)) T.M_LOW_blake)))
      (pss_cons (ps_set (i := 8) nd (by rfl) (Or.inl (by rfl)) (pe_op op_xorP (pe_ix ix_listN (pv 0) (pv 4) (fun _ _ => rfl)) (pv 7)))
      (pss_cons (ps_set (i := 9) nd (by rfl) (Or.inl (by rfl)) (pe_op op_orP (pe_op op_shrP (pv 8) (pe_nat 16)) (pe_op op_andP (pe_op op_shlP (pv 8) (pe_nat 16)) (pe_const (gl_of (by kernel_rfl)) T.M_LOW_blake))))
      (pss_cons (ps_set (i := 10) nd (by rfl) (Or.inl (by rfl)) (pe_op op_andP (pe_op op_addP (pe_ix ix_listN (pv 0) (pv 3) (fun _ _ => rfl)) (pv 9)) (pe_const (gl_of (by kernel_rfl)) T.M_LOW_blake)))
      (pss_cons (ps_set (i := 8) nd (by rfl) (Or.inl (by rfl)) (pe_op op_xorP (pe_ix ix_listN (pv 0) (pv 2) (fun _ _ => rfl)) (pv 10)))
      (pss_cons (ps_set (i := 11) nd (by rfl) (Or.inl (by rfl)) (pe_op op_orP (pe_op op_shrP (pv 8) (pe_nat 12)) (pe_op op_andP (pe_op op_shlP (pv 8) (pe_nat 20)) (pe_const (gl_of (by kernel_rfl)) T.M_LOW_blake))))
      (pss_cons (ps_set (i := 7) nd (by rfl) (Or.inl (by rfl)) (pe_op op_andP (pe_op op_addP (pe_op op_addP (pv 7) (pv 11)) (pv 6)) (pe_const (gl_of (by kernel_rfl)) T.M_LOW_blake)))
      (pss_cons (ps_set (i := 8) nd (by rfl) (Or.inl (by rfl)) (pe_op op_xorP (pv 9) (pv 7)))
      (pss_cons (ps_set (i := 9) nd (by rfl) (Or.inl (by rfl)) (pe_op op_orP (pe_op op_shrP (pv 8) (pe_nat 8)) (pe_op op_andP (pe_op op_shlP (pv 8) (pe_nat 24)) (pe_const (gl_of (by kernel_rfl)) T.M_LOW_blake))))
      (pss_cons (ps_set (i := 10) nd (by rfl) (Or.inl (by rfl)) (pe_op op_andP (pe_op op_addP (pv 10) (pv 9)) (pe_const (gl_of (by kernel_rfl)) T.M_LOW_blake)))
      (pss_cons (ps_set (i := 8) nd (by rfl) (Or.inl (by rfl)) (pe_op op_xorP (pv 11) (pv 10)))
      (pss_cons (ps_asg (pv 7) (pg_sub (pv 0) (pv 1) set_listN))
      (pss_cons (ps_asg (pe_op op_orP (pe_op op_shrP (pv 8) (pe_nat 7)) (pe_op op_andP (pe_op op_shlP (pv 8) (pe_nat 25)) (pe_const (gl_of (by kernel_rfl)) T.M_LOW_blake))) (pg_sub (pv 0) (pv 2) set_listN))
      (pss_cons (ps_asg (pv 10) (pg_sub (pv 0) (pv 3) set_listN))
      (pss_one (ps_asg (pv 9) (pg_sub (pv 0) (pv 4) set_listN))))))))))))))))), ?_⟩
    walk_at "tw nf"
    rw [mix_eq h4.1 (by rw [hlen]; exact h4.2.1) (by rw [hlen]; exact h4.2.2.1) (by rw [hlen]; exact h4.2.2.2.1) (by rw [hlen]; exact h4.2.2.2.2)] at q
    have ha := getD_some (l := v) (i := a) (by rw [hlen]; exact h4.2.1)
    have hb := getD_some (l := v) (i := b) (by rw [hlen]; exact h4.2.2.1)
    have hc := getD_some (l := v) (i := c) (by rw [hlen]; exact h4.2.2.2.1)
    have hd := getD_some (l := v) (i := d) (by rw [hlen]; exact h4.2.2.2.2)
    have wb := hw.getD b
    have wd := hw.getD d
    generalize v.getD a 0 = va at ha q
    generalize v.getD b 0 = vb at hb q wb
    generalize v.getD c 0 = vc at hc q
    generalize v.getD d 0 = vd at hd q wd
    have m32 : ∀ n : Nat, n % 2 ^ 32 < 2 ^ 32 := fun n => Nat.mod_lt _ (by decide)
    refine ⟨_, rfl, _, rfl, w, v, a, va, rfl, rfl, hL, ha, _, rfl, _, rfl, w, v, b, vb, rfl, rfl, hL, hb, _, _, rfl, rfl, _, rfl, _, _, rfl, rfl, _, _, rfl, rfl, ?_⟩
    walk_at "tw nf"
    obtain ⟨one, e1⟩ : ∃ one, one = (va + vb + x) % 2 ^ 32 := ⟨_, rfl⟩
    have l1 : one < 2 ^ 32 := by rw [e1]; exact m32 _
    rw [and_low32, ← e1]
    refine ⟨_, rfl, _, rfl, w, v, d, vd, rfl, rfl, hL, hd, _, rfl, _, _, rfl, rfl, ?_⟩
    walk_at "tw nf"
    have t1 : vd ^^^ one < 2 ^ 32 := xor_lt wd l1
    refine ⟨_, rfl, _, _, rfl, rfl, _, rfl, _, _, rfl, rfl, ⟨lt64 t1, (by decide)⟩, _, _, rfl, rfl, _, _, rfl, rfl, ?_⟩
    walk_at "tw nf"
    obtain ⟨four, e2⟩ : ∃ four, four = ror (vd ^^^ one) 16 := ⟨_, rfl⟩
    have l2 : four < 2 ^ 32 := by rw [e2]; exact ror_lt (by decide) t1
    rw [ror_p (by decide) t1 16 rfl, ← e2]
    refine ⟨_, rfl, _, rfl, w, v, c, vc, rfl, rfl, hL, hc, _, rfl, _, _, rfl, rfl, _, _, rfl, rfl, ?_⟩
    walk_at "tw nf"
    obtain ⟨three, e3⟩ : ∃ three, three = (vc + four) % 2 ^ 32 := ⟨_, rfl⟩
    have l3 : three < 2 ^ 32 := by rw [e3]; exact m32 _
    rw [and_low32, ← e3]
    refine ⟨_, rfl, _, rfl, w, v, b, vb, rfl, rfl, hL, hb, _, rfl, _, _, rfl, rfl, ?_⟩
    walk_at "tw nf"
    have t2 : vb ^^^ three < 2 ^ 32 := xor_lt wb l3
    refine ⟨_, rfl, _, _, rfl, rfl, _, rfl, _, _, rfl, rfl, ⟨lt64 t2, (by decide)⟩, _, _, rfl, rfl, _, _, rfl, rfl, ?_⟩
    walk_at "tw nf"
    obtain ⟨two, e4⟩ : ∃ two, two = ror (vb ^^^ three) 12 := ⟨_, rfl⟩
    have l4 : two < 2 ^ 32 := by rw [e4]; exact ror_lt (by decide) t2
    rw [ror_p (by decide) t2 20 rfl, ← e4]
    refine ⟨_, rfl, _, rfl, _, _, rfl, rfl, _, rfl, _, _, rfl, rfl, _, _, rfl, rfl, ?_⟩
    walk_at "tw nf"
    obtain ⟨one', e5⟩ : ∃ one', one' = (one + two + y) % 2 ^ 32 := ⟨_, rfl⟩
    have l5 : one' < 2 ^ 32 := by rw [e5]; exact m32 _
    rw [and_low32, ← e5]
    refine ⟨_, rfl, _, rfl, _, _, rfl, rfl, ?_⟩
    walk_at "tw nf"
    have t3 : four ^^^ one' < 2 ^ 32 := xor_lt l2 l5
    refine ⟨_, rfl, _, _, rfl, rfl, _, rfl, _, _, rfl, rfl, ⟨lt64 t3, (by decide)⟩, _, _, rfl, rfl, _, _, rfl, rfl, ?_⟩
    walk_at "tw nf"
    obtain ⟨four', e6⟩ : ∃ four', four' = ror (four ^^^ one') 8 := ⟨_, rfl⟩
    have l6 : four' < 2 ^ 32 := by rw [e6]; exact ror_lt (by decide) t3
    rw [ror_p (by decide) t3 24 rfl, ← e6]
    refine ⟨_, rfl, _, rfl, _, _, rfl, rfl, _, _, rfl, rfl, ?_⟩
    walk_at "tw nf"
    obtain ⟨three', e7⟩ : ∃ three', three' = (three + four') % 2 ^ 32 := ⟨_, rfl⟩
    have l7 : three' < 2 ^ 32 := by rw [e7]; exact m32 _
    rw [and_low32, ← e7]
    refine ⟨_, rfl, _, rfl, _, _, rfl, rfl, ?_⟩
    walk_at "tw nf"
    have t4 : two ^^^ three' < 2 ^ 32 := xor_lt l4 l7
    refine ⟨_, rfl, _, rfl, _, rfl, w, v, a, one', rfl, rfl, rfl, hL, (by rw [hlen]; exact h4.2.1), ?_⟩
    walk_at "tw nf"
    refine ⟨_, rfl, _, _, rfl, rfl, _, rfl, _, _, rfl, rfl, ⟨lt64 t4, (by decide)⟩, _, _, rfl, rfl, _, _, rfl, rfl, ?_⟩
    walk_at "tw nf"
    rw [ror_p (by decide) t4 25 rfl]
    refine ⟨_, rfl, _, rfl, w, _, b, ror (two ^^^ three') 7, rfl, rfl, rfl, upd_same, (by rw [List.length_set, hlen]; exact h4.2.2.1), ?_⟩
    walk_at "tw nf"
    refine ⟨_, rfl, _, rfl, _, rfl, w, _, c, three', rfl, rfl, rfl, upd_same, (by rw [List.length_set, List.length_set, hlen]; exact h4.2.2.2.1), ?_⟩
    walk_at "tw nf"
    refine ⟨_, rfl, _, rfl, _, rfl, w, _, d, four', rfl, rfl, rfl, upd_same, (by rw [List.length_set, List.length_set, List.length_set, hlen]; exact h4.2.2.2.2), ?_⟩
    walk_at "tw nf"
    rw [upd_upd, upd_upd, upd_upd]
    simp only [mixN, ← e1, ← e2, ← e3, ← e4, ← e5, ← e6, ← e7] at q
    exact q
end Tw
namespace Tw
open PySem L2
open Sd16 (number little ror mix compress START ORDERS)
def sp_compressed (K : PySem.W.Frag) (A : Ad) : Sp := fun vs H Q _ => ∃ (sa ba : Addr) (st blk : List Nat) (n : Nat) (last : Bool), vs = [.ref sa, .ref ba, .int n, .bl last] ∧ LH H sa st ∧ LH H ba blk ∧
  st.length = 8 ∧ W32 st ∧ blk.length = 64 ∧ Byt blk ∧ n < 2 ^ 64 ∧ RetL H (compress st blk n last) Q
theorem lanes_list : L_LANES = LANES.map fun q => [q.1, q.2.1, q.2.2.1, q.2.2.2.1, q.2.2.2.2.1, q.2.2.2.2.2] := by decide
theorem orders_ok : ∀ o ∈ ORDERS, o.length = 16 ∧ ∀ k ∈ o, k < 16 := by decide
theorem lanes_lt : ∀ q ∈ LANES, q.2.2.2.2.1 < 16 ∧ q.2.2.2.2.2 < 16 := by decide
theorem foldl_take_succ {α β : Type} (f : β → α → β) {l : List α} {i : Nat} {x : α} (h : l[i]? = some x) (b : β) : (l.take (i + 1)).foldl f b = f ((l.take i).foldl f b) x := by
  rw [take_succ_of h, List.foldl_append]; rfl
theorem rounds_pre {m : List Nat} {v : List Nat} (h : v.length = 16 ∧ W32 v) (i : Nat) : ((ORDERS.take i).foldl (rnd m) v).length = 16 ∧ W32 ((ORDERS.take i).foldl (rnd m) v) :=
  fold_inv (fun v => v.length = 16 ∧ W32 v) (rnd m) _ v h fun _ _ _ h => rnd_ok h
theorem lanes_pre {m s v : List Nat} (h : v.length = 16 ∧ W32 v) (i : Nat) : ((LANES.take i).foldl (lane m s) v).length = 16 ∧ W32 ((LANES.take i).foldl (lane m s) v) :=
  fold_inv (fun v => v.length = 16 ∧ W32 v) (lane m s) _ v h fun _ _ hq h => lane_ok (List.mem_of_mem_take hq) h
theorem sc_compressed : FnScope ["state", "block", "reached", "last", "words", "work", "order", "a", "b", "c", "d", "x", "y", "place"] ["state", "block", "reached", "last"] (defScope s_compressed) := ⟨by kernel_rfl, by kernel_rfl, by kernel_rfl, by decide +kernel, by kernel_rfl, by decide +kernel, by decide +kernel⟩
theorem ok_compressed {P : Program} {w : World} {K : PySem.W.Frag} {mg : Str → Option Value} {base : Heap} {A : Ad} (T : Tx K mg A) : FnOk P w K mg base CX0 3 A.f_compressed A.d_compressed ["state", "block", "reached", "last"] (sp_compressed K A) := by
  have G_words_of := ok_words_of (P := P) (w := w) (base := base) T
  have G_mix := ok_mix (P := P) (w := w) (base := base) T
  have nd := sc_compressed.nd
  refine T.F_compressed.fn.ok sc_compressed (fun vs H Q E h => ?_) (fun cdv A' outer s H vs Q E hr h => ?_)
  · obtain ⟨sa, ba, st, blk, n, last, rfl, _⟩ := h
    rfl
  · obtain ⟨sa, ba, st, blk, n, last, rfl, hS, hB, lS, wS, lB, bB, hn, q⟩ := h
    refine ⟨_, (pss_cons (ps_set (i := 4) nd (by rfl) (Or.inl (by rfl)) (pe_call G_words_of (hr.mono (by decide)) (gl_of (by kernel_rfl)) T.F_words_of.mg T.F_words_of.kp T.F_words_of.bd .nil pass0 (pa_cons (pv 1) pa_nil)))
      (pss_cons (ps_set (i := 5) nd (by rfl) (Or.inr (by rfl)) (pe_op op_catN (pv 0) (pe_callTy call_listN (gl_of (by kernel_rfl)) T.N_list bt_list (pa_cons (pe_const (gl_of (by kernel_rfl)) T.M_START) pa_nil))))
      (pss_cons (ps_asg (pe_op op_xorP (pe_ix ix_listN (pv 5) (pe_nat 12) (fun _ _ => rfl)) (pe_op op_andP (pv 2) (pe_const (gl_of (by kernel_rfl)) T.M_LOW_blake))) (pg_sub (pv 5) (pe_nat 12) set_listN))
      (pss_cons (ps_asg (pe_op op_xorP (pe_ix ix_listN (pv 5) (pe_nat 13) (fun _ _ => rfl)) (pe_op op_shrP (pv 2) (pe_nat 32))) (pg_sub (pv 5) (pe_nat 13) set_listN))
      (pss_cons (ps_if (pt_val (pv 3) (by intro _; rfl)) (pss_one (ps_asg (pe_op op_xorP (pe_ix ix_listN (pv 5) (pe_nat 14) (fun _ _ => rfl)) (pe_const (gl_of (by kernel_rfl)) T.M_LOW_blake)) (pg_sub (pv 5) (pe_nat 14) set_listN))) pss_nil)
      (pss_cons (ps_for PassesOwn.never rfl (pi_tup (pe_const (gl_of (by kernel_rfl)) T.M_ORDERS)) (pg_name (i := 6) nd (by rfl) (Or.inl (by rfl))) (pss_one (ps_for PassesOwn.never rfl (pi_tup (pe_const (gl_of (by kernel_rfl)) T.M_LANES)) (pg_tup (n := 6) rfl (pgs_cons (pg_name (i := 7) nd (by rfl) (Or.inl (by rfl))) (pgs_cons (pg_name (i := 8) nd (by rfl) (Or.inl (by rfl))) (pgs_cons (pg_name (i := 9) nd (by rfl) (Or.inl (by rfl))) (pgs_cons (pg_name (i := 10) nd (by rfl) (Or.inl (by rfl))) (pgs_cons (pg_name (i := 11) nd (by rfl) (Or.inl (by rfl))) (pgs_cons (pg_name (i := 12) nd (by rfl) (Or.inl (by rfl))) pgs_nil))))))) (pss_one (ps_expr (pe_call G_mix (hr.mono (by decide)) (gl_of (by kernel_rfl)) T.F_mix.mg T.F_mix.kp T.F_mix.bd .nil pass0 (pa_cons (pv 5) (pa_cons (pv 7) (pa_cons (pv 8) (pa_cons (pv 9) (pa_cons (pv 10) (pa_cons (pe_ix ix_listN (pv 4) (pe_ix ix_tupN (pv 6) (pv 11) (fun _ _ => rfl)) (fun _ _ => rfl)) (pa_cons (pe_ix ix_listN (pv 4) (pe_ix ix_tupN (pv 6) (pv 12) (fun _ _ => rfl)) (fun _ _ => rfl)) pa_nil)))))))))))))
      (pss_one (ps_ret (pe_lc rfl nd (pi_range1 (gl_of (by kernel_rfl)) T.N_range (pa_cons (pe_nat 8) pa_nil)) (blkOk_by (own := [("place", 13)]) (by kernel_rfl)) (fun _ _ _ _ _ => (pg_name (i := 13) nd (by rfl) (Or.inl (by rfl)))) (fun _ _ _ _ _ => pts_nil) (fun _ _ _ _ _ => (pe_op op_xorP (pe_op op_xorP (pe_ix ix_listN (pv 0) (pv 13) (fun _ _ => rfl)) (pe_ix ix_listN (pv 5) (pv 13) (fun _ _ => rfl))) (pe_ix ix_listN (pv 5) (pe_op op_addP (pv 13) (pe_nat 8)) (fun _ _ => rfl))))))))))))), ?_⟩
    walk_at "tw nf"
    have hstart : START.length = 8 := rfl
    refine ⟨_, rfl, ba, blk, rfl, hB, bB, (by omega), fun wa H1 hwa s1 lwa => ?_⟩
    walk_at "tw nf"
    refine ⟨_, rfl, A.t_START, START, rfl, .inr (T.Q_START _), fun z H2 hz s2 lz => ⟨sa, z, st, START, rfl, rfl, s2 _ _ (s1 _ _ hS), lz, (by rw [lS, hstart]; decide), fun w H3 hw s3 lw => ?_⟩⟩
    walk_at "tw nf"
    have s13 : Same H H3 := s1.trans (s2.trans s3)
    have nw : H w = none := (s1.trans s2).free hw
    have lv : (st ++ START).length = 16 := by rw [List.length_append, lS, hstart]
    refine ⟨_, rfl, w, _, 12, _, rfl, rfl, lw, getD_some (by rw [lv]; decide), _, rfl, _, _, rfl, rfl, _, _, rfl, rfl, _, rfl, w, _, 12, _, rfl, rfl, rfl, lw, (by rw [lv]; decide), ?_⟩
    refine ⟨_, rfl, w, _, 13, _, rfl, rfl, upd_same, getD_some (by rw [List.length_set, lv]; decide), _, rfl, _, _, rfl, rfl, _, _, rfl, rfl, _, rfl, w, _, 13, _, rfl, rfl, rfl, upd_same, (by rw [List.length_set, lv]; decide), ?_⟩
    rw [upd_upd]
    walk_at "tw nf"
    have nwa : wa ≠ w := by
      intro e; subst e
      have := s2 _ _ lwa
      rw [hw] at this; cases this
    have s4 : ∀ o, Same H (upd H3 w o) := fun o => same_new s13 nw
    refine seq_cut (fun σ' H' => σ' = [some (.ref sa), some (.ref ba), some (.int n), some (.bl last), some (.ref wa), some (.ref w), none, none, none, none, none, none, none, none] ∧ Same H H' ∧ LH H' wa (wordsL blk) ∧ LH H' w (work0 st n last)) ?_ (fun R => ?_)
    · rintro σ H4 ⟨rfl, s4, l4, lw4⟩
      obtain ⟨w1, w2⟩ := work0_ok (count := n) (last := last) lS wS hn
      obtain ⟨ts, hts, tlen, tq⟩ := T.Q_ORDERS
      obtain ⟨us, hus, ulen, uq⟩ := T.Q_LANES
      have hwl : (wordsL blk).length = 16 := by rw [wordsL_len]; omega
      refine ⟨A.t_ORDERS, rfl, ⟨_, hts _⟩, for_tup (K := K) (a := A.t_ORDERS) (xs := ts.map V.ref) (fun i σ H5 => ∃ v6 v7 v8 v9 v10 v11 v12, σ = [some (.ref sa), some (.ref ba), some (.int n), some (.bl last), some (.ref wa), some (.ref w), v6, v7, v8, v9, v10, v11, v12, none] ∧ Same H H5 ∧ LH H5 wa (wordsL blk) ∧ LH H5 w ((ORDERS.take i).foldl (rnd (wordsL blk)) (work0 st n last)))
        ⟨_, _, _, _, _, _, _, rfl, s4, l4, lw4⟩ (fun i σ H5 _ _ => hts _) ?_ ?_⟩
      · rintro i y σ H5 hi ⟨v6, v7, v8, v9, v10, v11, v12, rfl, s5, l5, lw5⟩
        obtain ⟨t, ht, rfl⟩ := map_ref_get hi
        obtain ⟨o, ho⟩ := at_len tlen ht
        have to := tq i t o ht ho
        obtain ⟨olen, olt⟩ := orders_ok o (List.mem_of_getElem? ho)
        have vok := rounds_pre (m := wordsL blk) ⟨w1, w2⟩ i
        generalize hvi : (ORDERS.take i).foldl (rnd (wordsL blk)) (work0 st n last) = vi at lw5 vok
        refine ⟨A.t_LANES, rfl, ⟨_, hus _⟩, for_tup (K := K) (a := A.t_LANES) (xs := us.map V.ref) (fun j σ H6 => ∃ v7 v8 v9 v10 v11 v12, σ = [some (.ref sa), some (.ref ba), some (.int n), some (.bl last), some (.ref wa), some (.ref w), some (.ref t), v7, v8, v9, v10, v11, v12, none] ∧ Same H H6 ∧ LH H6 wa (wordsL blk) ∧ LH H6 w ((LANES.take j).foldl (lane (wordsL blk) o) vi))
          ⟨_, _, _, _, _, _, rfl, s5, l5, lw5⟩ (fun i σ H5 _ _ => hus _) ?_ ?_⟩
        · rintro j y σ H6 hj ⟨v7, v8, v9, v10, v11, v12, rfl, s6, l6, lw6⟩
          obtain ⟨u, hu, rfl⟩ := map_ref_get hj
          obtain ⟨ql, hql⟩ := at_len ulen hu
          have uo := uq j u ql hu hql
          rw [lanes_list, List.getElem?_map] at hql
          obtain ⟨qq, hqq, rfl⟩ : ∃ qq, LANES[j]? = some qq ∧ ql = [qq.1, qq.2.1, qq.2.2.1, qq.2.2.2.1, qq.2.2.2.2.1, qq.2.2.2.2.2] := by
            cases e : LANES[j]? with
            | none => rw [e] at hql; cases hql
            | some z => rw [e] at hql; exact ⟨z, rfl, (Option.some.inj hql).symm⟩
          have hmem : qq ∈ LANES := List.mem_of_getElem? hqq
          obtain ⟨x1, x2⟩ := lanes_lt qq hmem
          have vj := lanes_pre (m := wordsL blk) (s := o) vok j
          have k1 := getD_some (l := o) (i := qq.2.2.2.2.1) (by omega)
          have k2 := getD_some (l := o) (i := qq.2.2.2.2.2) (by omega)
          have g1 := getD_some (l := wordsL blk) (i := o.getD qq.2.2.2.2.1 0) (by rw [hwl]; exact olt _ (List.mem_of_getElem? k1))
          have g2 := getD_some (l := wordsL blk) (i := o.getD qq.2.2.2.2.2 0) (by rw [hwl]; exact olt _ (List.mem_of_getElem? k2))
          refine ⟨u, _, rfl, uo _, rfl, _, _, rfl, _, _, rfl, _, _, rfl, _, _, rfl, _, _, rfl, _, _, rfl, rfl, ?_⟩
          walk_at "tw nf"
          refine ⟨_, rfl, _, rfl, _, rfl, _, rfl, _, rfl, _, rfl, _, rfl, _, rfl, t, o, _, _, rfl, rfl, to _, k1, wa, _, _, _, rfl, rfl, l6, g1, _, rfl, _, rfl, _, rfl, t, o, _, _, rfl, rfl, to _, k2, wa, _, _, _, rfl, rfl, l6, g2, ?_⟩
          refine ⟨w, _, _, _, _, _, _, _, rfl, lw6, vj.1, vj.2, lanes_p4 qq hmem, ?_⟩
          refine ⟨_, _, _, _, _, _, rfl, same_new s6 nw, ?_, ?_⟩
          · show upd _ w _ wa = _
            rw [upd_ne nwa]
            exact l6
          · show upd _ w _ w = _
            rw [upd_same, foldl_take_succ _ hqq]
            rfl
        · rintro σ H6 ⟨v7, v8, v9, v10, v11, v12, rfl, s6, l6, lw6⟩
          refine ⟨_, _, _, _, _, _, _, rfl, s6, l6, ?_⟩
          rw [List.length_map, ulen, List.take_of_length_le (by decide)] at lw6
          rw [foldl_take_succ _ ho, hvi]
          exact lw6
      · rintro σ H5 ⟨v6, v7, v8, v9, v10, v11, v12, rfl, s5, l5, lw5⟩
        rw [List.length_map, tlen, List.take_of_length_le (Nat.le_refl _), ← rounds] at lw5
        have hc := compress_eq (count := n) (last := last) lS wS lB hn
        have rok := rounds_pre (m := wordsL blk) ⟨w1, w2⟩ ORDERS.length
        rw [List.take_of_length_le (Nat.le_refl _), ← rounds] at rok
        obtain ⟨r1, r2⟩ := rok
        generalize rounds (wordsL blk) (work0 st n last) = rr at hc lw5 r1 r2
        refine ⟨_, rfl, (by decide), (by decide), fun D hD => lc_rangeP (lo := 0) (n := 8) (fun i H6 => Same H5 H6 ∧ LH H6 D ((compress st blk n last).take i)) ⟨same_lay hD, upd_same⟩ ?_ ?_⟩
        · rintro i H6 hi ⟨s6, l6⟩
          refine ⟨rfl, ?_⟩
          have i1 := getD_some (l := st) (i := 0 + i) (by omega)
          have i2 := getD_some (l := rr) (i := 0 + i) (by omega)
          have i3 := getD_some (l := rr) (i := 0 + i + 8) (by omega)
          refine ⟨_, rfl, _, rfl, sa, st, _, _, rfl, rfl, s6 _ _ (s5 _ _ hS), i1, _, rfl, _, rfl, w, rr, _, _, rfl, rfl, s6 _ _ lw5, i2, _, _, rfl, rfl, _, rfl, _, rfl, _, _, rfl, rfl, w, rr, _, _, rfl, rfl, s6 _ _ lw5, i3, _, _, rfl, rfl, _, l6, ?_, same_new s6 hD, ?_⟩
          · rw [bs_len, List.length_take, PySem.sizeLine_eq]; omega
          · show upd _ D _ D = _
            have e : (compress st blk n last)[i]? = some (st.getD (0 + i) 0 ^^^ rr.getD (0 + i) 0 ^^^ rr.getD (0 + i + 8) 0) := by
              rw [hc, List.getElem?_map, List.getElem?_range hi, Nat.zero_add]; rfl
            rw [upd_same, take_succ_of e, ← bs_app]
            rfl
        · rintro H6 ⟨s6, l6⟩
          rw [List.take_of_length_le (by rw [hc]; simp)] at l6
          exact q D H6 (s5.free hD) (s5.trans s6) l6
    · have lwa3 : LH H3 wa (wordsL blk) := s3 _ _ (s2 _ _ lwa)
      have l12 : (st ++ START).getD 12 0 ^^^ (n &&& 4294967295) = (st ++ START).getD 12 0 ^^^ (n % 2 ^ 32) := by rw [and_low32]
      refine ⟨_, rfl, last, rfl, ?_⟩
      cases last with
      | true =>
        refine iteT ⟨_, rfl, w, _, 14, _, rfl, rfl, upd_same, getD_some (by rw [List.length_set, List.length_set, lv]; decide), _, _, rfl, rfl, _, rfl, w, _, 14, _, rfl, rfl, rfl, upd_same, (by rw [List.length_set, List.length_set, lv]; decide), ?_⟩
        rw [upd_upd]
        refine R _ _ ⟨rfl, s4 _, ?_, ?_⟩
        · show upd _ w _ wa = _
          rw [upd_ne nwa]; exact lwa3
        · show upd _ w _ w = _
          rw [upd_same, l12]
          rfl
      | false =>
        refine iteF (R _ _ ⟨rfl, s4 _, ?_, ?_⟩)
        · show upd _ w _ wa = _
          rw [upd_ne nwa]; exact lwa3
        · show upd _ w _ w = _
          rw [upd_same, l12]
          rfl
end Tw
namespace Tw
open PySem L2
open Sd16 (number little ror mix compress START ORDERS)
def sp_blake (K : PySem.W.Frag) (A : Ad) : Sp := fun vs H Q _ => ∃ (ka ma : Addr) (key m : List Nat) (size : Nat), vs = [.int size, .ref ka, .ref ma] ∧ LH H ka key ∧ LH H ma m ∧
  ((key.length = 0 ∧ size = 32) ∨ (key.length = 32 ∧ size = 16)) ∧ Byt key ∧ Byt m ∧ m.length ≤ 90000 ∧ RetL H (Sd16.blake size key m) Q
theorem keyed_len {key m : List Nat} (h : key.length = 0 ∨ key.length = 32) (hm : m.length ≤ 90000) : (keyed key m).length ≤ 90064 := by
  simp only [keyed, List.length_append, List.length_replicate]
  rcases h with h | h <;> rw [h] <;> omega
theorem keyed_byt {key m : List Nat} (h : Byt key) (hm : Byt m) : Byt (keyed key m) := (h.app (Byt.rep _ (by decide))).app hm
def intOf : Option (Option V) → Nat
  | some (some (V.int z)) => z.toNat
  | _ => 0
def μ5 (n : Nat) (σ : St) (_ : Hp) : Nat := n - intOf (σ[5]?)
theorem sc_blake : FnScope ["size", "key", "message", "octets", "state", "at", "tail", "block", "result", "word"] ["size", "key", "message"] (defScope s_blake) := ⟨by kernel_rfl, by kernel_rfl, by kernel_rfl, by decide +kernel, by kernel_rfl, by decide +kernel, by decide +kernel⟩
theorem ok_blake {P : Program} {w : World} {K : PySem.W.Frag} {mg : Str → Option Value} {base : Heap} {A : Ad} (T : Tx K mg A) : FnOk P w K mg base CX0 4 A.f_blake A.d_blake ["size", "key", "message"] (sp_blake K A) := by
  have G_filled := ok_filled (P := P) (w := w) (base := base) T
  have G_compressed := ok_compressed (P := P) (w := w) (base := base) T
  have G_octets_of := ok_octets_of (P := P) (w := w) (base := base) T
  have nd := sc_blake.nd
  refine T.F_blake.fn.ok sc_blake (fun vs H Q E h => ?_) (fun cdv A' outer s H vs Q E hr h => ?_)
  · obtain ⟨ka, ma, key, m, size, rfl, _⟩ := h
    rfl
  · obtain ⟨ka, ma, key, m, size, rfl, hK, hM, hsz, bK, bM, lM, q⟩ := h
    refine ⟨_, (pss_cons (ps_set (i := 3) nd (by rfl) (Or.inl (by rfl)) (pe_op op_catN (pe_call G_filled (hr.mono (by decide)) (gl_of (by kernel_rfl)) T.F_filled.mg T.F_filled.kp T.F_filled.bd .nil pass0 (pa_cons (pv 1) (pa_cons (pe_const (gl_of (by kernel_rfl)) T.M_BLOCK_blake) pa_nil))) (pv 2)))
      (pss_cons (ps_set (i := 4) nd (by rfl) (Or.inl (by rfl)) (pe_callTy call_listN (gl_of (by kernel_rfl)) T.N_list bt_list (pa_cons (pe_const (gl_of (by kernel_rfl)) T.M_START) pa_nil)))
      (pss_cons (ps_asg (pe_op op_xorP (pe_op op_xorP (pe_op op_xorP (pe_ix ix_listN (pv 4) (pe_nat 0) (fun _ _ => rfl)) (pe_nat 16842752)) (pe_op op_shlP (pe_callB call_lenN (gl_of (by kernel_rfl)) T.N_len PySem.boot_len (pa_cons (pv 1) pa_nil)) (pe_nat 8))) (pv 0)) (pg_sub (pv 4) (pe_nat 0) set_listN))
      (pss_cons (ps_set (i := 5) nd (by rfl) (Or.inl (by rfl)) (pe_nat 0))
      (pss_cons (ps_while PassesOwn.never (pt_cmpR op_ltP (pe_op op_addP (pv 5) (pe_const (gl_of (by kernel_rfl)) T.M_BLOCK_blake)) (pe_callB call_lenN (gl_of (by kernel_rfl)) T.N_len PySem.boot_len (pa_cons (pv 3) pa_nil)) (nomark _)) (pss_cons (ps_set (i := 4) nd (by rfl) (Or.inl (by rfl)) (pe_call G_compressed (hr.mono (by decide)) (gl_of (by kernel_rfl)) T.F_compressed.mg T.F_compressed.kp T.F_compressed.bd .nil pass0 (pa_cons (pv 4) (pa_cons (pe_slice sl_listN (pv 3) (po_some (pv 5)) (po_some (pe_op op_addP (pv 5) (pe_const (gl_of (by kernel_rfl)) T.M_BLOCK_blake)))) (pa_cons (pe_op op_addP (pv 5) (pe_const (gl_of (by kernel_rfl)) T.M_BLOCK_blake)) (pa_cons pe_bl pa_nil))))))
      (pss_one (ps_set (i := 5) nd (by rfl) (Or.inl (by rfl)) (pe_op op_addP (pv 5) (pe_const (gl_of (by kernel_rfl)) T.M_BLOCK_blake))))))
      (pss_cons (ps_set (i := 6) nd (by rfl) (Or.inl (by rfl)) (pe_slice sl_listN (pv 3) (po_some (pv 5)) po_none))
      (pss_cons (ps_set (i := 7) nd (by rfl) (Or.inl (by rfl)) (pe_op op_catN (pv 6) (pe_op op_repN (pe_lstN (pa_cons (pe_nat 0) pa_nil)) (pe_op op_subP (pe_const (gl_of (by kernel_rfl)) T.M_BLOCK_blake) (pe_callB call_lenN (gl_of (by kernel_rfl)) T.N_len PySem.boot_len (pa_cons (pv 6) pa_nil))))))
      (pss_cons (ps_set (i := 4) nd (by rfl) (Or.inl (by rfl)) (pe_call G_compressed (hr.mono (by decide)) (gl_of (by kernel_rfl)) T.F_compressed.mg T.F_compressed.kp T.F_compressed.bd .nil pass0 (pa_cons (pv 4) (pa_cons (pv 7) (pa_cons (pe_callB call_lenN (gl_of (by kernel_rfl)) T.N_len PySem.boot_len (pa_cons (pv 3) pa_nil)) (pa_cons pe_bl pa_nil))))))
      (pss_cons (ps_set (i := 8) nd (by rfl) (Or.inl (by rfl)) (pe_lstN pa_nil))
      (pss_cons (ps_for PassesOwn.never rfl (pi_list (pv 4)) (pg_name (i := 9) nd (by rfl) (Or.inl (by rfl))) (pss_one (ps_expr (pe_bm PySem.F.plainAttrs_list PySem.F.slot_list_extend PySem.F.type_list_extend mt_extendN (pv 8) (pa_cons (pe_call G_octets_of (hr.mono (by decide)) (gl_of (by kernel_rfl)) T.F_octets_of.mg T.F_octets_of.kp T.F_octets_of.bd .nil pass0 (pa_cons (pv 9) (pa_cons (pe_nat 4) pa_nil))) pa_nil)))))
      (pss_one (ps_ret (pe_slice sl_listN (pv 8) po_none (po_some (pv 0))))))))))))))), ?_⟩
    walk_at "tw nf"
    have hstart : START.length = 8 := rfl
    have hkl : key.length = 0 ∨ key.length = 32 := by omega
    refine ⟨_, rfl, ka, key, 64, rfl, hK, (by omega), (by decide), (by decide), fun f H1 hf s1 lf => ⟨_, rfl, f, ma, _, m, rfl, rfl, lf, s1 _ _ hM, ?_, fun o H2 ho s2 lo => ?_⟩⟩
    · have := keyed_len (m := m) hkl lM
      simp only [keyed, List.length_append] at this ⊢
      omega
    walk_at "tw nf"
    have lo' : LH H2 o (keyed key m) := lo
    have ld := keyed_len (m := m) hkl lM
    have bd := keyed_byt bK bM
    rw [blake_eq hsz] at q
    obtain ⟨z1, z2⟩ := state0_ok (k := key.length) (size := size) hsz
    refine ⟨A.t_START, START, rfl, .inr (T.Q_START _), fun st H3 hst s3 lst => ?_⟩
    walk_at "tw nf"
    refine ⟨_, rfl, st, START, 0, _, rfl, rfl, lst, getD_some (by decide), _, _, rfl, rfl, _, rfl, ka, key, rfl, s3 _ _ (s2 _ _ (s1 _ _ hK)), _, _, rfl, rfl, ⟨(by omega), (by decide)⟩, _, _, rfl, rfl, _, rfl, _, _, rfl, rfl, _, rfl, st, START, 0, _, rfl, rfl, rfl, lst, (by decide), ?_⟩
    have e0 : START.set 0 (START.getD 0 0 ^^^ 16842752 ^^^ key.length * 2 ^ 8 ^^^ size) = state0 key.length size := rfl
    rw [e0]
    walk_at "tw nf"
    generalize state0 key.length size = h0 at q z1 z2
    generalize keyed key m = d at q lo' ld bd
    have sb : Same H (upd H3 st (.lst (bs h0))) := same_new (s1.trans (s2.trans s3)) ((s1.trans s2).free hst)
    have lob : LH (upd H3 st (.lst (bs h0))) o d := by
      show upd H3 st _ o = _
      rw [upd_ne (ne_of_none lo' hst)]
      exact s3 _ _ lo'
    have lsb : LH (upd H3 st (.lst (bs h0))) st h0 := upd_same
    generalize upd H3 st (.lst (bs h0)) = Hb at sb lob lsb
    refine seq_const ?_
    walk_at "tw nf"
    refine while_by (fun σ H4 => ∃ (i : Nat) (sa : Addr) (stt : List Nat), σ = [some (.int size), some (.ref ka), some (.ref ma), some (.ref o), some (.ref sa), some (.int (64 * i : Nat)), none, none, none, none] ∧ Same Hb H4 ∧ LH H4 sa stt ∧ BlkInv d h0 i stt) (μ5 d.length)
      ⟨0, st, h0, rfl, Same.refl _, lsb, BlkInv.start z1 z2⟩ ?_ ?_
    · rintro σ H4 ⟨i, sa, stt, rfl, s4, l4, I⟩
      refine ⟨_, rfl, _, _, rfl, rfl, _, rfl, o, d, rfl, s4 _ _ lob, _, _, rfl, rfl, _, rfl, ?_⟩
      by_cases hc : 64 * i + 64 < d.length
      · rw [decide_eq_true hc]
        refine iteT ?_
        refine ⟨_, rfl, _, rfl, _, rfl, _, rfl, _, rfl, _, _, rfl, rfl, _, rfl, o, d, rfl, s4 _ _ lob, (by show (0 : Int) ≤ _; omega), (by show (0 : Int) ≤ _; omega), fun p H5 hp s5 lp => ?_⟩
        have ec : cutN d (some ((64 * i : Nat) : Int)) (some ((64 * i + 64 : Nat) : Int)) = (d.drop (64 * i)).take 64 := by
          simp only [cutN, Int.toNat_natCast]
          rw [show 64 * i + 64 - 64 * i = 64 by omega]
        rw [ec] at lp
        refine ⟨_, rfl, _, _, rfl, rfl, sa, p, stt, _, _, false, rfl, s5 _ _ l4, lp, I.len, I.w, ?_, (bd.drop _).take _, (by omega), fun p' H6 hp' s6 lp' => ?_⟩
        · rw [List.length_take, List.length_drop]; omega
        refine ⟨_, rfl, _, _, rfl, rfl, ⟨i + 1, p', _, rfl, s4.trans (s5.trans s6), lp', I.turn hc (by omega)⟩, ?_⟩
        show d.length - ((64 * i + 64 : Nat) : Int).toNat < d.length - ((64 * i : Nat) : Int).toNat
        rw [Int.toNat_natCast, Int.toNat_natCast]; omega
      · rw [decide_eq_false hc]
        refine iteF ?_
        refine ⟨_, rfl, _, rfl, _, rfl, o, d, rfl, s4 _ _ lob, (by show (0 : Int) ≤ _; omega), trivial, fun tl H5 htl s5 ltl => ?_⟩
        have ec : cutN d (some ((64 * i : Nat) : Int)) none = d.drop (64 * i) := by simp only [cutN, Int.toNat_natCast]
        rw [ec] at ltl
        obtain ⟨f1, f2⟩ := I.fin_len hc
        have hdone := I.done hc
        refine ⟨_, rfl, [0], rfl, (by decide), fun z H6 hz s6 lz => ⟨_, rfl, tl, _, rfl, s6 _ _ ltl, _, _, rfl, rfl, f1, z, 0, _, rfl, rfl, lz, (by omega), fun r H7 hr7 s7 lr => ⟨tl, r, _, _, rfl, rfl, s7 _ _ (s6 _ _ ltl), lr, ?_, fun b H8 hb s8 lb => ?_⟩⟩⟩
        · rw [List.length_replicate]; omega
        have s58 : Same H4 H8 := s5.trans (s6.trans (s7.trans s8))
        refine ⟨_, rfl, _, rfl, _, rfl, o, d, rfl, s58 _ _ (s4 _ _ lob), sa, b, stt, _, _, true, rfl, s58 _ _ l4, lb, I.len, I.w, f2, (bd.drop _).app (Byt.rep _ (by decide)), (by omega), fun fs H9 hfs s9 lfs => ?_⟩
        rw [← hdone] at lfs
        have hfl : (Sd16.blocks (d.length + 1) h0 0 d).length = 8 := blocks_len _ _ _ _ z1
        generalize Sd16.blocks (d.length + 1) h0 0 d = fin at q lfs hfl
        refine ⟨[], rfl, (by decide), fun rs H10 hrs s10 lrs => ?_⟩
        have sH : Same H H10 := sb.trans (s4.trans (s58.trans (s9.trans s10)))
        have nrs : H rs = none := (sb.trans (s4.trans (s58.trans s9))).free hrs
        have lfs' := s10 _ _ lfs
        refine ⟨_, rfl, fs, rfl, ⟨_, SqL.of lfs'⟩, for_list (K := K) (a := fs) (xs := bs fin) (fun j σ H11 => ∃ v9, σ = [some (.int size), some (.ref ka), some (.ref ma), some (.ref o), some (.ref fs), some (.int (64 * i : Nat)), some (.ref tl), some (.ref b), some (.ref rs), v9] ∧ Same H H11 ∧ LH H11 fs fin ∧ LH H11 rs ((fin.take j).flatMap (little 4)))
          ⟨none, rfl, sH, lfs', lrs⟩ (fun j σ H11 _ ⟨_, _, _, h, _⟩ => SqL.of h) ?_ ?_⟩
        · rintro j x σ H11 hj ⟨v9, rfl, s11, l11, r11⟩
          obtain ⟨wd, hwd, rfl⟩ := bs_get hj
          have nfr : fs ≠ rs := by
            intro e; subst e
            rw [lfs] at hrs; cases hrs
          refine ⟨_, rfl, .inl ⟨rfl, _, SqL.of r11⟩, _, rfl, wd, 4, rfl, (by decide), fun p H12 hp s12 lp => ⟨rs, p, _, _, rfl, rfl, s12 _ _ r11, lp, ?_, some (.int wd), rfl, same_new (s11.trans s12) nrs, ?_, ?_⟩⟩
          · rw [flat_little_len, little_length, List.length_take]; omega
          · show upd _ rs _ fs = _
            rw [upd_ne nfr]; exact s12 _ _ l11
          · show upd _ rs _ rs = _
            rw [upd_same, take_succ_of hwd, List.flatMap_append]
            simp [bs]
        · rintro σ H11 ⟨v9, rfl, s11, l11, r11⟩
          rw [bs_len, List.take_of_length_le (Nat.le_refl _)] at r11
          refine ⟨_, rfl, _, rfl, _, rfl, rs, _, rfl, r11, trivial, (by show (0 : Int) ≤ _; omega), fun p H12 hp s12 lp => ?_⟩
          have ec : cutN (fin.flatMap (little 4)) none (some ((size : Nat) : Int)) = (fin.flatMap (little 4)).take size := by simp only [cutN, Int.toNat_natCast]
          rw [ec] at lp
          exact q p H12 (s11.free hp) (s11.trans s12) lp
    · rintro σ H4 Q1 Q2 hq ⟨v, h1, m1, n1, e1, e2, v3, h3, a, l, e4, hl, m2, n2, e5, e6, k, ek, hQ⟩
      exact ⟨v, h1, m1, n1, e1, e2, v3, h3, a, l, e4, hl, m2, n2, e5, e6, k, ek, hq _ _ hQ⟩
end Tw
namespace Tw
open PySem L2
open Sd16 (number little)
def sp_digest (K : PySem.W.Frag) (A : Ad) : Sp := fun vs H Q _ => ∃ (a : Addr) (m : List Nat), vs = [.ref a] ∧ LH H a m ∧ Byt m ∧ m.length ≤ 90000 ∧ RetL H (Sd16.hash m) Q
def sp_mac (K : PySem.W.Frag) (A : Ad) : Sp := fun vs H Q _ => ∃ (ka a : Addr) (key m : List Nat), vs = [.ref ka, .ref a] ∧ LH H ka key ∧ LH H a m ∧ key.length = 32 ∧ Byt key ∧ Byt m ∧ m.length ≤ 90000 ∧ RetL H (Sd16.blake 16 key m) Q
def sp_head (K : PySem.W.Frag) (A : Ad) : Sp := fun vs H Q _ => ∃ k : Nat, vs = [.int k] ∧ RetL H (little 4 k) Q
def sp_mark_of (K : PySem.W.Frag) (A : Ad) : Sp := fun vs H Q _ => ∃ (ba na : Addr) (bf num : List Nat), vs = [.ref ba, .ref na] ∧ LH H ba bf ∧ LH H na num ∧ Byt bf ∧ bf.length ≤ 90000 ∧ Byt num ∧ num.length = 32 ∧ RetL H (Sd16.mac1 num bf) Q
def sp_marked (K : PySem.W.Frag) (A : Ad) : Sp := fun vs H Q _ => ∃ (ba na : Addr) (bf num : List Nat), vs = [.ref ba, .ref na] ∧ LH H ba bf ∧ LH H na num ∧ Byt bf ∧ bf.length ≤ 90000 ∧ Byt num ∧ num.length = 32 ∧ RetL H (bf ++ (Sd16.mac1 num bf ++ List.replicate 16 0)) Q
def wellM (m num : List Nat) (kind size : Nat) : Prop := m.length = size ∧ m.take 4 = little 4 kind ∧ (m.drop (size - 32)).take 16 = Sd16.mac1 num (m.take (size - 32))
instance (m num : List Nat) (kind size : Nat) : Decidable (wellM m num kind size) := by unfold wellM; exact inferInstance
def sp_is_well_marked (K : PySem.W.Frag) (A : Ad) : Sp := fun vs H Q _ => ∃ (a na : Addr) (m num : List Nat) (kind size : Nat), vs = [.ref a, .int kind, .int size, .ref na] ∧ LH H a m ∧ LH H na num ∧ Byt m ∧ m.length ≤ 90000 ∧ Byt num ∧ num.length = 32 ∧
  32 ≤ size ∧ size ≤ 1000 ∧ RetV H (.bl (decide (wellM m num kind size))) Q
def sp_hmac (K : PySem.W.Frag) (A : Ad) : Sp := fun vs H Q _ => ∃ (ka a : Addr) (key m : List Nat), vs = [.ref ka, .ref a] ∧ LH H ka key ∧ LH H a m ∧ key.length = 32 ∧ Byt key ∧ Byt m ∧ m.length ≤ 80000 ∧ RetL H (Sd16.hmac key m) Q
def LHs (H : Hp) (ps : List Addr) (ls : List (List Nat)) : Prop := ps.length = ls.length ∧ ∀ (i : Nat) (a : Addr) (l : List Nat), ps[i]? = some a → ls[i]? = some l → LH H a l
def RetLL (H : Hp) (ls : List (List Nat)) (Q : VK) : Prop := ∀ p ps H', H p = none → Same H H' → H' p = some (.lst (ps.map V.ref)) → LHs H' ps ls → Q (.ref p) H'
def sp_drawn (K : PySem.W.Frag) (A : Ad) : Sp := fun vs H Q _ => ∃ (ka a : Addr) (key m : List Nat) (n : Nat), vs = [.int n, .ref ka, .ref a] ∧ n ≤ 3 ∧ LH H ka key ∧ LH H a m ∧ key.length = 32 ∧ Byt key ∧ Byt m ∧ m.length ≤ 80000 ∧ RetLL H (Sd16.keys n key m) Q
theorem str_ascii (s : String) : (Str.ofString s).cps.toList = Sd16.ascii s := by
  rw [Str.ofString_eq_toList]; simp [Sd16.ascii]
theorem sc_digest : FnScope ["message"] ["message"] (defScope s_digest) := ⟨by kernel_rfl, by kernel_rfl, by kernel_rfl, by decide +kernel, by kernel_rfl, by decide +kernel, by decide +kernel⟩
theorem ok_digest {P : Program} {w : World} {K : PySem.W.Frag} {mg : Str → Option Value} {base : Heap} {A : Ad} (T : Tx K mg A) : FnOk P w K mg base CX0 5 A.f_digest A.d_digest ["message"] (sp_digest K A) := by
  have G_blake := ok_blake (P := P) (w := w) (base := base) T
  have nd := sc_digest.nd
  refine T.F_digest.fn.ok sc_digest (fun vs H Q E h => ?_) (fun cdv A' outer s H vs Q E hr h => ?_)
  · obtain ⟨a, m, rfl, _⟩ := h
    rfl
  · obtain ⟨a, m, rfl, hM, bM, lM, q⟩ := h
    refine ⟨_, (pss_one (ps_ret (pe_call G_blake (hr.mono (by decide)) (gl_of (by kernel_rfl)) T.F_blake.mg T.F_blake.kp T.F_blake.bd .nil pass0 (pa_cons (pe_nat 32) (pa_cons (pe_lstN pa_nil) (pa_cons (pv 0) pa_nil)))))), ?_⟩
    refine ⟨[], rfl, (by decide), fun z H1 hz s1 lz => ⟨_, rfl, z, a, [], m, 32, rfl, lz, s1 _ _ hM, .inl ⟨rfl, rfl⟩, Byt.nil, bM, lM, fun p H2 hp s2 lp => q p H2 (s1.free hp) (s1.trans s2) lp⟩⟩
theorem sc_mac : FnScope ["key", "message"] ["key", "message"] (defScope s_mac) := ⟨by kernel_rfl, by kernel_rfl, by kernel_rfl, by decide +kernel, by kernel_rfl, by decide +kernel, by decide +kernel⟩
theorem ok_mac {P : Program} {w : World} {K : PySem.W.Frag} {mg : Str → Option Value} {base : Heap} {A : Ad} (T : Tx K mg A) : FnOk P w K mg base CX0 5 A.f_mac A.d_mac ["key", "message"] (sp_mac K A) := by
  have G_blake := ok_blake (P := P) (w := w) (base := base) T
  have nd := sc_mac.nd
  refine T.F_mac.fn.ok sc_mac (fun vs H Q E h => ?_) (fun cdv A' outer s H vs Q E hr h => ?_)
  · obtain ⟨ka, a, key, m, rfl, _⟩ := h
    rfl
  · obtain ⟨ka, a, key, m, rfl, hK, hM, lK, bK, bM, lM, q⟩ := h
    refine ⟨_, (pss_one (ps_ret (pe_call G_blake (hr.mono (by decide)) (gl_of (by kernel_rfl)) T.F_blake.mg T.F_blake.kp T.F_blake.bd .nil pass0 (pa_cons (pe_nat 16) (pa_cons (pv 0) (pa_cons (pv 1) pa_nil)))))), ?_⟩
    exact ⟨_, rfl, _, rfl, ka, a, key, m, 16, rfl, hK, hM, .inr ⟨lK, rfl⟩, bK, bM, lM, q⟩
theorem sc_head : FnScope ["kind"] ["kind"] (defScope s_head) := ⟨by kernel_rfl, by kernel_rfl, by kernel_rfl, by decide +kernel, by kernel_rfl, by decide +kernel, by decide +kernel⟩
theorem ok_head {P : Program} {w : World} {K : PySem.W.Frag} {mg : Str → Option Value} {base : Heap} {A : Ad} (T : Tx K mg A) : FnOk P w K mg base CX0 2 A.f_head A.d_head ["kind"] (sp_head K A) := by
  have G_octets_of := ok_octets_of (P := P) (w := w) (base := base) T
  have nd := sc_head.nd
  refine T.F_head.fn.ok sc_head (fun vs H Q E h => ?_) (fun cdv A' outer s H vs Q E hr h => ?_)
  · obtain ⟨k, rfl, _⟩ := h
    rfl
  · obtain ⟨k, rfl, q⟩ := h
    refine ⟨_, (pss_one (ps_ret (pe_call G_octets_of (hr.mono (by decide)) (gl_of (by kernel_rfl)) T.F_octets_of.mg T.F_octets_of.kp T.F_octets_of.bd .nil pass0 (pa_cons (pv 0) (pa_cons (pe_nat 4) pa_nil))))), ?_⟩
    exact ⟨_, rfl, k, 4, rfl, (by decide), q⟩
theorem sc_mark_of : FnScope ["before", "number"] ["before", "number"] (defScope s_mark_of) := ⟨by kernel_rfl, by kernel_rfl, by kernel_rfl, by decide +kernel, by kernel_rfl, by decide +kernel, by decide +kernel⟩
theorem ok_mark_of {P : Program} {w : World} {K : PySem.W.Frag} {mg : Str → Option Value} {base : Heap} {A : Ad} (T : Tx K mg A) : FnOk P w K mg base CX0 6 A.f_mark_of A.d_mark_of ["before", "number"] (sp_mark_of K A) := by
  have G_mac := ok_mac (P := P) (w := w) (base := base) T
  have G_digest := ok_digest (P := P) (w := w) (base := base) T
  have G_octets_of_text := ok_octets_of_text (P := P) (w := w) (base := base) T
  have nd := sc_mark_of.nd
  refine T.F_mark_of.fn.ok sc_mark_of (fun vs H Q E h => ?_) (fun cdv A' outer s H vs Q E hr h => ?_)
  · obtain ⟨ba, na, bf, num, rfl, _⟩ := h
    rfl
  · obtain ⟨ba, na, bf, num, rfl, hB, hN, bB, lB, bN, lN, q⟩ := h
    refine ⟨_, (pss_one (ps_ret (pe_call G_mac (hr.mono (by decide)) (gl_of (by kernel_rfl)) T.F_mac.mg T.F_mac.kp T.F_mac.bd .nil pass0 (pa_cons (pe_call G_digest (hr.mono (by decide)) (gl_of (by kernel_rfl)) T.F_digest.mg T.F_digest.kp T.F_digest.bd .nil pass0 (pa_cons (pe_op op_catN (pe_call G_octets_of_text (hr.mono (by decide)) (gl_of (by kernel_rfl)) T.F_octets_of_text.mg T.F_octets_of_text.kp T.F_octets_of_text.bd .nil pass0 (pa_cons (pe_const (gl_of (by kernel_rfl)) T.M_LABEL) pa_nil)) (pv 1)) pa_nil)) (pa_cons (pv 0) pa_nil))))), ?_⟩
    refine ⟨"mac1----", rfl, (by decide +kernel), fun t H1 ht s1 lt => ?_⟩
    rw [str_ascii] at lt
    have bt : Byt (Sd16.ascii "mac1----") := by unfold Byt; decide
    have lt8 : (Sd16.ascii "mac1----").length = 8 := by decide
    refine ⟨_, rfl, t, na, _, num, rfl, rfl, lt, s1 _ _ hN, (by omega), fun c H2 hc s2 lc => ⟨c, _, rfl, lc, bt.app bN, (by rw [List.length_append]; omega), fun dg H3 hdg s3 ldg => ?_⟩⟩
    have s13 : Same H H3 := s1.trans (s2.trans s3)
    exact ⟨_, rfl, dg, ba, _, bf, rfl, ldg, s13 _ _ hB, hash_len _, hash_byt _, bB, lB, fun p H4 hp s4 lp => q p H4 (s13.free hp) (s13.trans s4) lp⟩
theorem sc_marked : FnScope ["before", "number"] ["before", "number"] (defScope s_marked) := ⟨by kernel_rfl, by kernel_rfl, by kernel_rfl, by decide +kernel, by kernel_rfl, by decide +kernel, by decide +kernel⟩
theorem ok_marked {P : Program} {w : World} {K : PySem.W.Frag} {mg : Str → Option Value} {base : Heap} {A : Ad} (T : Tx K mg A) : FnOk P w K mg base CX0 7 A.f_marked A.d_marked ["before", "number"] (sp_marked K A) := by
  have G_mark_of := ok_mark_of (P := P) (w := w) (base := base) T
  have nd := sc_marked.nd
  refine T.F_marked.fn.ok sc_marked (fun vs H Q E h => ?_) (fun cdv A' outer s H vs Q E hr h => ?_)
  · obtain ⟨ba, na, bf, num, rfl, _⟩ := h
    rfl
  · obtain ⟨ba, na, bf, num, rfl, hB, hN, bB, lB, bN, lN, q⟩ := h
    refine ⟨_, (pss_one (ps_ret (pe_op op_catN (pe_op op_catN (pv 0) (pe_call G_mark_of (hr.mono (by decide)) (gl_of (by kernel_rfl)) T.F_mark_of.mg T.F_mark_of.kp T.F_mark_of.bd .nil pass0 (pa_cons (pv 0) (pa_cons (pv 1) pa_nil)))) (pe_op op_repN (pe_lstN (pa_cons (pe_nat 0) pa_nil)) (pe_const (gl_of (by kernel_rfl)) T.M_MARK))))), ?_⟩
    refine ⟨_, rfl, _, rfl, _, rfl, ba, na, bf, num, rfl, hB, hN, bB, lB, bN, lN, fun mk H1 hmk s1 lmk => ⟨ba, mk, bf, _, rfl, rfl, s1 _ _ hB, lmk, (by rw [mac1_len]; omega), fun c H2 hc s2 lc => ?_⟩⟩
    refine ⟨[0], rfl, (by decide), fun z H3 hz s3 lz => ⟨z, 0, 16, rfl, rfl, lz, (by decide), fun r H4 hr4 s4 lr => ⟨c, r, _, _, rfl, rfl, s4 _ _ (s3 _ _ lc), lr, ?_, fun p H5 hp s5 lp => ?_⟩⟩⟩
    · rw [List.length_append, mac1_len, List.length_replicate]; omega
    · have s14 : Same H H4 := s1.trans (s2.trans (s3.trans s4))
      rw [List.append_assoc] at lp
      exact q p H5 (s14.free hp) (s14.trans s5) lp
theorem sc_is_well_marked : FnScope ["m", "kind", "size", "number", "border"] ["m", "kind", "size", "number"] (defScope s_is_well_marked) := ⟨by kernel_rfl, by kernel_rfl, by kernel_rfl, by decide +kernel, by kernel_rfl, by decide +kernel, by decide +kernel⟩
theorem ok_is_well_marked {P : Program} {w : World} {K : PySem.W.Frag} {mg : Str → Option Value} {base : Heap} {A : Ad} (T : Tx K mg A) : FnOk P w K mg base CX0 7 A.f_is_well_marked A.d_is_well_marked ["m", "kind", "size", "number"] (sp_is_well_marked K A) := by
  have G_head := ok_head (P := P) (w := w) (base := base) T
  have G_mark_of := ok_mark_of (P := P) (w := w) (base := base) T
  have nd := sc_is_well_marked.nd
  refine T.F_is_well_marked.fn.ok sc_is_well_marked (fun vs H Q E h => ?_) (fun cdv A' outer s H vs Q E hr h => ?_)
  · obtain ⟨a, na, m, num, kind, size, rfl, _⟩ := h
    rfl
  · obtain ⟨a, na, m, num, kind, size, rfl, hM, hN, bM, lM, bN, lN, h32, hsz, q⟩ := h
    refine ⟨_, (pss_cons (ps_if ((pw_or (pt_cmpR op_neP (pe_callB call_lenN (gl_of (by kernel_rfl)) T.N_len PySem.boot_len (pa_cons (pv 0) pa_nil)) (pv 2) (nomark _)) (pw_or1 (pt_cmpR (op_neN (un_of hr)) (pe_slice sl_listN (pv 0) po_none (po_some (pe_nat 4))) (pe_call G_head (hr.mono (by decide)) (gl_of (by kernel_rfl)) T.F_head.mg T.F_head.kp T.F_head.bd .nil pass0 (pa_cons (pv 1) pa_nil)) (nomark _))))).pt (pss_one (ps_ret pe_bl)) pss_nil)
      (pss_cons (ps_set (i := 4) nd (by rfl) (Or.inl (by rfl)) (pe_op op_subP (pv 2) (pe_op op_mulP (pe_nat 2) (pe_const (gl_of (by kernel_rfl)) T.M_MARK))))
      (pss_one (ps_ret (pe_cmpR (op_eqN (un_of hr)) (pe_slice sl_listN (pv 0) (po_some (pv 4)) (po_some (pe_op op_addP (pv 4) (pe_const (gl_of (by kernel_rfl)) T.M_MARK)))) (pe_call G_mark_of (hr.mono (by decide)) (gl_of (by kernel_rfl)) T.F_mark_of.mg T.F_mark_of.kp T.F_mark_of.bd .nil pass0 (pa_cons (pe_slice sl_listN (pv 0) po_none (po_some (pv 4))) (pa_cons (pv 3) pa_nil))) (nomark _)))))), ?_⟩
    refine ⟨_, rfl, a, m, rfl, hM, _, rfl, _, _, rfl, rfl, _, rfl, ?_⟩
    by_cases c1 : m.length = size
    · rw [decide_eq_true c1]
      refine iteF ⟨_, rfl, _, rfl, a, m, rfl, hM, trivial, (by show (0 : Int) ≤ _; omega), fun t H1 ht s1 lt => ?_⟩
      rw [cutN_on] at lt
      refine ⟨_, rfl, kind, rfl, fun hd H2 hhd s2 lhd => .inl ⟨t, hd, _, _, rfl, rfl, s2 _ _ lt, lhd, _, rfl, ?_⟩⟩
      have s12 := s1.trans s2
      by_cases c2 : m.take 4 = little 4 kind
      · rw [decide_eq_true c2]
        refine iteF ?_
        refine ⟨_, rfl, _, _, rfl, rfl, ⟨(by decide), (by decide)⟩, _, _, rfl, rfl, h32, ?_⟩
        refine ⟨_, rfl, _, rfl, _, rfl, _, rfl, _, _, rfl, rfl, _, rfl, a, m, rfl, s12 _ _ hM, (by show (0 : Int) ≤ _; omega), (by show (0 : Int) ≤ _; omega), fun u H3 hu s3 lu => ?_⟩
        refine ⟨_, rfl, _, rfl, _, rfl, a, m, rfl, s3 _ _ (s12 _ _ hM), trivial, (by show (0 : Int) ≤ _; omega), fun v H4 hv s4 lv => ?_⟩
        have e1 : cutN m (some ((size - 2 * 16 : Nat) : Int)) (some ((size - 2 * 16 + 16 : Nat) : Int)) = (m.drop (size - 32)).take 16 := by
          simp only [cutN, Int.toNat_natCast]
          rw [show size - 2 * 16 + 16 - (size - 2 * 16) = 16 by omega]
        have e2 : cutN m none (some ((size - 2 * 16 : Nat) : Int)) = m.take (size - 32) := by simp only [cutN, Int.toNat_natCast]
        rw [e1] at lu
        rw [e2] at lv
        have s14 := s12.trans (s3.trans s4)
        refine ⟨_, rfl, v, na, _, num, rfl, lv, s14 _ _ hN, bM.take _, (by rw [List.length_take]; omega), bN, lN, fun k H5 hk s5 lk => ⟨u, k, _, _, rfl, rfl, s5 _ _ (s4 _ _ lu), lk, ?_⟩⟩
        have e3 : decide ((m.drop (size - 32)).take 16 = Sd16.mac1 num (m.take (size - 32))) = decide (wellM m num kind size) := by
          exact decide_eq_decide.mpr ⟨fun h => ⟨c1, c2, h⟩, fun h => h.2.2⟩
        rw [e3]
        exact q _ (s14.trans s5)
      · rw [decide_eq_false c2]
        refine iteT ?_
        have e3 : decide (wellM m num kind size) = false := decide_eq_false fun h => c2 h.2.1
        rw [e3] at q
        exact q _ s12
    · rw [decide_eq_false c1]
      refine iteT (iteT ?_)
      have e3 : decide (wellM m num kind size) = false := decide_eq_false fun h => c1 h.1
      rw [e3] at q
      exact q _ (Same.refl _)
end Tw
namespace Tw
open PySem L2
open Sd16 (number little)
theorem lc_xor {K : PySem.W.Frag} {a : Addr} {l : List Nat} {c : Nat} {s0 s1 s2 s3 s4 : Option V} {H1 : Hp} {D : Addr} {Qd : Hp → Prop} (hD : H1 D = none) (hl : LH H1 a l) (hlen : l.length ≤ 1000) (q : ∀ H', Same H1 H' → LH H' D (l.map fun x => x ^^^ c) → Qd H') :
    ∃ W : Nat → Nat → Hp → Prop, (∃ m, W 0 m (upd H1 D (.lst []))) ∧ ∀ i m H, W i m H →
      ((Itl K a).stop i H ∧ Qd H) ∨ ((Itl K a).go i H ∧ ∃ Nx : Hp → Prop, (∀ H', Nx H' → ∃ m', m' < m ∧ W (i + 1) m' H') ∧ ∀ x H', (Itl K a).yld i H x H' → gName 5 x (wipe [s0, s1, s2, s3, s4, none] [5]) H' fun σ2 H2 => wipe σ2 [5] = wipe [s0, s1, s2, s3, s4, none] [5] ∧ tYes σ2 H2 fun b H3 =>
        if b = true then tOp r_xorP (tVar 5) (tC (.int (c : Int))) σ2 H3 fun y H4 => ∃ acc, H4 D = some (.lst acc) ∧ acc.length < sizeLine ∧ Nx (upd H4 D (.lst (acc ++ [y]))) else Nx H3) := by
  refine lc_list (K := K) (a := a) (xs := bs l) (fun i H2 => Same H1 H2 ∧ LH H2 D ((l.map fun x => x ^^^ c).take i)) ⟨same_lay hD, upd_same⟩ (fun i H _ h => SqL.of (h.1 _ _ hl)) ?_ ?_
  · rintro i x H2 hi ⟨s2, l2⟩
    obtain ⟨n, hn, rfl⟩ := bs_get hi
    refine ⟨rfl, ?_⟩
    refine ⟨_, rfl, _, _, rfl, rfl, _, l2, ?_, same_new s2 hD, ?_⟩
    · rw [bs_len, List.length_take, PySem.sizeLine_eq, List.length_map]; omega
    · show upd _ D _ D = _
      have e : (l.map fun x => x ^^^ c)[i]? = some (n ^^^ c) := by simp [hn]
      rw [upd_same, take_succ_of e, ← bs_app]
      rfl
  · rintro H2 ⟨s2, l2⟩
    rw [bs_len, List.take_of_length_le (by rw [List.length_map]; exact Nat.le_refl _)] at l2
    exact q H2 s2 l2
theorem sc_hmac : FnScope ["key", "message", "short", "block", "inner", "octet"] ["key", "message"] (defScope s_hmac) := ⟨by kernel_rfl, by kernel_rfl, by kernel_rfl, by decide +kernel, by kernel_rfl, by decide +kernel, by decide +kernel⟩
theorem ok_hmac {P : Program} {w : World} {K : PySem.W.Frag} {mg : Str → Option Value} {base : Heap} {A : Ad} (T : Tx K mg A) : FnOk P w K mg base CX0 6 A.f_hmac A.d_hmac ["key", "message"] (sp_hmac K A) := by
  have G_digest := ok_digest (P := P) (w := w) (base := base) T
  have nd := sc_hmac.nd
  refine T.F_hmac.fn.ok sc_hmac (fun vs H Q E h => ?_) (fun cdv A' outer s H vs Q E hr h => ?_)
  · obtain ⟨ka, a, key, m, rfl, _⟩ := h
    rfl
  · obtain ⟨ka, a, key, m, rfl, hK, hM, lK, bK, bM, lM, q⟩ := h
    rw [hmac_eq] at q
    have p1 := padk_byt bK
    have p2 := padk_len (key := key) (by omega)
    refine ⟨_, (pss_cons (ps_set (i := 2) nd (by rfl) (Or.inl (by rfl)) (pe_ifExp (pt_cmpR op_gtP (pe_callB call_lenN (gl_of (by kernel_rfl)) T.N_len PySem.boot_len (pa_cons (pv 0) pa_nil)) (pe_const (gl_of (by kernel_rfl)) T.M_BLOCK_blake) (nomark _)) (pe_call G_digest (hr.mono (by decide)) (gl_of (by kernel_rfl)) T.F_digest.mg T.F_digest.kp T.F_digest.bd .nil pass0 (pa_cons (pv 0) pa_nil)) (pv 0)))
      (pss_cons (ps_set (i := 3) nd (by rfl) (Or.inl (by rfl)) (pe_op op_catN (pv 2) (pe_op op_repN (pe_lstN (pa_cons (pe_nat 0) pa_nil)) (pe_op op_subP (pe_const (gl_of (by kernel_rfl)) T.M_BLOCK_blake) (pe_callB call_lenN (gl_of (by kernel_rfl)) T.N_len PySem.boot_len (pa_cons (pv 2) pa_nil))))))
      (pss_cons (ps_set (i := 4) nd (by rfl) (Or.inl (by rfl)) (pe_call G_digest (hr.mono (by decide)) (gl_of (by kernel_rfl)) T.F_digest.mg T.F_digest.kp T.F_digest.bd .nil pass0 (pa_cons (pe_op op_catN (pe_lc rfl nd (pi_list (pv 3)) (blkOk_by (own := [("octet", 5)]) (by kernel_rfl)) (fun _ _ _ _ _ => (pg_name (i := 5) nd (by rfl) (Or.inl (by rfl)))) (fun _ _ _ _ _ => pts_nil) (fun _ _ _ _ _ => (pe_op op_xorP (pv 5) (pe_nat 54)))) (pv 1)) pa_nil)))
      (pss_one (ps_ret (pe_call G_digest (hr.mono (by decide)) (gl_of (by kernel_rfl)) T.F_digest.mg T.F_digest.kp T.F_digest.bd .nil pass0 (pa_cons (pe_op op_catN (pe_lc rfl nd (pi_list (pv 3)) (blkOk_by (own := [("octet", 5)]) (by kernel_rfl)) (fun _ _ _ _ _ => (pg_name (i := 5) nd (by rfl) (Or.inl (by rfl)))) (fun _ _ _ _ _ => pts_nil) (fun _ _ _ _ _ => (pe_op op_xorP (pv 5) (pe_nat 92)))) (pv 4)) pa_nil))))))), ?_⟩
    walk_at "tw nf"
    refine ⟨_, rfl, ka, key, rfl, hK, _, _, rfl, rfl, _, rfl, ?_⟩
    rw [decide_eq_false (show ¬ 64 < key.length by omega)]
    refine iteF ⟨_, rfl, ?_⟩
    walk_at "tw nf"
    refine ⟨_, rfl, [0], rfl, (by decide), fun z H1 hz s1 lz => ⟨_, rfl, ka, key, rfl, s1 _ _ hK, _, _, rfl, rfl, (by omega), z, 0, _, rfl, rfl, lz, (by omega), fun r H2 hr2 s2 lr => ⟨ka, r, key, _, rfl, rfl, s2 _ _ (s1 _ _ hK), lr, (by rw [List.length_replicate]; omega), fun b H3 hb s3 lb => ?_⟩⟩⟩
    walk_at "tw nf"
    have lb' : LH H3 b (padk key) := lb
    have s13 : Same H H3 := s1.trans (s2.trans s3)
    generalize padk key = pk at p1 p2 lb' q
    refine ⟨_, rfl, b, rfl, ⟨_, SqL.of lb'⟩, fun x hx => lc_xor hx lb' (by omega) fun H4 s4 lx => ?_⟩
    refine ⟨_, rfl, x, a, _, m, rfl, rfl, lx, s4 _ _ (s13 _ _ hM), (by rw [List.length_map]; omega), fun y H5 hy s5 ly => ⟨y, _, rfl, ly, (xor_byt p1 (by decide)).app bM, (by rw [List.length_append, List.length_map]; omega), fun inn H6 hin s6 lin => ?_⟩⟩
    walk_at "tw nf"
    have s46 : Same H3 H6 := s4.trans (s5.trans s6)
    refine ⟨_, rfl, b, rfl, ⟨_, SqL.of (s46 _ _ lb')⟩, fun x2 hx2 => lc_xor hx2 (s46 _ _ lb') (by omega) fun H7 s7 lx2 => ?_⟩
    refine ⟨_, rfl, x2, inn, _, _, rfl, rfl, lx2, s7 _ _ lin, (by rw [List.length_map, hash_len]; omega), fun y2 H8 hy2 s8 ly2 => ⟨y2, _, rfl, ly2, (xor_byt p1 (by decide)).app (hash_byt _), (by rw [List.length_append, List.length_map, hash_len]; omega), fun p H9 hp s9 lp => ?_⟩⟩
    have s19 : Same H H8 := s13.trans (s46.trans (s7.trans s8))
    exact q p H9 (s19.free hp) (s19.trans s9) lp
theorem sc_drawn : FnScope ["count", "key", "message", "root", "latest", "result", "place"] ["count", "key", "message"] (defScope s_drawn) := ⟨by kernel_rfl, by kernel_rfl, by kernel_rfl, by decide +kernel, by kernel_rfl, by decide +kernel, by decide +kernel⟩
theorem ok_drawn {P : Program} {w : World} {K : PySem.W.Frag} {mg : Str → Option Value} {base : Heap} {A : Ad} (T : Tx K mg A) : FnOk P w K mg base CX0 7 A.f_drawn A.d_drawn ["count", "key", "message"] (sp_drawn K A) := by
  have G_hmac := ok_hmac (P := P) (w := w) (base := base) T
  have nd := sc_drawn.nd
  refine T.F_drawn.fn.ok sc_drawn (fun vs H Q E h => ?_) (fun cdv A' outer s H vs Q E hr h => ?_)
  · obtain ⟨ka, a, key, m, n, rfl, _⟩ := h
    rfl
  · obtain ⟨ka, a, key, m, n, rfl, hn, hK, hM, lK, bK, bM, lM, q⟩ := h
    refine ⟨_, (pss_cons (ps_set (i := 3) nd (by rfl) (Or.inl (by rfl)) (pe_call G_hmac (hr.mono (by decide)) (gl_of (by kernel_rfl)) T.F_hmac.mg T.F_hmac.kp T.F_hmac.bd .nil pass0 (pa_cons (pv 1) (pa_cons (pv 2) pa_nil))))
      (pss_cons (ps_set (i := 4) nd (by rfl) (Or.inl (by rfl)) (pe_lstN pa_nil))
      (pss_cons (ps_set (i := 5) nd (by rfl) (Or.inl (by rfl)) (pe_lstN pa_nil))
      (pss_cons (ps_for PassesOwn.never rfl (pi_range2 (gl_of (by kernel_rfl)) T.N_range (pa_cons (pe_nat 1) (pa_cons (pe_op op_addP (pv 0) (pe_nat 1)) pa_nil))) (pg_name (i := 6) nd (by rfl) (Or.inl (by rfl))) (pss_cons (ps_set (i := 4) nd (by rfl) (Or.inl (by rfl)) (pe_call G_hmac (hr.mono (by decide)) (gl_of (by kernel_rfl)) T.F_hmac.mg T.F_hmac.kp T.F_hmac.bd .nil pass0 (pa_cons (pv 3) (pa_cons (pe_op op_catN (pv 4) (pe_lstN (pa_cons (pv 6) pa_nil))) pa_nil))))
      (pss_one (ps_expr (pe_bm PySem.F.plainAttrs_list PySem.F.slot_list_append PySem.F.type_list_append mt_append (pv 5) (pa_cons (pv 4) pa_nil))))))
      (pss_one (ps_ret (pv 5))))))), ?_⟩
    walk_at "tw nf"
    refine ⟨_, rfl, _, rfl, ka, a, key, m, rfl, hK, hM, lK, bK, bM, lM, fun ra H1 hra s1 lra => ?_⟩
    walk_at "tw nf"
    refine ⟨[], rfl, (by decide), fun la H2 hla s2 lla => ?_⟩
    walk_at "tw nf"
    refine ⟨[], rfl, (by decide), fun rs H3 hrs s3 lrs => ?_⟩
    walk_at "tw nf"
    have lt := hmac_len key m
    have bt := hmac_byt key m
    rw [keys_eq] at q
    generalize Sd16.hmac key m = t at lra lt bt q
    have s13 : Same H H3 := s1.trans (s2.trans s3)
    have nrs : H rs = none := (s1.trans s2).free hrs
    have lra3 := s3 _ _ (s2 _ _ lra)
    have nra : ra ≠ rs := ne_of_none (s2 _ _ lra) hrs
    have nla : la ≠ rs := ne_of_none lla hrs
    refine ⟨_, rfl, _, _, rfl, rfl, 1, ((n + 1 : Nat) : Int), rfl, ⟨(by decide), (by decide), (by omega), (by omega)⟩, ?_⟩
    rw [show (((n + 1 : Nat) : Int) - 1).toNat = n by omega]
    refine for_rangeP (lo := 1) (n := n) (fun i σ H4 => ∃ (lx : Addr) (ps : List Addr) (v6 : Option V), σ = [some (.int n), some (.ref ka), some (.ref a), some (.ref ra), some (.ref lx), some (.ref rs), v6] ∧ Same H H4 ∧ LH H4 ra t ∧ LH H4 lx (lastK t i) ∧ lx ≠ rs ∧
        H4 rs = some (.lst (ps.map V.ref)) ∧ (∀ b ∈ ps, b ≠ rs) ∧ LHs H4 ps ((List.range i).map fun j => lastK t (j + 1)))
      ⟨la, [], none, rfl, s13, lra3, s3 _ _ lla, nla, lrs, (fun b h => by simp at h), rfl, fun i b l h => by simp at h⟩ ?_ ?_
    · rintro i σ H4 hi ⟨lx, ps, v6, rfl, s4, l4, ll4, nlx, r4, np, hps⟩
      walk_at "tw nf"
      have hb : Byt (lastK t i ++ [1 + i]) := (lastK_byt t i).app (Byt.cons (by omega) Byt.nil)
      have hll : (lastK t i).length ≤ 32 := by
        cases i with
        | zero => exact Nat.zero_le _
        | succ i => rw [lastK_len]; exact Nat.le_refl _
      refine ⟨_, rfl, _, rfl, _, rfl, [1 + i], rfl, (by show 1 ≤ _; decide), fun z H5 hz s5 lz => ⟨lx, z, _, _, rfl, rfl, s5 _ _ ll4, lz, (by show _ + 1 ≤ _; omega), fun y H6 hy s6 ly => ⟨ra, y, t, _, rfl, s6 _ _ (s5 _ _ l4), ly, lt, bt, hb, (by rw [List.length_append]; show _ + 1 ≤ _; omega), fun p H7 hp s7 lp => ?_⟩⟩⟩
      walk_at "tw nf"
      have s57 : Same H4 H7 := s5.trans (s6.trans s7)
      have r7 := s57 _ _ r4
      have npr : p ≠ rs := fun e => by
        subst e
        have := (s5.trans s6) _ _ r4
        rw [hp] at this; cases this
      have ek : Sd16.hmac t (lastK t i ++ [1 + i]) = lastK t (i + 1) := by rw [Nat.add_comm 1 i]; rfl
      rw [ek] at lp
      refine ⟨_, rfl, .inl ⟨rfl, _, SqL.of r7⟩, _, rfl, rs, ps.map V.ref, .ref p, rfl, rfl, r7, ?_, ?_⟩
      · rw [List.length_map, hps.1, List.length_map, List.length_range, PySem.sizeLine_eq]; omega
      refine ⟨p, ps ++ [p], _, rfl, same_new (s4.trans s57) nrs, ?_, ?_, npr, ?_, ?_, ?_, ?_⟩
      · show upd _ rs _ ra = _
        rw [upd_ne nra]; exact s57 _ _ l4
      · show upd _ rs _ p = _
        rw [upd_ne npr]; exact lp
      · rw [upd_same]; simp
      · intro b hb
        rcases List.mem_append.mp hb with hb | hb
        · exact np b hb
        · rw [List.mem_singleton.mp hb]; exact npr
      · rw [List.length_append, hps.1]; simp
      · intro j b l hj hl
        have hps1 := hps.1
        rw [List.length_map, List.length_range] at hps1
        rw [List.getElem?_append] at hj
        rw [List.range_succ, List.map_append, List.getElem?_append, List.length_map, List.length_range] at hl
        rw [hps1] at hj
        by_cases hji : j < i
        · rw [if_pos hji] at hj hl
          show upd _ rs _ b = _
          rw [upd_ne (np b (List.mem_of_getElem? hj))]
          exact s57 _ _ (hps.2 j b l hj hl)
        · rw [if_neg hji] at hj hl
          have ej : j - i = 0 := by
            have := (List.getElem?_eq_some_iff.mp hj).1
            simp at this; omega
          rw [ej] at hj hl
          have e1 : p = b := Option.some.inj hj
          have e2 : lastK t (i + 1) = l := Option.some.inj hl
          subst e1 e2
          show upd _ rs _ p = _
          rw [upd_ne npr]; exact lp
    · rintro σ H4 ⟨lx, ps, v6, rfl, s4, l4, ll4, nlx, r4, np, hps⟩
      exact ⟨_, rfl, q rs ps H4 nrs s4 r4 hps⟩
end Tw
namespace Tw
open PySem L2
open Sd16 (number little)
theorem rolN_lt {t n : Nat} (ht : t < 2 ^ 32) : rolN t n < 2 ^ 32 := by
  apply Nat.or_lt_two_pow
  · exact Nat.mod_lt _ (by decide)
  · exact Nat.lt_of_le_of_lt (Nat.div_le_self _ _) ht
theorem rol_p (t n m : Nat) (hm : m = 32 - n) : t * 2 ^ n &&& 4294967295 ||| t / 2 ^ m = rolN t n := by
  subst hm
  rw [and_low32]; rfl
def sp_quarter (K : PySem.W.Frag) (A : Ad) : Sp := fun vs H Q _ => ∃ (w : Addr) (v : List Nat) (a b c d : Nat), vs = [.ref w, .int a, .int b, .int c, .int d] ∧ LH H w v ∧ W32 v ∧ a < v.length ∧ b < v.length ∧ c < v.length ∧ d < v.length ∧
  Q .non (upd H w (.lst (bs (quarterN v (a, b, c, d)))))
theorem sc_quarter : FnScope ["work", "a", "b", "c", "d", "one", "turned", "four", "three", "two"] ["work", "a", "b", "c", "d"] (defScope s_quarter) := ⟨by kernel_rfl, by kernel_rfl, by kernel_rfl, by decide +kernel, by kernel_rfl, by decide +kernel, by decide +kernel⟩
theorem ok_quarter {P : Program} {w : World} {K : PySem.W.Frag} {mg : Str → Option Value} {base : Heap} {A : Ad} (T : Tx K mg A) : FnOk P w K mg base CX0 1 A.f_quarter A.d_quarter ["work", "a", "b", "c", "d"] (sp_quarter K A) := by
  have nd := sc_quarter.nd
  refine T.F_quarter.fn.ok sc_quarter (fun vs H Q E h => ?_) (fun cdv A' outer s H vs Q E hr h => ?_)
  · obtain ⟨w, v, a, b, c, d, rfl, _⟩ := h
    rfl
  · obtain ⟨w, v, a, b, c, d, rfl, hL, hw, la, lb, lc, ld, q⟩ := h
    refine ⟨_, (pss_cons (ps_set (i := 5) nd (by rfl) (Or.inl (by rfl)) (pe_op op_andP (pe_op op_addP (pe_ix ix_listN (pv 0) (pv 1) (fun _ _ => rfl)) (pe_ix ix_listN (pv 0) (pv 2) (fun _ _ => rfl))) (pe_const (gl_of (by kernel_rfl)) T.M_LOW_chacha)))
      (pss_cons (ps_set (i := 6) nd (by rfl) (Or.inl (by rfl)) (pe_op op_xorP (pe_ix ix_listN (pv 0) (pv 4) (fun _ _ => rfl)) (pv 5)))
      (pss_cons (ps_set (i := 7) nd (by rfl) (Or.inl (by rfl)) (pe_op op_orP (pe_op op_andP (pe_op op_shlP (pv 6) (pe_nat 16)) (pe_const (gl_of (by kernel_rfl)) T.M_LOW_chacha)) (pe_op op_shrP (pv 6) (pe_nat 16))))
      (pss_cons (ps_set (i := 8) nd (by rfl) (Or.inl (by rfl)) (pe_op op_andP (pe_op op_addP (pe_ix ix_listN (pv 0) (pv 3) (fun _ _ => rfl)) (pv 7)) (pe_const (gl_of (by kernel_rfl)) T.M_LOW_chacha)))
      (pss_cons (ps_set (i := 6) nd (by rfl) (Or.inl (by rfl)) (pe_op op_xorP (pe_ix ix_listN (pv 0) (pv 2) (fun _ _ => rfl)) (pv 8)))
      (pss_cons (ps_set (i := 9) nd (by rfl) (Or.inl (by rfl)) (pe_op op_orP (pe_op op_andP (pe_op op_shlP (pv 6) (pe_nat 12)) (pe_const (gl_of (by kernel_rfl)) T.M_LOW_chacha)) (pe_op op_shrP (pv 6) (pe_nat 20))))
      (pss_cons (ps_set (i := 5) nd (by rfl) (Or.inl (by rfl)) (pe_op op_andP (pe_op op_addP (pv 5) (pv 9)) (pe_const (gl_of (by kernel_rfl)) T.M_LOW_chacha)))
      (pss_cons (ps_set (i := 6) nd (by rfl) (Or.inl (by rfl)) (pe_op op_xorP (pv 7) (pv 5)))
      (pss_cons (ps_set (i := 7) nd (by rfl) (Or.inl (by rfl)) (pe_op op_orP (pe_op op_andP (pe_op op_shlP (pv 6) (pe_nat 8)) (pe_const (gl_of (by kernel_rfl)) T.M_LOW_chacha)) (pe_op op_shrP (pv 6) (pe_nat 24))))
      (pss_cons (ps_set (i := 8) nd (by rfl) (Or.inl (by rfl)) (pe_op op_andP (pe_op op_addP (pv 8) (pv 7)) (pe_const (gl_of (by kernel_rfl)) T.M_LOW_chacha)))
      (pss_cons (ps_set (i := 6) nd (by rfl) (Or.inl (by rfl)) (pe_op op_xorP (pv 9) (pv 8)))
      (pss_cons (ps_asg (pv 5) (pg_sub (pv 0) (pv 1) set_listN))
      (pss_cons (ps_asg (pe_op op_orP (pe_op op_andP (pe_op op_shlP (pv 6) (pe_nat 7)) (pe_const (gl_of (by kernel_rfl)) T.M_LOW_chacha)) (pe_op op_shrP (pv 6) (pe_nat 25))) (pg_sub (pv 0) (pv 2) set_listN))
      (pss_cons (ps_asg (pv 8) (pg_sub (pv 0) (pv 3) set_listN))
      (pss_one (ps_asg (pv 7) (pg_sub (pv 0) (pv 4) set_listN))))))))))))))))), ?_⟩
    walk_at "tw nf"
    have ha := getD_some la
    have hb := getD_some lb
    have hc := getD_some lc
    have hd := getD_some ld
    have wb := hw.getD b
    have wd := hw.getD d
    simp only [quarterN] at q
    generalize v.getD a 0 = va at ha q
    generalize v.getD b 0 = vb at hb q wb
    generalize v.getD c 0 = vc at hc q
    generalize v.getD d 0 = vd at hd q wd
    have m32 : ∀ n : Nat, n % 2 ^ 32 < 2 ^ 32 := fun n => Nat.mod_lt _ (by decide)
    refine ⟨_, rfl, _, rfl, w, v, a, va, rfl, rfl, hL, ha, _, rfl, _, rfl, w, v, b, vb, rfl, rfl, hL, hb, _, _, rfl, rfl, _, _, rfl, rfl, ?_⟩
    obtain ⟨one, e1⟩ : ∃ one, one = (va + vb) % 2 ^ 32 := ⟨_, rfl⟩
    have l1 : one < 2 ^ 32 := by rw [e1]; exact m32 _
    walk_at "tw nf"
    rw [and_low32, ← e1]
    refine ⟨_, rfl, _, rfl, w, v, d, vd, rfl, rfl, hL, hd, _, rfl, _, _, rfl, rfl, ?_⟩
    walk_at "tw nf"
    have t1 : vd ^^^ one < 2 ^ 32 := xor_lt wd l1
    refine ⟨_, rfl, _, _, rfl, rfl, ⟨lt64 t1, (by decide)⟩, _, _, rfl, rfl, _, rfl, _, _, rfl, rfl, _, _, rfl, rfl, ?_⟩
    walk_at "tw nf"
    obtain ⟨four, e2⟩ : ∃ four, four = rolN (vd ^^^ one) 16 := ⟨_, rfl⟩
    have l2 : four < 2 ^ 32 := by rw [e2]; exact rolN_lt t1
    rw [rol_p _ 16 16 rfl, ← e2]
    refine ⟨_, rfl, _, rfl, w, v, c, vc, rfl, rfl, hL, hc, _, rfl, _, _, rfl, rfl, _, _, rfl, rfl, ?_⟩
    walk_at "tw nf"
    obtain ⟨three, e3⟩ : ∃ three, three = (vc + four) % 2 ^ 32 := ⟨_, rfl⟩
    have l3 : three < 2 ^ 32 := by rw [e3]; exact m32 _
    rw [and_low32, ← e3]
    refine ⟨_, rfl, _, rfl, w, v, b, vb, rfl, rfl, hL, hb, _, rfl, _, _, rfl, rfl, ?_⟩
    walk_at "tw nf"
    have t2 : vb ^^^ three < 2 ^ 32 := xor_lt wb l3
    refine ⟨_, rfl, _, _, rfl, rfl, ⟨lt64 t2, (by decide)⟩, _, _, rfl, rfl, _, rfl, _, _, rfl, rfl, _, _, rfl, rfl, ?_⟩
    walk_at "tw nf"
    obtain ⟨two, e4⟩ : ∃ two, two = rolN (vb ^^^ three) 12 := ⟨_, rfl⟩
    have l4 : two < 2 ^ 32 := by rw [e4]; exact rolN_lt t2
    rw [rol_p _ 12 20 rfl, ← e4]
    refine ⟨_, rfl, _, rfl, _, _, rfl, rfl, _, _, rfl, rfl, ?_⟩
    walk_at "tw nf"
    obtain ⟨one', e5⟩ : ∃ one', one' = (one + two) % 2 ^ 32 := ⟨_, rfl⟩
    have l5 : one' < 2 ^ 32 := by rw [e5]; exact m32 _
    rw [and_low32, ← e5]
    refine ⟨_, rfl, _, rfl, _, _, rfl, rfl, ?_⟩
    walk_at "tw nf"
    have t3 : four ^^^ one' < 2 ^ 32 := xor_lt l2 l5
    refine ⟨_, rfl, _, _, rfl, rfl, ⟨lt64 t3, (by decide)⟩, _, _, rfl, rfl, _, rfl, _, _, rfl, rfl, _, _, rfl, rfl, ?_⟩
    walk_at "tw nf"
    obtain ⟨four', e6⟩ : ∃ four', four' = rolN (four ^^^ one') 8 := ⟨_, rfl⟩
    rw [rol_p _ 8 24 rfl, ← e6]
    refine ⟨_, rfl, _, rfl, _, _, rfl, rfl, _, _, rfl, rfl, ?_⟩
    walk_at "tw nf"
    obtain ⟨three', e7⟩ : ∃ three', three' = (three + four') % 2 ^ 32 := ⟨_, rfl⟩
    have l7 : three' < 2 ^ 32 := by rw [e7]; exact m32 _
    rw [and_low32, ← e7]
    refine ⟨_, rfl, _, rfl, _, _, rfl, rfl, ?_⟩
    walk_at "tw nf"
    have t4 : two ^^^ three' < 2 ^ 32 := xor_lt l4 l7
    refine ⟨_, rfl, _, rfl, _, rfl, w, v, a, one', rfl, rfl, rfl, hL, la, ?_⟩
    refine ⟨_, rfl, _, _, rfl, rfl, ⟨lt64 t4, (by decide)⟩, _, _, rfl, rfl, _, rfl, _, _, rfl, rfl, _, _, rfl, rfl, ?_⟩
    rw [rol_p _ 7 25 rfl]
    refine ⟨_, rfl, _, rfl, w, _, b, rolN (two ^^^ three') 7, rfl, rfl, rfl, upd_same, (by rw [List.length_set]; exact lb), ?_⟩
    refine ⟨_, rfl, _, rfl, _, rfl, w, _, c, three', rfl, rfl, rfl, upd_same, (by rw [List.length_set, List.length_set]; exact lc), ?_⟩
    refine ⟨_, rfl, _, rfl, _, rfl, w, _, d, four', rfl, rfl, rfl, upd_same, (by rw [List.length_set, List.length_set, List.length_set]; exact ld), ?_⟩
    rw [upd_upd, upd_upd, upd_upd]
    simp only [qN, ← e1, ← e2, ← e3, ← e4, ← e5, ← e6, ← e7] at q
    exact q
theorem quarters_list : L_QUARTERS = Ql09.ROUNDS.map fun q => [q.1, q.2.1, q.2.2.1, q.2.2.2] := by decide
theorem quarters_lt : ∀ q ∈ Ql09.ROUNDS, q.1 < 16 ∧ q.2.1 < 16 ∧ q.2.2.1 < 16 ∧ q.2.2.2 < 16 := by decide
theorem qN_lt {a b c d : Nat} (ha : a < 2 ^ 32) (hb : b < 2 ^ 32) (hc : c < 2 ^ 32) (hd : d < 2 ^ 32) :
    (qN a b c d).1 < 2 ^ 32 ∧ (qN a b c d).2.1 < 2 ^ 32 ∧ (qN a b c d).2.2.1 < 2 ^ 32 ∧ (qN a b c d).2.2.2 < 2 ^ 32 := by
  have m : ∀ n : Nat, n % 2 ^ 32 < 2 ^ 32 := fun n => Nat.mod_lt _ (by decide)
  simp only [qN]
  exact ⟨m _, rolN_lt (xor_lt (rolN_lt (xor_lt hb (m _))) (m _)), m _, rolN_lt (xor_lt (rolN_lt (xor_lt hd (m _))) (m _))⟩
theorem quarterN_ok {v : List Nat} {p : Nat × Nat × Nat × Nat} (h : v.length = 16 ∧ W32 v) : (quarterN v p).length = 16 ∧ W32 (quarterN v p) := by
  refine ⟨by rw [quarterN_len]; exact h.1, ?_⟩
  obtain ⟨q1, q2, q3, q4⟩ := qN_lt (h.2.getD p.1) (h.2.getD p.2.1) (h.2.getD p.2.2.1) (h.2.getD p.2.2.2)
  exact (((h.2.set _ q1).set _ q2).set _ q3).set _ q4
theorem rounds16 {v : List Nat} (h : v.length = 16 ∧ W32 v) (j : Nat) : ((Ql09.ROUNDS.take j).foldl quarterN v).length = 16 ∧ W32 ((Ql09.ROUNDS.take j).foldl quarterN v) :=
  fold_inv (fun v => v.length = 16 ∧ W32 v) quarterN _ v h fun _ _ _ h => quarterN_ok h
theorem tens16 {v : List Nat} (h : v.length = 16 ∧ W32 v) : ∀ k, (tensN v k).length = 16 ∧ W32 (tensN v k)
  | 0 => h
  | k + 1 => by
    have := rounds16 (tens16 h k) Ql09.ROUNDS.length
    rw [List.take_of_length_le (Nat.le_refl _)] at this
    exact this
theorem start16 {key once : List Nat} {ctr : Nat} (hk : Byt key) (ho : Byt once) (h1 : key.length = 32) (h2 : once.length = 12) (hc : ctr < 2 ^ 32) : (startN key once ctr).length = 16 ∧ W32 (startN key once ctr) := by
  refine ⟨startN_len h1 h2, ?_⟩
  have c : W32 CONSTS := by unfold W32; decide
  exact ((c.app (wordsL_lt hk)).app (fun x m => by rw [List.mem_singleton.mp m]; exact hc)).app (wordsL_lt ho)
end Tw
namespace Tw
open PySem L2
open Sd16 (number little)
def sp_stream_block (K : PySem.W.Frag) (A : Ad) : Sp := fun vs H Q _ => ∃ (ka na : Addr) (key once : List Nat) (ctr : Nat), vs = [.ref ka, .int ctr, .ref na] ∧ LH H ka key ∧ LH H na once ∧ Byt key ∧ Byt once ∧ key.length = 32 ∧ once.length = 12 ∧ ctr < 2 ^ 32 ∧ RetL H (blockN key once ctr) Q
def sp_crypted (K : PySem.W.Frag) (A : Ad) : Sp := fun vs H Q _ => ∃ (ka na ba : Addr) (key once b : List Nat), vs = [.ref ka, .ref na, .ref ba] ∧ LH H ka key ∧ LH H na once ∧ LH H ba b ∧ Byt key ∧ Byt once ∧ key.length = 32 ∧ once.length = 12 ∧ b.length ≤ 90000 ∧ RetL H (Ql09.stream key once 1 b) Q
theorem sc_stream_block : FnScope ["key", "counter", "nonce", "start", "work", "turn", "a", "b", "c", "d", "result", "before", "behind"] ["key", "counter", "nonce"] (defScope s_stream_block) := ⟨by kernel_rfl, by kernel_rfl, by kernel_rfl, by decide +kernel, by kernel_rfl, by decide +kernel, by decide +kernel⟩
theorem ok_stream_block {P : Program} {w : World} {K : PySem.W.Frag} {mg : Str → Option Value} {base : Heap} {A : Ad} (T : Tx K mg A) : FnOk P w K mg base CX0 3 A.f_stream_block A.d_stream_block ["key", "counter", "nonce"] (sp_stream_block K A) := by
  have G_words_of := ok_words_of (P := P) (w := w) (base := base) T
  have G_quarter := ok_quarter (P := P) (w := w) (base := base) T
  have G_octets_of := ok_octets_of (P := P) (w := w) (base := base) T
  have nd := sc_stream_block.nd
  refine T.F_stream_block.fn.ok sc_stream_block (fun vs H Q E h => ?_) (fun cdv A' outer s H vs Q E hr h => ?_)
  · obtain ⟨ka, na, key, once, ctr, rfl, _⟩ := h
    rfl
  · obtain ⟨ka, na, key, once, ctr, rfl, hK, hN, bK, bN, lK, lN, hc, q⟩ := h
    refine ⟨_, (pss_cons (ps_set (i := 3) nd (by rfl) (Or.inl (by rfl)) (pe_op op_catN (pe_op op_catN (pe_op op_catN (pe_callTy call_listN (gl_of (by kernel_rfl)) T.N_list bt_list (pa_cons (pe_const (gl_of (by kernel_rfl)) T.M_CONSTANTS) pa_nil)) (pe_call G_words_of (hr.mono (by decide)) (gl_of (by kernel_rfl)) T.F_words_of.mg T.F_words_of.kp T.F_words_of.bd .nil pass0 (pa_cons (pv 0) pa_nil))) (pe_lstN (pa_cons (pv 1) pa_nil))) (pe_call G_words_of (hr.mono (by decide)) (gl_of (by kernel_rfl)) T.F_words_of.mg T.F_words_of.kp T.F_words_of.bd .nil pass0 (pa_cons (pv 2) pa_nil))))
      (pss_cons (ps_set (i := 4) nd (by rfl) (Or.inl (by rfl)) (pe_callTy call_listN (gl_of (by kernel_rfl)) T.N_list bt_list (pa_cons (pv 3) pa_nil)))
      (pss_cons (ps_for PassesOwn.never rfl (pi_range1 (gl_of (by kernel_rfl)) T.N_range (pa_cons (pe_nat 10) pa_nil)) (pg_name (i := 5) nd (by rfl) (Or.inl (by rfl))) (pss_one (ps_for PassesOwn.never rfl (pi_tup (pe_const (gl_of (by kernel_rfl)) T.M_QUARTERS)) (pg_tup (n := 4) rfl (pgs_cons (pg_name (i := 6) nd (by rfl) (Or.inl (by rfl))) (pgs_cons (pg_name (i := 7) nd (by rfl) (Or.inl (by rfl))) (pgs_cons (pg_name (i := 8) nd (by rfl) (Or.inl (by rfl))) (pgs_cons (pg_name (i := 9) nd (by rfl) (Or.inl (by rfl))) pgs_nil))))) (pss_one (ps_expr (pe_call G_quarter (hr.mono (by decide)) (gl_of (by kernel_rfl)) T.F_quarter.mg T.F_quarter.kp T.F_quarter.bd .nil pass0 (pa_cons (pv 4) (pa_cons (pv 6) (pa_cons (pv 7) (pa_cons (pv 8) (pa_cons (pv 9) pa_nil)))))))))))
      (pss_cons (ps_set (i := 10) nd (by rfl) (Or.inl (by rfl)) (pe_lstN pa_nil))
      (pss_cons (ps_for PassesOwn.never rfl (pi_zip (gl_of (by kernel_rfl)) T.N_zip (pa_cons (pv 3) (pa_cons (pv 4) pa_nil))) (pg_tup (n := 2) rfl (pgs_cons (pg_name (i := 11) nd (by rfl) (Or.inl (by rfl))) (pgs_cons (pg_name (i := 12) nd (by rfl) (Or.inl (by rfl))) pgs_nil))) (pss_one (ps_expr (pe_bm PySem.F.plainAttrs_list PySem.F.slot_list_extend PySem.F.type_list_extend mt_extendN (pv 10) (pa_cons (pe_call G_octets_of (hr.mono (by decide)) (gl_of (by kernel_rfl)) T.F_octets_of.mg T.F_octets_of.kp T.F_octets_of.bd .nil pass0 (pa_cons (pe_op op_andP (pe_op op_addP (pv 11) (pv 12)) (pe_const (gl_of (by kernel_rfl)) T.M_LOW_chacha)) (pa_cons (pe_nat 4) pa_nil))) pa_nil)))))
      (pss_one (ps_ret (pv 10)))))))), ?_⟩
    walk_at "tw nf"
    have hcl : L_CONSTANTS.length = 4 := rfl
    have wk : (wordsL key).length = 8 := by rw [wordsL_len, lK]
    have wn : (wordsL once).length = 3 := by rw [wordsL_len, lN]
    refine ⟨A.t_CONSTANTS, L_CONSTANTS, rfl, .inr (T.Q_CONSTANTS _), fun c H1 hc1 s1 lc => ⟨_, rfl, ka, key, rfl, s1 _ _ hK, bK, (by omega), fun wka H2 hwk s2 lwk => ⟨c, wka, _, _, rfl, rfl, s2 _ _ lc, lwk, (by rw [hcl, wk]; decide), fun x1 H3 hx1 s3 lx1 => ?_⟩⟩⟩
    have s13 : Same H H3 := s1.trans (s2.trans s3)
    refine ⟨_, rfl, [ctr], rfl, (by show 1 ≤ _; decide), fun cl H4 hcl4 s4 lcl => ⟨x1, cl, _, _, rfl, rfl, s4 _ _ lx1, lcl, (by rw [List.length_append, hcl, wk, List.length_singleton]; decide), fun x2 H5 hx2 s5 lx2 => ?_⟩⟩
    have s15 : Same H H5 := s13.trans (s4.trans s5)
    refine ⟨_, rfl, na, once, rfl, s15 _ _ hN, bN, (by omega), fun wna H6 hwn s6 lwn => ⟨x2, wna, _, _, rfl, rfl, s6 _ _ lx2, lwn, (by rw [List.length_append, List.length_append, hcl, wk, wn, List.length_singleton]; show 4 + 8 + 1 + 3 ≤ 1000000; decide), fun st H7 hst s7 lst => ?_⟩⟩
    walk_at "tw nf"
    have lst' : LH H7 st (startN key once ctr) := lst
    have s17 : Same H H7 := s15.trans (s6.trans s7)
    refine ⟨_, rfl, st, _, rfl, .inl lst', fun w H8 hw s8 lw => ?_⟩
    walk_at "tw nf"
    have sok := start16 bK bN lK lN hc
    unfold blockN at q
    generalize startN key once ctr = sN at lst' lw sok q
    have s18 : Same H H8 := s17.trans s8
    have nw : H w = none := s17.free hw
    have nsw : st ≠ w := ne_of_none lst' hw
    obtain ⟨us, hus, ulen, uq⟩ := T.Q_QUARTERS
    refine ⟨_, rfl, (by decide), (by decide), for_rangeP (lo := 0) (n := 10) (fun i σ H9 => ∃ v5 v6 v7 v8 v9, σ = [some (.ref ka), some (.int ctr), some (.ref na), some (.ref st), some (.ref w), v5, v6, v7, v8, v9, none, none, none] ∧ Same H H9 ∧ LH H9 st sN ∧ LH H9 w (tensN sN i))
      ⟨_, _, _, _, _, rfl, s18, s8 _ _ lst', lw⟩ ?_ ?_⟩
    · rintro i σ H9 hi ⟨v5, v6, v7, v8, v9, rfl, s9, l9, w9⟩
      walk_at "tw nf"
      have tok := tens16 sok i
      refine ⟨A.t_QUARTERS, rfl, ⟨_, hus _⟩, for_tup (K := K) (a := A.t_QUARTERS) (xs := us.map V.ref) (fun j σ H10 => ∃ v6 v7 v8 v9, σ = [some (.ref ka), some (.int ctr), some (.ref na), some (.ref st), some (.ref w), some (.int ((0 + i : Nat) : Int)), v6, v7, v8, v9, none, none, none] ∧ Same H H10 ∧ LH H10 st sN ∧ LH H10 w ((Ql09.ROUNDS.take j).foldl quarterN (tensN sN i)))
        ⟨_, _, _, _, rfl, s9, l9, w9⟩ (fun i σ H5 _ _ => hus _) ?_ ?_⟩
      · rintro j y σ H10 hj ⟨v6, v7, v8, v9, rfl, s10, l10, w10⟩
        obtain ⟨u, hu, rfl⟩ := map_ref_get hj
        obtain ⟨ql, hql⟩ := at_len ulen hu
        have uo := uq j u ql hu hql
        rw [quarters_list, List.getElem?_map] at hql
        obtain ⟨qq, hqq, rfl⟩ : ∃ qq, Ql09.ROUNDS[j]? = some qq ∧ ql = [qq.1, qq.2.1, qq.2.2.1, qq.2.2.2] := by
          cases e : Ql09.ROUNDS[j]? with
          | none => rw [e] at hql; cases hql
          | some z => rw [e] at hql; exact ⟨z, rfl, (Option.some.inj hql).symm⟩
        obtain ⟨x1, x2, x3, x4⟩ := quarters_lt qq (List.mem_of_getElem? hqq)
        have vj := rounds16 tok j
        refine ⟨u, _, rfl, uo _, rfl, _, _, rfl, _, _, rfl, _, _, rfl, _, _, rfl, rfl, ?_⟩
        walk_at "tw nf"
        refine ⟨_, rfl, _, rfl, _, rfl, _, rfl, _, rfl, w, _, _, _, _, _, rfl, w10, vj.2, (by rw [vj.1]; exact x1), (by rw [vj.1]; exact x2), (by rw [vj.1]; exact x3), (by rw [vj.1]; exact x4), ?_⟩
        refine ⟨_, _, _, _, rfl, same_new s10 nw, ?_, ?_⟩
        · show upd _ w _ st = _
          rw [upd_ne nsw]; exact l10
        · show upd _ w _ w = _
          rw [upd_same, foldl_take_succ _ hqq]
      · rintro σ H10 ⟨v6, v7, v8, v9, rfl, s10, l10, w10⟩
        rw [List.length_map, ulen, List.take_of_length_le (by decide)] at w10
        exact ⟨_, _, _, _, _, rfl, s10, l10, w10⟩
    · rintro σ H9 ⟨v5, v6, v7, v8, v9, rfl, s9, l9, w9⟩
      have tok := tens16 sok 10
      generalize tensN sN 10 = wN at w9 tok q
      refine ⟨[], rfl, (by decide), fun rs H10 hrs s10 lrs => ?_⟩
      walk_at "tw nf"
      have nrs : H rs = none := s9.free hrs
      have n1 : st ≠ rs := ne_of_none l9 hrs
      have n2 : w ≠ rs := ne_of_none w9 hrs
      refine ⟨_, rfl, _, rfl, st, w, _, _, rfl, SqL.of (s10 _ _ l9), SqL.of (s10 _ _ w9), for_zip (K := K) (a := st) (b := w) (xs := bs sN) (ys := bs wN) (n := 16) (by rw [bs_len, bs_len, sok.1, tok.1]; rfl)
        (fun i σ H11 => ∃ v11 v12, σ = [some (.ref ka), some (.int ctr), some (.ref na), some (.ref st), some (.ref w), v5, v6, v7, v8, v9, some (.ref rs), v11, v12] ∧ Same H H11 ∧ LH H11 st sN ∧ LH H11 w wN ∧ LH H11 rs (((sN.zip wN).take i).flatMap fun x => little 4 ((x.1 + x.2) % 2 ^ 32)))
        ⟨_, _, rfl, s9.trans s10, s10 _ _ l9, s10 _ _ w9, lrs⟩ (fun i σ H11 _ ⟨_, _, _, _, h1, h2, _⟩ => ⟨SqL.of h1, SqL.of h2⟩) ?_ ?_⟩
      · rintro i x y σ H11 T1 hx hy ⟨v11, v12, rfl, s11, l11, w11, r11⟩ hT1
        obtain ⟨m, hm, rfl⟩ := bs_get hx
        obtain ⟨n, hn, rfl⟩ := bs_get hy
        have t1 : st ≠ T1 := ne_of_none l11 hT1
        have t2 : w ≠ T1 := ne_of_none w11 hT1
        have t3 : rs ≠ T1 := ne_of_none r11 hT1
        refine ⟨T1, _, rfl, SqT.of upd_same, rfl, _, _, rfl, _, _, rfl, rfl, ?_⟩
        walk_at "tw nf"
        have sT : Same H (upd H11 T1 (.tup [.int m, .int n])) := same_new s11 (s11.free hT1)
        have rT : LH (upd H11 T1 (.tup [.int m, .int n])) rs (((sN.zip wN).take i).flatMap fun x => little 4 ((x.1 + x.2) % 2 ^ 32)) := by
          show upd _ T1 _ rs = _
          rw [upd_ne t3]; exact r11
        refine ⟨_, rfl, .inl ⟨rfl, _, SqL.of rT⟩, _, rfl, _, rfl, _, _, rfl, rfl, _, _, rfl, rfl, _, 4, rfl, (by decide), fun p H12 hp s12 lp => ⟨rs, p, _, _, rfl, rfl, s12 _ _ rT, lp, ?_, some (.int m), some (.int n), rfl, same_new (sT.trans s12) nrs, ?_, ?_, ?_⟩⟩
        · have hl : ((sN.zip wN).take i).length ≤ 16 := by rw [List.length_take, List.length_zip, sok.1, tok.1]; omega
          have : ∀ l : List (Nat × Nat), (l.flatMap fun x => little 4 ((x.1 + x.2) % 2 ^ 32)).length = 4 * l.length := fun l => by
            induction l with
            | nil => rfl
            | cons a l ih => rw [List.flatMap_cons, List.length_append, ih, little_length, List.length_cons]; omega
          rw [this, little_length]; omega
        · show upd _ rs _ st = _
          rw [upd_ne n1]; exact s12 _ _ (by rw [upd_ne t1]; exact l11)
        · show upd _ rs _ w = _
          rw [upd_ne n2]; exact s12 _ _ (by rw [upd_ne t2]; exact w11)
        · show upd _ rs _ rs = _
          rw [upd_same, zip_take_succ hm hn, List.flatMap_append, and_low32]
          simp
      · rintro σ H11 ⟨v11, v12, rfl, s11, l11, w11, r11⟩
        rw [List.take_of_length_le (by rw [List.length_zip, sok.1, tok.1]; decide)] at r11
        exact ⟨_, rfl, q rs H11 nrs s11 r11⟩
theorem sc_crypted : FnScope ["key", "nonce", "octets", "result", "at", "mask", "octet", "cover"] ["key", "nonce", "octets"] (defScope s_crypted) := ⟨by kernel_rfl, by kernel_rfl, by kernel_rfl, by decide +kernel, by kernel_rfl, by decide +kernel, by decide +kernel⟩
theorem ok_crypted {P : Program} {w : World} {K : PySem.W.Frag} {mg : Str → Option Value} {base : Heap} {A : Ad} (T : Tx K mg A) : FnOk P w K mg base CX0 4 A.f_crypted A.d_crypted ["key", "nonce", "octets"] (sp_crypted K A) := by
  have G_stream_block := ok_stream_block (P := P) (w := w) (base := base) T
  have nd := sc_crypted.nd
  refine T.F_crypted.fn.ok sc_crypted (fun vs H Q E h => ?_) (fun cdv A' outer s H vs Q E hr h => ?_)
  · obtain ⟨ka, na, ba, key, once, b, rfl, _⟩ := h
    rfl
  · obtain ⟨ka, na, ba, key, once, b, rfl, hK, hN, hB, bK, bN, lK, lN, lB, q⟩ := h
    refine ⟨_, (pss_cons (ps_set (i := 3) nd (by rfl) (Or.inl (by rfl)) (pe_lstN pa_nil))
      (pss_cons (ps_for PassesOwn.never rfl (pi_range3 (gl_of (by kernel_rfl)) T.N_range (pa_cons (pe_nat 0) (pa_cons (pe_callB call_lenN (gl_of (by kernel_rfl)) T.N_len PySem.boot_len (pa_cons (pv 2) pa_nil)) (pa_cons (pe_const (gl_of (by kernel_rfl)) T.M_BLOCK_chacha) pa_nil)))) (pg_name (i := 4) nd (by rfl) (Or.inl (by rfl))) (pss_cons (ps_set (i := 5) nd (by rfl) (Or.inl (by rfl)) (pe_call G_stream_block (hr.mono (by decide)) (gl_of (by kernel_rfl)) T.F_stream_block.mg T.F_stream_block.kp T.F_stream_block.bd .nil pass0 (pa_cons (pv 0) (pa_cons (pe_op op_addP (pe_nat 1) (pe_op op_fdivP (pv 4) (pe_const (gl_of (by kernel_rfl)) T.M_BLOCK_chacha))) (pa_cons (pv 1) pa_nil)))))
      (pss_one (ps_expr (pe_bm PySem.F.plainAttrs_list PySem.F.slot_list_extend PySem.F.type_list_extend mt_extendN (pv 3) (pa_cons (pe_lc (g := gTup K 2 (gCons (gName 6) (gCons (gName 7) gNil))) rfl nd (pi_zip (gl_of (by kernel_rfl)) T.N_zip (pa_cons (pe_slice sl_listN (pv 2) (po_some (pv 4)) (po_some (pe_op op_addP (pv 4) (pe_const (gl_of (by kernel_rfl)) T.M_BLOCK_chacha)))) (pa_cons (pv 5) pa_nil))) (blkOk_by (own := [("octet", 6), ("cover", 7)]) (by kernel_rfl)) (fun _ _ _ _ _ => (pg_tup (n := 2) rfl (pgs_cons (pg_name (i := 6) nd (by rfl) (Or.inl (by rfl))) (pgs_cons (pg_name (i := 7) nd (by rfl) (Or.inl (by rfl))) pgs_nil)))) (fun _ _ _ _ _ => pts_nil) (fun _ _ _ _ _ => (pe_op op_xorP (pv 6) (pv 7)))) pa_nil))))))
      (pss_one (ps_ret (pv 3))))), ?_⟩
    walk_at "tw nf"
    rw [stream_eq bK bN lK lN (by omega)] at q
    refine ⟨[], rfl, (by decide), fun rs H1 hrs s1 lrs => ?_⟩
    walk_at "tw nf"
    refine ⟨_, rfl, ba, b, rfl, s1 _ _ hB, 0, (b.length : Int), 64, (b.length + 63) / 64, rfl, rgC_up (c := 64) (by omega) (by omega) (by omega), for_rangeCP (lo := 0) (c := 64) (n := (b.length + 63) / 64)
      (fun i σ H2 => ∃ v4 v5, σ = [some (.ref ka), some (.ref na), some (.ref ba), some (.ref rs), v4, v5, none, none] ∧ Same H H2 ∧ LH H2 rs (xorN (b.take (64 * i)) (coverN key once i))) ⟨none, none, rfl, s1, lrs⟩ ?_ ?_⟩
    · rintro i σ H2 hi ⟨v4, v5, rfl, s2, r2⟩
      walk_at "tw nf"
      have hib : 64 * i < b.length := by omega
      have e1 : 1 + (0 + i * 64) / 64 = 1 + i := by omega
      refine ⟨_, rfl, _, rfl, _, _, rfl, rfl, ⟨(by decide), (by decide)⟩, _, _, rfl, rfl, _, rfl, ka, na, key, once, _, rfl, s2 _ _ hK, s2 _ _ hN, bK, bN, lK, lN, (by omega), fun mk H3 hmk s3 lmk => ?_⟩
      walk_at "tw nf"
      rw [e1] at lmk
      have r3 := s3 _ _ r2
      refine ⟨_, rfl, .inl ⟨rfl, _, SqL.of r3⟩, _, rfl, _, rfl, _, rfl, _, rfl, _, _, rfl, rfl, _, rfl, ba, b, rfl, s3 _ _ (s2 _ _ hB), (by show (0 : Int) ≤ _; omega), (by show (0 : Int) ≤ _; omega), fun sl H4 hsl s4 lsl => ?_⟩
      rw [cutN_nn, show 0 + i * 64 + 64 - (0 + i * 64) = 64 by omega, show 0 + i * 64 = 64 * i by omega] at lsl
      have lmk4 := s4 _ _ lmk
      have blen : (blockN key once (1 + i)).length = 64 := blockN_len lK lN
      have slen : ((b.drop (64 * i)).take 64).length ≤ 64 := by rw [List.length_take]; omega
      have htn := stream_turn (b := b) lK lN (i := i) (by omega)
      generalize blockN key once (1 + i) = bk at lmk4 blen htn
      generalize (b.drop (64 * i)).take 64 = sb at lsl slen htn
      refine ⟨_, rfl, sl, mk, _, _, rfl, SqL.of lsl, SqL.of lmk4, fun D hD => lc_zip (K := K) (a := sl) (b := mk) (xs := bs sb) (ys := bs bk) (n := sb.length) (by rw [bs_len, bs_len]; omega)
        (fun j H5 => Same H4 H5 ∧ LH H5 D ((xorN sb bk).take j)) ⟨same_lay hD, upd_same⟩ (fun j H5 _ ⟨h, _⟩ => ⟨SqL.of (h _ _ lsl), SqL.of (h _ _ lmk4)⟩) ?_ ?_⟩
      · rintro j x y H5 T1 hx hy ⟨s5, l5⟩ hT1
        obtain ⟨m, hm, rfl⟩ := bs_get hx
        obtain ⟨n, hn, rfl⟩ := bs_get hy
        have t3 : D ≠ T1 := ne_of_none l5 hT1
        refine ⟨T1, _, rfl, SqT.of upd_same, rfl, _, _, rfl, _, _, rfl, rfl, rfl, ?_⟩
        refine ⟨_, rfl, _, rfl, _, _, rfl, rfl, _, (by rw [upd_ne t3]; exact l5), ?_, same_new (same_new s5 (s5.free hT1)) hD, ?_⟩
        · rw [bs_len, List.length_take, PySem.sizeLine_eq, xorN_take_left (by omega)]; omega
        · show upd _ D _ D = _
          have e : (xorN sb bk)[j]? = some (m ^^^ n) := by
            simp only [xorN, List.getElem?_map]
            have z := (List.getElem?_zip_eq_some (l₁ := sb) (l₂ := bk) (z := (m, n)) (i := j)).mpr ⟨hm, hn⟩
            rw [z]; rfl
          rw [upd_same, take_succ_of e, ← bs_app]
          rfl
      · rintro H5 ⟨s5, l5⟩
        rw [List.take_of_length_le (by rw [xorN_take_left (by omega)]; exact Nat.le_refl _)] at l5
        have s35 : Same H3 H5 := s4.trans s5
        refine ⟨rs, D, _, _, rfl, rfl, s35 _ _ r3, l5, ?_, some (.int ((0 + i * 64 : Nat) : Int)), some (.ref mk), rfl, same_new (s2.trans (s3.trans s35)) hrs, ?_⟩
        · have z1 := xorN_take_left (a := sb) (b := bk) (by omega)
          have z2 := xorN_take_left (a := b.take (64 * i)) (b := coverN key once i) (by rw [coverN_len lK lN, List.length_take]; omega)
          rw [z1, z2, List.length_take]; omega
        · show upd _ rs _ rs = _
          rw [upd_same, htn]
    · rintro σ H2 ⟨v4, v5, rfl, s2, r2⟩
      rw [List.take_of_length_le (by omega)] at r2
      exact ⟨_, rfl, q rs H2 hrs s2 r2⟩
end Tw
namespace Tw
open PySem L2
open Sd16 (number little)
def sp_poly_tag (K : PySem.W.Frag) (A : Ad) : Sp := fun vs H Q _ => ∃ (ka a : Addr) (key m : List Nat), vs = [.ref ka, .ref a] ∧ LH H ka key ∧ LH H a m ∧ Byt key ∧ Byt m ∧ key.length = 32 ∧ m.length ≤ 95000 ∧ RetL H (Ql09.mark key m) Q
def sp_nonce_of (K : PySem.W.Frag) (A : Ad) : Sp := fun vs H Q _ => ∃ n : Nat, vs = [.int n] ∧ RetL H (Sd16.once n) Q
def sp_tag_of (K : PySem.W.Frag) (A : Ad) : Sp := fun vs H Q _ => ∃ (ka na ca sa : Addr) (key once c seen : List Nat), vs = [.ref ka, .ref na, .ref ca, .ref sa] ∧ LH H ka key ∧ LH H na once ∧ LH H ca c ∧ LH H sa seen ∧ Byt key ∧ Byt once ∧ Byt c ∧ Byt seen ∧
  key.length = 32 ∧ once.length = 12 ∧ c.length ≤ 90000 ∧ seen.length ≤ 1000 ∧ RetL H (Ql09.tag key once seen c) Q
def sp_seal (K : PySem.W.Frag) (A : Ad) : Sp := fun vs H Q _ => ∃ (ka pa sa : Addr) (key b seen : List Nat) (n : Nat), vs = [.ref ka, .int n, .ref pa, .ref sa] ∧ LH H ka key ∧ LH H pa b ∧ LH H sa seen ∧ Byt key ∧ Byt b ∧ Byt seen ∧
  key.length = 32 ∧ b.length ≤ 90000 ∧ seen.length ≤ 1000 ∧ RetL H (Sd16.sealed key n b seen) Q
def RetO (H : Hp) (o : Option (List Nat)) (Q : VK) : Prop := match o with
  | some l => RetL H l Q
  | none => RetV H .non Q
def sp_unseal (K : PySem.W.Frag) (A : Ad) : Sp := fun vs H Q _ => ∃ (ka pa sa : Addr) (key c seen : List Nat) (n : Nat), vs = [.ref ka, .int n, .ref pa, .ref sa] ∧ LH H ka key ∧ LH H pa c ∧ LH H sa seen ∧ Byt key ∧ Byt c ∧ Byt seen ∧
  key.length = 32 ∧ c.length ≤ 90000 ∧ seen.length ≤ 1000 ∧ RetO H (Sd16.open_ key n c seen) Q
theorem small_pow2 {n k : Nat} (h : n < 2 ^ k) (hk : k ≤ 1000) : n < 2 ^ 1000 := Nat.lt_of_lt_of_le h (Nat.pow_le_pow_right (by omega) hk)
theorem PQ_eq : Ql09.P = 1361129467683753853853498429727072845819 := by decide
theorem sc_poly_tag : FnScope ["key", "message", "factor", "total", "at", "part"] ["key", "message"] (defScope s_poly_tag) := ⟨by kernel_rfl, by kernel_rfl, by kernel_rfl, by decide +kernel, by kernel_rfl, by decide +kernel, by decide +kernel⟩
theorem ok_poly_tag {P : Program} {w : World} {K : PySem.W.Frag} {mg : Str → Option Value} {base : Heap} {A : Ad} (T : Tx K mg A) : FnOk P w K mg base CX0 2 A.f_poly_tag A.d_poly_tag ["key", "message"] (sp_poly_tag K A) := by
  have G_number_of := ok_number_of (P := P) (w := w) (base := base) T
  have G_octets_of := ok_octets_of (P := P) (w := w) (base := base) T
  have nd := sc_poly_tag.nd
  refine T.F_poly_tag.fn.ok sc_poly_tag (fun vs H Q E h => ?_) (fun cdv A' outer s H vs Q E hr h => ?_)
  · obtain ⟨ka, a, key, m, rfl, _⟩ := h
    rfl
  · obtain ⟨ka, a, key, m, rfl, hK, hM, bK, bM, lK, lM, q⟩ := h
    refine ⟨_, (pss_cons (ps_set (i := 2) nd (by rfl) (Or.inl (by rfl)) (pe_op op_andP (pe_call G_number_of (hr.mono (by decide)) (gl_of (by kernel_rfl)) T.F_number_of.mg T.F_number_of.kp T.F_number_of.bd .nil pass0 (pa_cons (pe_slice sl_listN (pv 0) po_none (po_some (pe_const (gl_of (by kernel_rfl)) T.M_PART_poly))) pa_nil)) (pe_const (gl_of (by kernel_rfl)) T.M_CLAMP)))
      (pss_cons (ps_set (i := 3) nd (by rfl) (Or.inl (by rfl)) (pe_nat 0))
      (pss_cons (ps_for PassesOwn.never rfl (pi_range3 (gl_of (by kernel_rfl)) T.N_range (pa_cons (pe_nat 0) (pa_cons (pe_callB call_lenN (gl_of (by kernel_rfl)) T.N_len PySem.boot_len (pa_cons (pv 1) pa_nil)) (pa_cons (pe_const (gl_of (by kernel_rfl)) T.M_PART_poly) pa_nil)))) (pg_name (i := 4) nd (by rfl) (Or.inl (by rfl))) (pss_cons (ps_set (i := 5) nd (by rfl) (Or.inl (by rfl)) (pe_slice sl_listN (pv 1) (po_some (pv 4)) (po_some (pe_op op_addP (pv 4) (pe_const (gl_of (by kernel_rfl)) T.M_PART_poly)))))
      (pss_one (ps_set (i := 3) nd (by rfl) (Or.inl (by rfl)) (pe_op op_modP (pe_op op_mulP (pe_op op_addP (pv 3) (pe_call G_number_of (hr.mono (by decide)) (gl_of (by kernel_rfl)) T.F_number_of.mg T.F_number_of.kp T.F_number_of.bd .nil pass0 (pa_cons (pe_op op_catN (pv 5) (pe_lstN (pa_cons (pe_nat 1) pa_nil))) pa_nil))) (pv 2)) (pe_const (gl_of (by kernel_rfl)) T.M_PRIME_poly))))))
      (pss_one (ps_ret (pe_call G_octets_of (hr.mono (by decide)) (gl_of (by kernel_rfl)) T.F_octets_of.mg T.F_octets_of.kp T.F_octets_of.bd .nil pass0 (pa_cons (pe_op op_addP (pv 3) (pe_call G_number_of (hr.mono (by decide)) (gl_of (by kernel_rfl)) T.F_number_of.mg T.F_number_of.kp T.F_number_of.bd .nil pass0 (pa_cons (pe_slice sl_listN (pv 0) (po_some (pe_const (gl_of (by kernel_rfl)) T.M_PART_poly)) po_none) pa_nil))) (pa_cons (pe_const (gl_of (by kernel_rfl)) T.M_PART_poly) pa_nil)))))))), ?_⟩
    walk_at "tw nf"
    rw [mark_eq] at q
    refine ⟨_, rfl, _, rfl, ka, key, rfl, hK, trivial, (by show (0 : Int) ≤ _; omega), fun x H1 hx s1 lx => ?_⟩
    rw [cutN_on] at lx
    refine ⟨x, _, rfl, lx, bK.take _, (by rw [List.length_take]; omega), fun H2 s2 => ⟨_, _, rfl, rfl, ?_⟩⟩
    walk_at "tw nf"
    have fl : number (key.take 16) &&& 21267647620597763993911028882763415551 < 2 ^ 128 := Nat.lt_of_le_of_lt Nat.and_le_right (by decide)
    generalize number (key.take 16) &&& 21267647620597763993911028882763415551 = fac at fl q
    have s12 := s1.trans s2
    refine seq_const ?_
    walk_at "tw nf"
    refine ⟨_, rfl, a, m, rfl, s12 _ _ hM, 0, (m.length : Int), 16, (m.length + 15) / 16, rfl, rgC_up (c := 16) (by omega) (by omega) (by omega), for_rangeCP (lo := 0) (c := 16) (n := (m.length + 15) / 16)
      (fun i σ H3 => ∃ v4 v5, σ = [some (.ref ka), some (.ref a), some (.int fac), some (.int (polyN fac m i : Nat)), v4, v5] ∧ Same H H3) ⟨none, none, rfl, s12⟩ ?_ ?_⟩
    · rintro i σ H3 hi ⟨v4, v5, rfl, s3⟩
      walk_at "tw nf"
      refine ⟨_, rfl, _, rfl, _, rfl, _, rfl, _, _, rfl, rfl, _, rfl, a, m, rfl, s3 _ _ hM, (by show (0 : Int) ≤ _; omega), (by show (0 : Int) ≤ _; omega), fun p H4 hp s4 lp => ?_⟩
      rw [cutN_nn, show 0 + i * 16 + 16 - (0 + i * 16) = 16 by omega, show 0 + i * 16 = 16 * i by omega] at lp
      walk_at "tw nf"
      have pb : Byt ((m.drop (16 * i)).take 16 ++ [1]) := ((bM.drop _).take _).app (Byt.cons (by decide) Byt.nil)
      have pl : ((m.drop (16 * i)).take 16 ++ [1]).length ≤ 17 := by rw [List.length_append, List.length_take, List.length_singleton]; omega
      have nl := number_lt pb
      have n2 : number ((m.drop (16 * i)).take 16 ++ [1]) < 2 ^ 136 := Nat.lt_of_lt_of_le nl (Nat.le_trans (Nat.pow_le_pow_right (by decide) pl) (by decide))
      have tl := polyN_lt fac m i
      have tl2 : polyN fac m i < 2 ^ 136 := Nat.lt_trans tl (by rw [PQ_eq]; decide)
      refine ⟨_, rfl, _, rfl, [1], rfl, (by decide), fun o H5 ho s5 lo => ⟨p, o, _, _, rfl, rfl, s5 _ _ lp, lo, (by rw [List.length_append] at pl; omega), fun c H6 hc s6 lc => ⟨c, _, rfl, lc, pb, (by omega), fun H7 s7 => ?_⟩⟩⟩
      refine ⟨_, _, rfl, rfl, _, rfl, _, _, rfl, rfl, ⟨small_pow2 (k := 137) (by omega) (by decide), small_pow2 fl (by decide)⟩, _, _, rfl, rfl, (by decide), ?_⟩
      refine ⟨some (.int ((0 + i * 16 : Nat) : Int)), some (.ref p), ?_, s3.trans (s4.trans (s5.trans (s6.trans s7)))⟩
      have e : polyN fac m (i + 1) = (polyN fac m i + number ((m.drop (16 * i)).take 16 ++ [1])) * fac % 1361129467683753853853498429727072845819 := by rw [← PQ_eq]; rfl
      rw [e]
      rfl
    · rintro σ H3 ⟨v4, v5, rfl, s3⟩
      refine ⟨_, rfl, _, rfl, _, rfl, ka, key, rfl, s3 _ _ hK, (by show (0 : Int) ≤ _; omega), trivial, fun x H4 hx s4 lx => ?_⟩
      rw [cutN_no] at lx
      refine ⟨x, _, rfl, lx, bK.drop _, (by rw [List.length_drop]; omega), fun H5 s5 => ⟨_, _, rfl, rfl, _, 16, rfl, (by decide), fun p H6 hp s6 lp => ?_⟩⟩
      have s35 := s3.trans (s4.trans s5)
      exact q p H6 (s35.free hp) (s35.trans s6) lp
theorem sc_nonce_of : FnScope ["count"] ["count"] (defScope s_nonce_of) := ⟨by kernel_rfl, by kernel_rfl, by kernel_rfl, by decide +kernel, by kernel_rfl, by decide +kernel, by decide +kernel⟩
theorem ok_nonce_of {P : Program} {w : World} {K : PySem.W.Frag} {mg : Str → Option Value} {base : Heap} {A : Ad} (T : Tx K mg A) : FnOk P w K mg base CX0 2 A.f_nonce_of A.d_nonce_of ["count"] (sp_nonce_of K A) := by
  have G_octets_of := ok_octets_of (P := P) (w := w) (base := base) T
  have nd := sc_nonce_of.nd
  refine T.F_nonce_of.fn.ok sc_nonce_of (fun vs H Q E h => ?_) (fun cdv A' outer s H vs Q E hr h => ?_)
  · obtain ⟨n, rfl, _⟩ := h
    rfl
  · obtain ⟨n, rfl, q⟩ := h
    refine ⟨_, (pss_one (ps_ret (pe_op op_catN (pe_call G_octets_of (hr.mono (by decide)) (gl_of (by kernel_rfl)) T.F_octets_of.mg T.F_octets_of.kp T.F_octets_of.bd .nil pass0 (pa_cons (pe_nat 0) (pa_cons (pe_nat 4) pa_nil))) (pe_call G_octets_of (hr.mono (by decide)) (gl_of (by kernel_rfl)) T.F_octets_of.mg T.F_octets_of.kp T.F_octets_of.bd .nil pass0 (pa_cons (pv 0) (pa_cons (pe_nat 8) pa_nil)))))), ?_⟩
    rw [once_eq] at q
    refine ⟨0, 4, rfl, (by decide), fun x H1 hx s1 lx => ⟨_, rfl, n, 8, rfl, (by decide), fun y H2 hy s2 ly => ⟨x, y, _, _, rfl, rfl, s2 _ _ lx, ly, (by rw [little_length, little_length]; decide), fun p H3 hp s3 lp => ?_⟩⟩⟩
    have s12 := s1.trans s2
    exact q p H3 (s12.free hp) (s12.trans s3) lp
theorem sc_tag_of : FnScope ["key", "nonce", "covered", "seen", "lengths", "message"] ["key", "nonce", "covered", "seen"] (defScope s_tag_of) := ⟨by kernel_rfl, by kernel_rfl, by kernel_rfl, by decide +kernel, by kernel_rfl, by decide +kernel, by decide +kernel⟩
theorem ok_tag_of {P : Program} {w : World} {K : PySem.W.Frag} {mg : Str → Option Value} {base : Heap} {A : Ad} (T : Tx K mg A) : FnOk P w K mg base CX0 4 A.f_tag_of A.d_tag_of ["key", "nonce", "covered", "seen"] (sp_tag_of K A) := by
  have G_octets_of := ok_octets_of (P := P) (w := w) (base := base) T
  have G_filled := ok_filled (P := P) (w := w) (base := base) T
  have G_poly_tag := ok_poly_tag (P := P) (w := w) (base := base) T
  have G_stream_block := ok_stream_block (P := P) (w := w) (base := base) T
  have nd := sc_tag_of.nd
  refine T.F_tag_of.fn.ok sc_tag_of (fun vs H Q E h => ?_) (fun cdv A' outer s H vs Q E hr h => ?_)
  · obtain ⟨ka, na, ca, sa, key, once, c, seen, rfl, _⟩ := h
    rfl
  · obtain ⟨ka, na, ca, sa, key, once, c, seen, rfl, hK, hN, hC, hS, bK, bN, bC, bS, lK, lN, lC, lS, q⟩ := h
    refine ⟨_, (pss_cons (ps_set (i := 4) nd (by rfl) (Or.inl (by rfl)) (pe_op op_catN (pe_call G_octets_of (hr.mono (by decide)) (gl_of (by kernel_rfl)) T.F_octets_of.mg T.F_octets_of.kp T.F_octets_of.bd .nil pass0 (pa_cons (pe_callB call_lenN (gl_of (by kernel_rfl)) T.N_len PySem.boot_len (pa_cons (pv 3) pa_nil)) (pa_cons (pe_nat 8) pa_nil))) (pe_call G_octets_of (hr.mono (by decide)) (gl_of (by kernel_rfl)) T.F_octets_of.mg T.F_octets_of.kp T.F_octets_of.bd .nil pass0 (pa_cons (pe_callB call_lenN (gl_of (by kernel_rfl)) T.N_len PySem.boot_len (pa_cons (pv 2) pa_nil)) (pa_cons (pe_nat 8) pa_nil)))))
      (pss_cons (ps_set (i := 5) nd (by rfl) (Or.inl (by rfl)) (pe_op op_catN (pe_op op_catN (pe_call G_filled (hr.mono (by decide)) (gl_of (by kernel_rfl)) T.F_filled.mg T.F_filled.kp T.F_filled.bd .nil pass0 (pa_cons (pv 3) (pa_cons (pe_nat 16) pa_nil))) (pe_call G_filled (hr.mono (by decide)) (gl_of (by kernel_rfl)) T.F_filled.mg T.F_filled.kp T.F_filled.bd .nil pass0 (pa_cons (pv 2) (pa_cons (pe_nat 16) pa_nil)))) (pv 4)))
      (pss_one (ps_ret (pe_call G_poly_tag (hr.mono (by decide)) (gl_of (by kernel_rfl)) T.F_poly_tag.mg T.F_poly_tag.kp T.F_poly_tag.bd .nil pass0 (pa_cons (pe_slice sl_listN (pe_call G_stream_block (hr.mono (by decide)) (gl_of (by kernel_rfl)) T.F_stream_block.mg T.F_stream_block.kp T.F_stream_block.bd .nil pass0 (pa_cons (pv 0) (pa_cons (pe_nat 0) (pa_cons (pv 1) pa_nil)))) po_none (po_some (pe_nat 32))) (pa_cons (pv 5) pa_nil))))))), ?_⟩
    walk_at "tw nf"
    refine ⟨_, rfl, sa, seen, rfl, hS, _, 8, rfl, (by decide), fun x H1 hx s1 lx => ⟨_, rfl, ca, c, rfl, s1 _ _ hC, _, 8, rfl, (by decide), fun y H2 hy s2 ly => ⟨x, y, _, _, rfl, rfl, s2 _ _ lx, ly, (by rw [little_length, little_length]; decide), fun ln H3 hln s3 lln => ?_⟩⟩⟩
    walk_at "tw nf"
    have s13 : Same H H3 := s1.trans (s2.trans s3)
    refine ⟨_, rfl, sa, seen, 16, rfl, s13 _ _ hS, (by omega), (by decide), (by decide), fun f1 H4 hf1 s4 lf1 => ⟨_, rfl, ca, c, 16, rfl, s4 _ _ (s13 _ _ hC), (by omega), (by decide), (by decide), fun f2 H5 hf2 s5 lf2 => ?_⟩⟩
    have p1 : (seen ++ List.replicate ((16 - seen.length % 16) % 16) 0).length ≤ 1016 := by rw [List.length_append, List.length_replicate]; omega
    have p2 : (c ++ List.replicate ((16 - c.length % 16) % 16) 0).length ≤ 90016 := by rw [List.length_append, List.length_replicate]; omega
    refine ⟨f1, f2, _, _, rfl, rfl, s5 _ _ lf1, lf2, (by omega), fun x1 H6 hx1 s6 lx1 => ⟨_, rfl, x1, ln, _, _, rfl, rfl, lx1, s6 _ _ (s5 _ _ (s4 _ _ lln)), (by simp only [List.length_append, little_length, List.length_replicate] at p1 p2 ⊢; omega), fun ms H7 hms s7 lms => ?_⟩⟩
    walk_at "tw nf"
    have s37 : Same H3 H7 := s4.trans (s5.trans (s6.trans s7))
    have s17 := s13.trans s37
    refine ⟨_, rfl, _, rfl, ka, na, key, once, 0, rfl, s17 _ _ hK, s17 _ _ hN, bK, bN, lK, lN, (by decide), fun sb H8 hsb s8 lsb => ⟨_, rfl, sb, _, rfl, lsb, trivial, (by show (0 : Int) ≤ _; omega), fun pk H9 hpk s9 lpk => ?_⟩⟩
    rw [cutN_on] at lpk
    refine ⟨_, rfl, pk, ms, _, _, rfl, lpk, s9 _ _ (s8 _ _ lms), (blockN_byt _ _ _).take _, ?_, ?_, ?_, fun p H10 hp s10 lp => ?_⟩
    · exact ((bS.app (Byt.rep _ (by decide))).app (bC.app (Byt.rep _ (by decide)))).app ((little_byt _ _).app (little_byt _ _))
    · rw [List.length_take, blockN_len lK lN]; decide
    · simp only [List.length_append, little_length, List.length_replicate] at p1 p2 ⊢; omega
    · have s19 := s17.trans (s8.trans s9)
      have e : Ql09.tag key once seen c = Ql09.mark ((blockN key once 0).take 32) ((seen ++ List.replicate ((16 - seen.length % 16) % 16) 0) ++ (c ++ List.replicate ((16 - c.length % 16) % 16) 0) ++ (little 8 seen.length ++ little 8 c.length)) := by
        unfold Ql09.tag
        rw [block_eq bK bN (by omega) (by omega) (by decide), List.append_assoc]
        rfl
      rw [e] at q
      exact q p H10 (s19.free hp) (s19.trans s10) lp
theorem sc_seal : FnScope ["key", "count", "plain", "seen", "nonce", "covered"] ["key", "count", "plain", "seen"] (defScope s_seal) := ⟨by kernel_rfl, by kernel_rfl, by kernel_rfl, by decide +kernel, by kernel_rfl, by decide +kernel, by decide +kernel⟩
theorem ok_seal {P : Program} {w : World} {K : PySem.W.Frag} {mg : Str → Option Value} {base : Heap} {A : Ad} (T : Tx K mg A) : FnOk P w K mg base CX0 5 A.f_seal A.d_seal ["key", "count", "plain", "seen"] (sp_seal K A) := by
  have G_nonce_of := ok_nonce_of (P := P) (w := w) (base := base) T
  have G_crypted := ok_crypted (P := P) (w := w) (base := base) T
  have G_tag_of := ok_tag_of (P := P) (w := w) (base := base) T
  have nd := sc_seal.nd
  refine T.F_seal.fn.ok sc_seal (fun vs H Q E h => ?_) (fun cdv A' outer s H vs Q E hr h => ?_)
  · obtain ⟨ka, pa, sa, key, b, seen, n, rfl, _⟩ := h
    rfl
  · obtain ⟨ka, pa, sa, key, b, seen, n, rfl, hK, hP, hS, bK, bP, bS, lK, lP, lS, q⟩ := h
    refine ⟨_, (pss_cons (ps_set (i := 4) nd (by rfl) (Or.inl (by rfl)) (pe_call G_nonce_of (hr.mono (by decide)) (gl_of (by kernel_rfl)) T.F_nonce_of.mg T.F_nonce_of.kp T.F_nonce_of.bd .nil pass0 (pa_cons (pv 1) pa_nil)))
      (pss_cons (ps_set (i := 5) nd (by rfl) (Or.inl (by rfl)) (pe_call G_crypted (hr.mono (by decide)) (gl_of (by kernel_rfl)) T.F_crypted.mg T.F_crypted.kp T.F_crypted.bd .nil pass0 (pa_cons (pv 0) (pa_cons (pv 4) (pa_cons (pv 2) pa_nil)))))
      (pss_one (ps_ret (pe_op op_catN (pv 5) (pe_call G_tag_of (hr.mono (by decide)) (gl_of (by kernel_rfl)) T.F_tag_of.mg T.F_tag_of.kp T.F_tag_of.bd .nil pass0 (pa_cons (pv 0) (pa_cons (pv 4) (pa_cons (pv 5) (pa_cons (pv 3) pa_nil)))))))))), ?_⟩
    walk_at "tw nf"
    refine ⟨_, rfl, n, rfl, fun no H1 hno s1 lno => ?_⟩
    walk_at "tw nf"
    have ol := once_len n
    have ob := once_byt n
    have e : Sd16.sealed key n b seen = Ql09.stream key (Sd16.once n) 1 b ++ Ql09.tag key (Sd16.once n) seen (Ql09.stream key (Sd16.once n) 1 b) := rfl
    rw [e] at q
    have sl := stream_len bK ob lK ol (show b.length < 2 ^ 32 by omega)
    have sb := stream_byt bK ob lK ol (show b.length < 2 ^ 32 by omega) bP
    generalize Sd16.once n = once at lno ol ob q sl sb
    refine ⟨_, rfl, _, rfl, _, rfl, ka, no, pa, key, once, b, rfl, s1 _ _ hK, lno, s1 _ _ hP, bK, ob, lK, ol, lP, fun cv H2 hcv s2 lcv => ?_⟩
    walk_at "tw nf"
    generalize Ql09.stream key once 1 b = st at lcv q sl sb
    have s12 := s1.trans s2
    refine ⟨_, rfl, _, rfl, _, rfl, _, rfl, _, rfl, ka, no, cv, sa, key, once, st, seen, rfl, s12 _ _ hK, s2 _ _ lno, lcv, s12 _ _ hS, bK, ob, sb, bS, lK, ol, (by omega), lS, fun tg H3 htg s3 ltg => ⟨cv, tg, _, _, rfl, rfl, s3 _ _ lcv, ltg, (by rw [tag_len]; omega), fun p H4 hp s4 lp => ?_⟩⟩
    have s13 := s12.trans s3
    exact q p H4 (s13.free hp) (s13.trans s4) lp
theorem sc_unseal : FnScope ["key", "count", "sealed", "seen", "nonce", "border", "covered"] ["key", "count", "sealed", "seen"] (defScope s_unseal) := ⟨by kernel_rfl, by kernel_rfl, by kernel_rfl, by decide +kernel, by kernel_rfl, by decide +kernel, by decide +kernel⟩
theorem ok_unseal {P : Program} {w : World} {K : PySem.W.Frag} {mg : Str → Option Value} {base : Heap} {A : Ad} (T : Tx K mg A) : FnOk P w K mg base CX0 5 A.f_unseal A.d_unseal ["key", "count", "sealed", "seen"] (sp_unseal K A) := by
  have G_nonce_of := ok_nonce_of (P := P) (w := w) (base := base) T
  have G_tag_of := ok_tag_of (P := P) (w := w) (base := base) T
  have G_crypted := ok_crypted (P := P) (w := w) (base := base) T
  have nd := sc_unseal.nd
  refine T.F_unseal.fn.ok sc_unseal (fun vs H Q E h => ?_) (fun cdv A' outer s H vs Q E hr h => ?_)
  · obtain ⟨ka, pa, sa, key, b, seen, n, rfl, _⟩ := h
    rfl
  · obtain ⟨ka, pa, sa, key, c, seen, n, rfl, hK, hP, hS, bK, bP, bS, lK, lP, lS, q⟩ := h
    refine ⟨_, (pss_cons (ps_if (pt_cmpR op_ltP (pe_callB call_lenN (gl_of (by kernel_rfl)) T.N_len PySem.boot_len (pa_cons (pv 2) pa_nil)) (pe_const (gl_of (by kernel_rfl)) T.M_TAG) (nomark _)) (pss_one (ps_ret pe_non)) pss_nil)
      (pss_cons (ps_set (i := 4) nd (by rfl) (Or.inl (by rfl)) (pe_call G_nonce_of (hr.mono (by decide)) (gl_of (by kernel_rfl)) T.F_nonce_of.mg T.F_nonce_of.kp T.F_nonce_of.bd .nil pass0 (pa_cons (pv 1) pa_nil)))
      (pss_cons (ps_set (i := 5) nd (by rfl) (Or.inl (by rfl)) (pe_op op_subP (pe_callB call_lenN (gl_of (by kernel_rfl)) T.N_len PySem.boot_len (pa_cons (pv 2) pa_nil)) (pe_const (gl_of (by kernel_rfl)) T.M_TAG)))
      (pss_cons (ps_set (i := 6) nd (by rfl) (Or.inl (by rfl)) (pe_slice sl_listN (pv 2) po_none (po_some (pv 5))))
      (pss_cons (ps_if (pt_cmpR (op_neN (un_of hr)) (pe_slice sl_listN (pv 2) (po_some (pv 5)) po_none) (pe_call G_tag_of (hr.mono (by decide)) (gl_of (by kernel_rfl)) T.F_tag_of.mg T.F_tag_of.kp T.F_tag_of.bd .nil pass0 (pa_cons (pv 0) (pa_cons (pv 4) (pa_cons (pv 6) (pa_cons (pv 3) pa_nil))))) (nomark _)) (pss_one (ps_ret pe_non)) pss_nil)
      (pss_one (ps_ret (pe_call G_crypted (hr.mono (by decide)) (gl_of (by kernel_rfl)) T.F_crypted.mg T.F_crypted.kp T.F_crypted.bd .nil pass0 (pa_cons (pv 0) (pa_cons (pv 4) (pa_cons (pv 6) pa_nil))))))))))), ?_⟩
    walk_at "tw nf"
    refine ⟨_, rfl, pa, c, rfl, hP, _, _, rfl, rfl, _, rfl, ?_⟩
    unfold Sd16.open_ Ql09.open_ at q
    by_cases hc : c.length < 16
    · rw [if_pos hc] at q
      rw [decide_eq_true hc]
      exact iteT (q _ (Same.refl _))
    · rw [if_neg hc] at q
      rw [decide_eq_false hc]
      refine iteF ?_
      refine ⟨_, rfl, n, rfl, fun no H1 hno s1 lno => ?_⟩
      walk_at "tw nf"
      have ol := once_len n
      have ob := once_byt n
      generalize Sd16.once n = once at lno ol ob q
      refine ⟨_, rfl, pa, c, rfl, s1 _ _ hP, _, _, rfl, rfl, (by omega), ?_⟩
      walk_at "tw nf"
      refine ⟨_, rfl, _, rfl, _, rfl, pa, c, rfl, s1 _ _ hP, trivial, (by show (0 : Int) ≤ _; omega), fun cv H2 hcv s2 lcv => ?_⟩
      rw [cutN_on] at lcv
      walk_at "tw nf"
      have s12 := s1.trans s2
      have cl : (c.take (c.length - 16)).length ≤ 90000 := by rw [List.length_take]; omega
      have cb := bP.take (c.length - 16)
      refine ⟨_, rfl, _, rfl, _, rfl, pa, c, rfl, s12 _ _ hP, (by show (0 : Int) ≤ _; omega), trivial, fun tl H3 htl s3 ltl => ?_⟩
      rw [cutN_no] at ltl
      have s13 := s12.trans s3
      generalize c.take (c.length - 16) = cc at q lcv cl cb
      refine ⟨_, rfl, _, rfl, _, rfl, _, rfl, ka, no, cv, sa, key, once, cc, seen, rfl, s13 _ _ hK, s3 _ _ (s2 _ _ lno), s3 _ _ lcv, s13 _ _ hS, bK, ob, cb, bS, lK, ol, cl, lS, fun tg H4 htg s4 ltg => .inl ⟨tl, tg, _, _, rfl, rfl, s4 _ _ ltl, ltg, _, rfl, ?_⟩⟩
      have s14 := s13.trans s4
      by_cases ht : c.drop (c.length - 16) = Ql09.tag key once seen cc
      · rw [if_pos ht.symm] at q
        rw [decide_eq_true ht]
        refine iteF ?_
        exact ⟨_, rfl, _, rfl, _, rfl, ka, no, cv, key, once, cc, rfl, s14 _ _ hK, s4 _ _ (s3 _ _ (s2 _ _ lno)), s4 _ _ (s3 _ _ lcv), bK, ob, lK, ol, cl, fun p H5 hp s5 lp => q p H5 (s14.free hp) (s14.trans s5) lp⟩
      · rw [if_neg fun e => ht e.symm] at q
        rw [decide_eq_false ht]
        exact iteT (q _ s14)
end Tw
namespace Tw
open PySem L2
open Sd16 (number little)
open Sz09 (Pair ladder)
def sp_inverse (K : PySem.W.Frag) (A : Ad) : Sp := fun vs H Q _ => ∃ v : Nat, vs = [.int v] ∧ v < Sz09.P ∧ RetV H (.int (Sz09.inv v : Nat)) Q
def sp_scalar_of (K : PySem.W.Frag) (A : Ad) : Sp := fun vs H Q _ => ∃ (a : Addr) (l : List Nat), vs = [.ref a] ∧ LH H a l ∧ Byt l ∧ l.length = 32 ∧ RetV H (.int (scalarN l : Nat)) Q
def sp_multiplied (K : PySem.W.Frag) (A : Ad) : Sp := fun vs H Q _ => ∃ n u : Nat, vs = [.int n, .int u] ∧ u < Sz09.P ∧ n % 2 = 0 ∧ RetV H (.int (mulN n u : Nat)) Q
def sp_agreed (K : PySem.W.Frag) (A : Ad) : Sp := fun vs H Q _ => ∃ (a b : Addr) (k u : List Nat), vs = [.ref a, .ref b] ∧ LH H a k ∧ LH H b u ∧ Byt k ∧ Byt u ∧ k.length = 32 ∧ u.length = 32 ∧ RetL H (Sd16.agree k u) Q
def sp_public (K : PySem.W.Frag) (A : Ad) : Sp := fun vs H Q _ => ∃ (a : Addr) (k : List Nat), vs = [.ref a] ∧ LH H a k ∧ Byt k ∧ k.length = 32 ∧ RetL H (Sd16.publicOf k) Q
def sp_worth_nothing (K : PySem.W.Frag) (A : Ad) : Sp := fun vs H Q _ => ∃ (a : Addr) (l : List Nat), vs = [.ref a] ∧ LH H a l ∧ l.length ≤ 1000 ∧ RetV H (.bl (Sd16.nothing l)) Q
theorem P_lt : Sz09.P < 2 ^ 256 := by rw [P_eq]; decide
theorem inv_lt (v : Nat) (h : v < Sz09.P) : Sz09.inv v < Sz09.P := by rw [inv_eq v h]; exact Nat.mod_lt _ P_pos
theorem sc_inverse : FnScope ["value", "power", "place"] ["value"] (defScope s_inverse) := ⟨by kernel_rfl, by kernel_rfl, by kernel_rfl, by decide +kernel, by kernel_rfl, by decide +kernel, by decide +kernel⟩
theorem ok_inverse {P : Program} {w : World} {K : PySem.W.Frag} {mg : Str → Option Value} {base : Heap} {A : Ad} (T : Tx K mg A) : FnOk P w K mg base CX0 1 A.f_inverse A.d_inverse ["value"] (sp_inverse K A) := by
  have nd := sc_inverse.nd
  refine T.F_inverse.fn.ok sc_inverse (fun vs H Q E h => ?_) (fun cdv A' outer s H vs Q E hr h => ?_)
  · obtain ⟨v, rfl, _⟩ := h
    rfl
  · obtain ⟨v, rfl, hv, q⟩ := h
    refine ⟨_, (pss_cons (ps_set (i := 1) nd (by rfl) (Or.inl (by rfl)) (pe_nat 1))
      (pss_cons (ps_for PassesOwn.never rfl (pi_range3 (gl_of (by kernel_rfl)) T.N_range (pa_cons (pe_nat 254) (pa_cons (pe_un un_neg pe_int) (pa_cons (pe_un un_neg pe_int) pa_nil)))) (pg_name (i := 2) nd (by rfl) (Or.inl (by rfl))) (pss_cons (ps_set (i := 1) nd (by rfl) (Or.inl (by rfl)) (pe_op op_modP (pe_op op_mulP (pv 1) (pv 1)) (pe_const (gl_of (by kernel_rfl)) T.M_PRIME_curve)))
      (pss_one (ps_if (pt_cmpR op_eqP (pe_op op_andP (pe_op op_shrP (pe_op op_subP (pe_const (gl_of (by kernel_rfl)) T.M_PRIME_curve) (pe_nat 2)) (pv 2)) (pe_nat 1)) (pe_nat 1) (nomark _)) (pss_one (ps_set (i := 1) nd (by rfl) (Or.inl (by rfl)) (pe_op op_modP (pe_op op_mulP (pv 1) (pv 0)) (pe_const (gl_of (by kernel_rfl)) T.M_PRIME_curve)))) pss_nil))))
      (pss_one (ps_ret (pv 1))))), ?_⟩
    walk_at "tw nf"
    rw [← P_eq]
    rw [inv_eq v hv] at q
    have hE : (Sz09.P - 2) / 2 ^ 255 = 0 := by rw [P_eq]
    have h2 : 2 ≤ Sz09.P := by rw [P_eq]; decide
    refine seq_const ?_
    walk_at "tw nf"
    refine ⟨_, rfl, _, rfl, 254, -1, -1, 255, rfl, RgC.neg (by decide) (by decide) (by decide) (by decide), for_rangeC (lo := 254) (c := -1) (n := 255)
      (fun i σ H2 => i ≤ 255 ∧ ∃ v2, σ = [some (.int v), some (.int (v ^ ((Sz09.P - 2) / 2 ^ (255 - i)) % Sz09.P : Nat)), v2] ∧ Same H H2) ⟨by omega, none, ?_, Same.refl _⟩ ?_ ?_⟩
    · rw [Nat.sub_zero, hE, Nat.pow_zero, Nat.mod_eq_of_lt one_lt]
    · rintro i σ H2 hi ⟨_, v2, rfl, s2⟩
      have e : (254 + ((i : Nat) : Int) * -1) = ((254 - i : Nat) : Int) := by omega
      rw [e]
      walk_at "tw nf"
      have hp : v ^ ((Sz09.P - 2) / 2 ^ (255 - i)) % Sz09.P < 2 ^ 256 := Nat.lt_trans (Nat.mod_lt _ P_pos) P_lt
      have ht := inv_turn (v := v) (e := Sz09.P - 2) (k := 254 - i)
      rw [show 254 - i + 1 = 255 - i by omega] at ht
      generalize v ^ ((Sz09.P - 2) / 2 ^ (255 - i)) % Sz09.P = pw at hp ht
      refine ⟨_, rfl, _, rfl, _, _, rfl, rfl, ⟨small_pow2 hp (by decide), small_pow2 hp (by decide)⟩, _, _, rfl, rfl, P_pos, ?_⟩
      walk_at "tw nf"
      refine ⟨_, _, rfl, rfl, h2, _, rfl, _, _, rfl, rfl, _, _, rfl, rfl, _, _, rfl, rfl, _, rfl, ?_⟩
      rw [Nat.and_one_is_mod]
      by_cases hb : (Sz09.P - 2) / 2 ^ (254 - i) % 2 = 1
      · rw [if_pos hb] at ht
        rw [decide_eq_true hb]
        refine iteT ⟨_, rfl, _, rfl, _, _, rfl, rfl, ⟨small_pow2 (Nat.lt_trans (Nat.mod_lt _ P_pos) P_lt) (by decide), small_pow2 (Nat.lt_trans hv P_lt) (by decide)⟩, _, _, rfl, rfl, P_pos, ?_⟩
        refine ⟨by omega, some (.int ((254 - i : Nat) : Int)), ?_, s2⟩
        rw [ht, show 255 - (i + 1) = 254 - i by omega]
        rfl
      · rw [if_neg hb] at ht
        rw [decide_eq_false hb]
        refine iteF ⟨by omega, some (.int ((254 - i : Nat) : Int)), ?_, s2⟩
        rw [ht, show 255 - (i + 1) = 254 - i by omega]
    · rintro σ H2 ⟨_, v2, rfl, s2⟩
      refine ⟨_, rfl, ?_⟩
      rw [Nat.sub_self, Nat.pow_zero, Nat.div_one]
      exact q _ s2
theorem sc_scalar_of : FnScope ["secret", "number"] ["secret"] (defScope s_scalar_of) := ⟨by kernel_rfl, by kernel_rfl, by kernel_rfl, by decide +kernel, by kernel_rfl, by decide +kernel, by decide +kernel⟩
theorem ok_scalar_of {P : Program} {w : World} {K : PySem.W.Frag} {mg : Str → Option Value} {base : Heap} {A : Ad} (T : Tx K mg A) : FnOk P w K mg base CX0 2 A.f_scalar_of A.d_scalar_of ["secret"] (sp_scalar_of K A) := by
  have G_number_of := ok_number_of (P := P) (w := w) (base := base) T
  have nd := sc_scalar_of.nd
  refine T.F_scalar_of.fn.ok sc_scalar_of (fun vs H Q E h => ?_) (fun cdv A' outer s H vs Q E hr h => ?_)
  · obtain ⟨a, l, rfl, _⟩ := h
    rfl
  · obtain ⟨a, l, rfl, hL, bL, lL, q⟩ := h
    refine ⟨_, (pss_cons (ps_set (i := 1) nd (by rfl) (Or.inl (by rfl)) (pe_op op_andP (pe_call G_number_of (hr.mono (by decide)) (gl_of (by kernel_rfl)) T.F_number_of.mg T.F_number_of.kp T.F_number_of.bd .nil pass0 (pa_cons (pv 0) pa_nil)) (pe_const (gl_of (by kernel_rfl)) T.M_BELOW_TOP_BIT)))
      (pss_one (ps_ret (pe_op op_orP (pe_op op_subP (pv 1) (pe_op op_modP (pv 1) (pe_nat 8))) (pe_const (gl_of (by kernel_rfl)) T.M_TOP_SCALAR_BIT))))), ?_⟩
    walk_at "tw nf"
    refine ⟨_, rfl, a, l, rfl, hL, bL, (by omega), fun H1 s1 => ⟨_, _, rfl, rfl, ?_⟩⟩
    walk_at "tw nf"
    have e1 : number l &&& 57896044618658097711785492504343953926634992332820282019728792003956564819967 = number l % 2 ^ 255 := Nat.and_two_pow_sub_one_eq_mod (number l) 255
    rw [e1]
    have hm : number l % 2 ^ 255 < 2 ^ 255 := Nat.mod_lt _ (Nat.two_pow_pos _)
    refine ⟨_, rfl, _, rfl, _, _, rfl, rfl, (by decide), _, _, rfl, rfl, Nat.mod_le _ _, _, _, rfl, rfl, ?_⟩
    have e2 := scalar_or hm
    have e3 : (28948022309329048855892746252171976963317496166410141009864396001978282409984 : Nat) = 2 ^ 254 := by decide
    rw [e3, e2]
    exact q _ s1
theorem nab {x : Int} (h1 : -(2 ^ 300) < x) (h2 : x < 2 ^ 300) : x.natAbs < 2 ^ 1000 := small_pow2 (k := 300) (by omega) (by decide)
theorem PZ_lt : PZ < 2 ^ 256 := by decide
theorem md0 (x : Int) : 0 ≤ x % PZ ∧ x % PZ < PZ := ⟨Int.emod_nonneg _ (by decide), Int.emod_lt_of_pos _ (by decide)⟩
theorem sc_multiplied : FnScope ["scalar", "u", "x2", "z2", "x3", "z3", "swapped", "place", "bit", "a", "b", "da", "cb", "aa", "bb", "e", "x", "z"] ["scalar", "u"] (defScope s_multiplied) := ⟨by kernel_rfl, by kernel_rfl, by kernel_rfl, by decide +kernel, by kernel_rfl, by decide +kernel, by decide +kernel⟩
theorem ok_multiplied {P : Program} {w : World} {K : PySem.W.Frag} {mg : Str → Option Value} {base : Heap} {A : Ad} (T : Tx K mg A) : FnOk P w K mg base CX0 2 A.f_multiplied A.d_multiplied ["scalar", "u"] (sp_multiplied K A) := by
  have G_inverse := ok_inverse (P := P) (w := w) (base := base) T
  have nd := sc_multiplied.nd
  refine T.F_multiplied.fn.ok sc_multiplied (fun vs H Q E h => ?_) (fun cdv A' outer s H vs Q E hr h => ?_)
  · obtain ⟨n, u, rfl, _⟩ := h
    rfl
  · obtain ⟨n, u, rfl, hu, hn, q⟩ := h
    refine ⟨_, (pss_cons (ps_set (i := 2) nd (by rfl) (Or.inl (by rfl)) pe_int)
      (pss_cons (ps_set (i := 3) nd (by rfl) (Or.inl (by rfl)) pe_int)
      (pss_cons (ps_set (i := 4) nd (by rfl) (Or.inl (by rfl)) (pv 1))
      (pss_cons (ps_set (i := 5) nd (by rfl) (Or.inl (by rfl)) pe_int)
      (pss_cons (ps_set (i := 6) nd (by rfl) (Or.inl (by rfl)) pe_int)
      (pss_cons (ps_for PassesOwn.never rfl (pi_range3 (gl_of (by kernel_rfl)) T.N_range (pa_cons pe_int (pa_cons (pe_un un_neg pe_int) (pa_cons (pe_un un_neg pe_int) pa_nil)))) (pg_name (i := 7) nd (by rfl) (Or.inl (by rfl))) (pss_cons (ps_set (i := 8) nd (by rfl) (Or.inl (by rfl)) (pe_op op_and (pe_op op_shr (pv 0) (pv 7)) pe_int))
      (pss_cons (ps_if (pt_cmpR op_ne (pv 8) (pv 6) (nomark _)) (pss_cons (ps_set (i := 16) nd (by rfl) (Or.inl (by rfl)) (pv 2))
      (pss_cons (ps_set (i := 2) nd (by rfl) (Or.inl (by rfl)) (pv 4))
      (pss_cons (ps_set (i := 4) nd (by rfl) (Or.inl (by rfl)) (pv 16))
      (pss_cons (ps_set (i := 17) nd (by rfl) (Or.inl (by rfl)) (pv 3))
      (pss_cons (ps_set (i := 3) nd (by rfl) (Or.inl (by rfl)) (pv 5))
      (pss_one (ps_set (i := 5) nd (by rfl) (Or.inl (by rfl)) (pv 17)))))))) pss_nil)
      (pss_cons (ps_set (i := 6) nd (by rfl) (Or.inl (by rfl)) (pv 8))
      (pss_cons (ps_set (i := 9) nd (by rfl) (Or.inl (by rfl)) (pe_op op_add (pv 2) (pv 3)))
      (pss_cons (ps_set (i := 10) nd (by rfl) (Or.inl (by rfl)) (pe_op op_sub (pv 2) (pv 3)))
      (pss_cons (ps_set (i := 11) nd (by rfl) (Or.inl (by rfl)) (pe_op op_mod (pe_op op_mulB (pe_op op_sub (pv 4) (pv 5)) (pv 9)) (pe_const (gl_of (by kernel_rfl)) T.M_PRIME_curve)))
      (pss_cons (ps_set (i := 12) nd (by rfl) (Or.inl (by rfl)) (pe_op op_mod (pe_op op_mulB (pe_op op_add (pv 4) (pv 5)) (pv 10)) (pe_const (gl_of (by kernel_rfl)) T.M_PRIME_curve)))
      (pss_cons (ps_set (i := 13) nd (by rfl) (Or.inl (by rfl)) (pe_op op_mod (pe_op op_mulB (pv 9) (pv 9)) (pe_const (gl_of (by kernel_rfl)) T.M_PRIME_curve)))
      (pss_cons (ps_set (i := 14) nd (by rfl) (Or.inl (by rfl)) (pe_op op_mod (pe_op op_mulB (pv 10) (pv 10)) (pe_const (gl_of (by kernel_rfl)) T.M_PRIME_curve)))
      (pss_cons (ps_set (i := 15) nd (by rfl) (Or.inl (by rfl)) (pe_op op_sub (pv 13) (pv 14)))
      (pss_cons (ps_set (i := 4) nd (by rfl) (Or.inl (by rfl)) (pe_op op_mod (pe_op op_mulB (pe_op op_add (pv 11) (pv 12)) (pe_op op_add (pv 11) (pv 12))) (pe_const (gl_of (by kernel_rfl)) T.M_PRIME_curve)))
      (pss_cons (ps_set (i := 5) nd (by rfl) (Or.inl (by rfl)) (pe_op op_mod (pe_op op_mulB (pv 1) (pe_op op_mod (pe_op op_mulB (pe_op op_sub (pv 11) (pv 12)) (pe_op op_sub (pv 11) (pv 12))) (pe_const (gl_of (by kernel_rfl)) T.M_PRIME_curve))) (pe_const (gl_of (by kernel_rfl)) T.M_PRIME_curve)))
      (pss_cons (ps_set (i := 2) nd (by rfl) (Or.inl (by rfl)) (pe_op op_mod (pe_op op_mulB (pv 13) (pv 14)) (pe_const (gl_of (by kernel_rfl)) T.M_PRIME_curve)))
      (pss_one (ps_set (i := 3) nd (by rfl) (Or.inl (by rfl)) (pe_op op_mod (pe_op op_mulB (pv 15) (pe_op op_add (pv 13) (pe_op op_mulB (pe_const (gl_of (by kernel_rfl)) T.M_CURVE_NUMBER) (pv 15)))) (pe_const (gl_of (by kernel_rfl)) T.M_PRIME_curve))))))))))))))))))
      (pss_one (ps_ret (pe_op op_mod (pe_op op_mulB (pv 2) (pe_call G_inverse (hr.mono (by decide)) (gl_of (by kernel_rfl)) T.F_inverse.mg T.F_inverse.kp T.F_inverse.bd .nil pass0 (pa_cons (pv 3) pa_nil))) (pe_const (gl_of (by kernel_rfl)) T.M_PRIME_curve)))))))))), ?_⟩
    walk_at "tw nf"
    have ePZ : ((57896044618658097711785492504343953926634992332820282019728792003956564819949 : Nat) : Int) = PZ := rfl
    have eC : ((121665 : Nat) : Int) = 121665 := rfl
    rw [ePZ, eC]
    refine seq_const ?_
    walk_at "tw nf"
    refine seq_const ?_
    walk_at "tw nf"
    refine ⟨_, rfl, ?_⟩
    walk_at "tw nf"
    refine seq_const ?_
    walk_at "tw nf"
    refine seq_const ?_
    walk_at "tw nf"
    have hP0 : (0 : Int) < PZ := by decide
    have hPP : PZ < 2 ^ 256 := PZ_lt
    have cst : ∀ {x : Nat}, x < Sz09.P → (x : Int) < PZ := fun {x} h => by rw [← PZ_eq]; omega
    refine ⟨_, rfl, _, rfl, 254, -1, -1, 255, rfl, RgC.neg (by decide) (by decide) (by decide) (by decide), for_rangeC (lo := 254) (c := -1) (n := 255)
      (fun i σ H2 => ∃ (sw : Nat) (c : Pair) (v7 v8 v9 v10 v11 v12 v13 v14 v15 v16 v17 : Option V), σ = [some (.int n), some (.int u), some (.int c.a), some (.int c.b), some (.int c.c), some (.int c.d), some (.int sw), v7, v8, v9, v10, v11, v12, v13, v14, v15, v16, v17] ∧ LadInv u n i sw c ∧ Same H H2)
      ⟨0, ⟨1, 0, u, 1⟩, none, none, none, none, none, none, none, none, none, none, none, rfl, LadInv.start hu, Same.refl _⟩ ?_ ?_⟩
    · rintro i σ H2 hi ⟨sw, c, v7, v8, v9, v10, v11, v12, v13, v14, v15, v16, v17, rfl, I, s2⟩
      have e : (254 + ((i : Nat) : Int) * -1) = ((254 - i : Nat) : Int) := by omega
      rw [e]
      walk_at "tw nf"
      have I2 := I.turn hi
      refine ⟨_, rfl, _, rfl, _, _, rfl, rfl, Int.natCast_nonneg _, _, _, rfl, rfl, ?_⟩
      walk_at "tw nf"
      rw [shr_nn, and_1]
      generalize hbit : n / 2 ^ (254 - i) % 2 = bit at I2
      have lt := I.lt
      refine seq_cut (fun σ' H' => ∃ (v16 v17 : Option V), σ' = [some (.int n), some (.int u), some (.int (curB bit sw c).a), some (.int (curB bit sw c).b), some (.int (curB bit sw c).c), some (.int (curB bit sw c).d), some (.int sw), some (.int ((254 - i : Nat) : Int)), some (.int bit), v9, v10, v11, v12, v13, v14, v15, v16, v17] ∧ H' = H2) ?_ (fun R => ?_)
      · rintro σ H3 ⟨v16, v17, rfl, rfl⟩
        have lb : PairLt (curB bit sw c) := by
          unfold curB
          split
          · exact ⟨lt.2.2.1, lt.2.2.2, lt.1, lt.2.1⟩
          · exact lt
        have st := step_eq u (curB bit sw c)
        generalize curB bit sw c = d at lb st I2
        obtain ⟨a, b, c', d'⟩ := d
        obtain ⟨la, lb', lc, ld⟩ := lb
        have za := cst la
        have zb := cst lb'
        have zc := cst lc
        have zd := cst ld
        have zu := cst hu
        simp only at za zb zc zd
        walk_at "tw nf"
        refine ⟨_, rfl, ?_⟩
        walk_at "tw nf"
        refine ⟨_, rfl, _, rfl, _, _, rfl, rfl, ?_⟩
        walk_at "tw nf"
        refine ⟨_, rfl, _, rfl, _, _, rfl, rfl, ?_⟩
        walk_at "tw nf"
        refine ⟨_, rfl, _, rfl, _, _, rfl, rfl, _, rfl, _, _, rfl, rfl, ⟨nab (by omega) (by omega), nab (by omega) (by omega)⟩, _, _, rfl, rfl, hP0, ?_⟩
        walk_at "tw nf"
        refine ⟨_, rfl, _, rfl, _, _, rfl, rfl, _, rfl, _, _, rfl, rfl, ⟨nab (by omega) (by omega), nab (by omega) (by omega)⟩, _, _, rfl, rfl, hP0, ?_⟩
        walk_at "tw nf"
        refine ⟨_, rfl, _, rfl, _, _, rfl, rfl, ⟨nab (by omega) (by omega), nab (by omega) (by omega)⟩, _, _, rfl, rfl, hP0, ?_⟩
        walk_at "tw nf"
        refine ⟨_, rfl, _, rfl, _, _, rfl, rfl, ⟨nab (by omega) (by omega), nab (by omega) (by omega)⟩, _, _, rfl, rfl, hP0, ?_⟩
        walk_at "tw nf"
        simp only [quadOf, stepZ] at st
        obtain ⟨m1, m2⟩ := md0 (((c' : Int) - (d' : Int)) * ((a : Int) + (b : Int)))
        obtain ⟨m3, m4⟩ := md0 (((c' : Int) + (d' : Int)) * ((a : Int) - (b : Int)))
        obtain ⟨m5, m6⟩ := md0 (((a : Int) + (b : Int)) * ((a : Int) + (b : Int)))
        obtain ⟨m7, m8⟩ := md0 (((a : Int) - (b : Int)) * ((a : Int) - (b : Int)))
        generalize ((c' : Int) - (d' : Int)) * ((a : Int) + (b : Int)) % PZ = da at m1 m2 st
        generalize ((c' : Int) + (d' : Int)) * ((a : Int) - (b : Int)) % PZ = cb at m3 m4 st
        generalize ((a : Int) + (b : Int)) * ((a : Int) + (b : Int)) % PZ = aa at m5 m6 st
        generalize ((a : Int) - (b : Int)) * ((a : Int) - (b : Int)) % PZ = bb at m7 m8 st
        refine ⟨_, rfl, _, rfl, _, _, rfl, rfl, ?_⟩
        walk_at "tw nf"
        refine ⟨_, rfl, _, rfl, _, _, rfl, rfl, _, rfl, _, rfl, _, _, rfl, rfl, _, _, rfl, rfl, ⟨nab (by omega) (by omega), nab (by omega) (by omega)⟩, _, _, rfl, rfl, hP0, ?_⟩
        walk_at "tw nf"
        obtain ⟨m9, m10⟩ := md0 ((da - cb) * (da - cb))
        refine ⟨_, rfl, _, rfl, _, rfl, _, _, rfl, rfl, _, rfl, _, rfl, _, _, rfl, rfl, _, _, rfl, rfl, ⟨nab (by omega) (by omega), nab (by omega) (by omega)⟩, _, _, rfl, rfl, hP0, _, _, rfl, rfl, ⟨nab (by omega) (by omega), nab (by omega) (by omega)⟩, _, _, rfl, rfl, hP0, ?_⟩
        walk_at "tw nf"
        refine ⟨_, rfl, _, rfl, _, _, rfl, rfl, ⟨nab (by omega) (by omega), nab (by omega) (by omega)⟩, _, _, rfl, rfl, hP0, ?_⟩
        walk_at "tw nf"
        refine ⟨_, rfl, _, rfl, _, rfl, _, _, rfl, rfl, ⟨nab (by omega) (by omega), nab (by omega) (by omega)⟩, _, _, rfl, rfl, _, _, rfl, rfl, ⟨nab (by omega) (by omega), nab (by omega) (by omega)⟩, _, _, rfl, rfl, hP0, ?_⟩
        walk_at "tw nf"
        injection st with t1 t2 t3 t4
        rw [← t1, ← t2, ← t3, ← t4]
        exact ⟨bit, _, _, _, _, _, _, _, _, _, _, _, _, rfl, I2, s2⟩
      · refine ⟨_, rfl, _, rfl, rfl, _, rfl, ?_⟩
        have ed : decide (V.int ((bit : Nat) : Int) = V.int ((sw : Nat) : Int)) = decide (bit = sw) := dec_nn bit sw
        rw [ed]
        by_cases hb : bit = sw
        · rw [decide_eq_true hb]
          refine iteF (R _ _ ⟨v16, v17, ?_, rfl⟩)
          have : curB bit sw c = c := by unfold curB; rw [if_neg (fun h => h hb)]
          rw [this]
        · rw [decide_eq_false hb]
          have : curB bit sw c = c.swap := by unfold curB; rw [if_pos hb]
          refine iteT ?_
          refine ⟨_, rfl, ?_⟩
          walk_at "tw nf"
          refine ⟨_, rfl, ?_⟩
          walk_at "tw nf"
          refine ⟨_, rfl, ?_⟩
          walk_at "tw nf"
          refine ⟨_, rfl, ?_⟩
          walk_at "tw nf"
          refine ⟨_, rfl, ?_⟩
          walk_at "tw nf"
          refine ⟨_, rfl, ?_⟩
          refine R _ _ ⟨some (.int c.a), some (.int c.b), ?_, rfl⟩
          rw [this]
          rfl
    · rintro σ H2 ⟨sw, c, v7, v8, v9, v10, v11, v12, v13, v14, v15, v16, v17, rfl, I, s2⟩
      have ed := I.done hn
      have lt := I.lt
      refine ⟨_, rfl, _, rfl, c.b, rfl, lt.2.1, fun H3 s3 => ?_⟩
      have li := inv_lt c.b lt.2.1
      have z1 := cst lt.1
      have z2 := cst li
      refine ⟨_, _, rfl, rfl, ⟨nab (by omega) (by omega), nab (by omega) (by omega)⟩, _, _, rfl, rfl, hP0, ?_⟩
      have e : ((c.a : Int) * (Sz09.inv c.b : Int)) % PZ = ((mulN n u : Nat) : Int) := by
        unfold mulN
        rw [ed, Int.natCast_emod, PZ_eq, Int.natCast_mul]
      show Q (V.int (((c.a : Int) * (Sz09.inv c.b : Int)) % PZ)) H3
      rw [e]
      exact q _ (s2.trans s3)
theorem sc_agreed : FnScope ["secret", "point", "u"] ["secret", "point"] (defScope s_agreed) := ⟨by kernel_rfl, by kernel_rfl, by kernel_rfl, by decide +kernel, by kernel_rfl, by decide +kernel, by decide +kernel⟩
theorem ok_agreed {P : Program} {w : World} {K : PySem.W.Frag} {mg : Str → Option Value} {base : Heap} {A : Ad} (T : Tx K mg A) : FnOk P w K mg base CX0 3 A.f_agreed A.d_agreed ["secret", "point"] (sp_agreed K A) := by
  have G_number_of := ok_number_of (P := P) (w := w) (base := base) T
  have G_octets_of := ok_octets_of (P := P) (w := w) (base := base) T
  have G_multiplied := ok_multiplied (P := P) (w := w) (base := base) T
  have G_scalar_of := ok_scalar_of (P := P) (w := w) (base := base) T
  have nd := sc_agreed.nd
  refine T.F_agreed.fn.ok sc_agreed (fun vs H Q E h => ?_) (fun cdv A' outer s H vs Q E hr h => ?_)
  · obtain ⟨a, b, k, u, rfl, _⟩ := h
    rfl
  · obtain ⟨a, b, k, u, rfl, hK, hU, bK, bU, lK, lU, q⟩ := h
    refine ⟨_, (pss_cons (ps_set (i := 2) nd (by rfl) (Or.inl (by rfl)) (pe_op op_modP (pe_op op_andP (pe_call G_number_of (hr.mono (by decide)) (gl_of (by kernel_rfl)) T.F_number_of.mg T.F_number_of.kp T.F_number_of.bd .nil pass0 (pa_cons (pv 1) pa_nil)) (pe_const (gl_of (by kernel_rfl)) T.M_BELOW_TOP_BIT)) (pe_const (gl_of (by kernel_rfl)) T.M_PRIME_curve)))
      (pss_one (ps_ret (pe_call G_octets_of (hr.mono (by decide)) (gl_of (by kernel_rfl)) T.F_octets_of.mg T.F_octets_of.kp T.F_octets_of.bd .nil pass0 (pa_cons (pe_call G_multiplied (hr.mono (by decide)) (gl_of (by kernel_rfl)) T.F_multiplied.mg T.F_multiplied.kp T.F_multiplied.bd .nil pass0 (pa_cons (pe_call G_scalar_of (hr.mono (by decide)) (gl_of (by kernel_rfl)) T.F_scalar_of.mg T.F_scalar_of.kp T.F_scalar_of.bd .nil pass0 (pa_cons (pv 0) pa_nil)) (pa_cons (pv 2) pa_nil))) (pa_cons (pe_nat 32) pa_nil)))))), ?_⟩
    walk_at "tw nf"
    rw [agree_eq bK bU lK lU] at q
    refine ⟨_, rfl, b, u, rfl, hU, bU, (by omega), fun H1 s1 => ⟨_, _, rfl, rfl, _, _, rfl, rfl, (by decide), ?_⟩⟩
    walk_at "tw nf"
    have e1 : number u &&& 57896044618658097711785492504343953926634992332820282019728792003956564819967 = number u % 2 ^ 255 := Nat.and_two_pow_sub_one_eq_mod (number u) 255
    rw [e1, ← P_eq]
    refine ⟨_, rfl, a, k, rfl, s1 _ _ hK, bK, lK, fun H2 s2 => ⟨_, rfl, scalarN k, _, rfl, Nat.mod_lt _ P_pos, scalar_even k, fun H3 s3 => ⟨_, 32, rfl, (by decide), fun p H4 hp s4 lp => ?_⟩⟩⟩
    have s13 := s1.trans (s2.trans s3)
    exact q p H4 (s13.free hp) (s13.trans s4) lp
theorem sc_public : FnScope ["secret"] ["secret"] (defScope s_public) := ⟨by kernel_rfl, by kernel_rfl, by kernel_rfl, by decide +kernel, by kernel_rfl, by decide +kernel, by decide +kernel⟩
theorem ok_public {P : Program} {w : World} {K : PySem.W.Frag} {mg : Str → Option Value} {base : Heap} {A : Ad} (T : Tx K mg A) : FnOk P w K mg base CX0 4 A.f_public A.d_public ["secret"] (sp_public K A) := by
  have G_agreed := ok_agreed (P := P) (w := w) (base := base) T
  have G_octets_of := ok_octets_of (P := P) (w := w) (base := base) T
  have nd := sc_public.nd
  refine T.F_public.fn.ok sc_public (fun vs H Q E h => ?_) (fun cdv A' outer s H vs Q E hr h => ?_)
  · obtain ⟨a, k, rfl, _⟩ := h
    rfl
  · obtain ⟨a, k, rfl, hK, bK, lK, q⟩ := h
    refine ⟨_, (pss_one (ps_ret (pe_call G_agreed (hr.mono (by decide)) (gl_of (by kernel_rfl)) T.F_agreed.mg T.F_agreed.kp T.F_agreed.bd .nil pass0 (pa_cons (pv 0) (pa_cons (pe_call G_octets_of (hr.mono (by decide)) (gl_of (by kernel_rfl)) T.F_octets_of.mg T.F_octets_of.kp T.F_octets_of.bd .nil pass0 (pa_cons (pe_const (gl_of (by kernel_rfl)) T.M_BASE) (pa_cons (pe_nat 32) pa_nil))) pa_nil))))), ?_⟩
    walk_at "tw nf"
    have e : Sd16.publicOf k = Sd16.agree k (little 32 9) := by rw [← nine_eq]; rfl
    rw [e] at q
    refine ⟨_, rfl, 9, 32, rfl, (by decide), fun x H1 hx s1 lx => ⟨a, x, k, _, rfl, s1 _ _ hK, lx, bK, little_byt _ _, lK, little_length _ _, fun p H2 hp s2 lp => q p H2 (s1.free hp) (s1.trans s2) lp⟩⟩
theorem sc_worth_nothing : FnScope ["octets"] ["octets"] (defScope s_worth_nothing) := ⟨by kernel_rfl, by kernel_rfl, by kernel_rfl, by decide +kernel, by kernel_rfl, by decide +kernel, by decide +kernel⟩
theorem ok_worth_nothing {P : Program} {w : World} {K : PySem.W.Frag} {mg : Str → Option Value} {base : Heap} {A : Ad} (T : Tx K mg A) : FnOk P w K mg base CX0 1 A.f_worth_nothing A.d_worth_nothing ["octets"] (sp_worth_nothing K A) := by
  have nd := sc_worth_nothing.nd
  refine T.F_worth_nothing.fn.ok sc_worth_nothing (fun vs H Q E h => ?_) (fun cdv A' outer s H vs Q E hr h => ?_)
  · obtain ⟨a, l, rfl, _⟩ := h
    rfl
  · obtain ⟨a, l, rfl, hL, lL, q⟩ := h
    refine ⟨_, (pss_one (ps_ret (pe_cmpR (op_eqN (un_of hr)) (pv 0) (pe_op op_repN (pe_lstN (pa_cons (pe_nat 0) pa_nil)) (pe_callB call_lenN (gl_of (by kernel_rfl)) T.N_len PySem.boot_len (pa_cons (pv 0) pa_nil))) (nomark _)))), ?_⟩
    walk_at "tw nf"
    rw [nothing_iff] at q
    refine ⟨_, rfl, [0], rfl, (by decide), fun z H1 hz s1 lz => ⟨_, rfl, a, l, rfl, s1 _ _ hL, z, 0, _, rfl, rfl, lz, (by omega), fun r H2 hr2 s2 lr => ⟨a, r, l, _, rfl, rfl, s2 _ _ (s1 _ _ hL), lr, q _ (s1.trans s2)⟩⟩⟩
end Tw
namespace Tw
open PySem L2
open Sd16 (number little)
def SameBut (p : Addr) (H H' : Hp) : Prop := ∀ b o, b ≠ p → H b = some o → H' b = some o
def InsAt (H : Hp) (p : Addr) : Prop := ∃ C dx fs, H p = some (.ins C dx fs)
theorem _root_.L2.Same.but {H H' : Hp} (s : Same H H') (p : Addr) : SameBut p H H' := fun b o _ h => s b o h
theorem SameBut.trans {p : Addr} {H H1 H2 : Hp} (a : SameBut p H H1) (b : SameBut p H1 H2) : SameBut p H H2 := fun c o n h => b c o n (a c o n h)
theorem SameBut.new {p : Addr} {H0 H H' : Hp} (a : Same H0 H) (n : H0 p = none) (b : SameBut p H H') : Same H0 H' := fun c o h => b c o (ne_of_none h n) (a c o h)
theorem SameBut.free {p : Addr} {H H' : Hp} (e : SameBut p H H') (hp : ∃ o, H p = some o) {l : Addr} (h : H' l = none) (hp' : ∃ o, H' p = some o) : H l = none := by
  cases q : H l with
  | none => rfl
  | some o =>
    by_cases hl : l = p
    · subst hl
      obtain ⟨o', h'⟩ := hp'
      rw [h] at h'; cases h'
    · rw [e l o hl q] at h; cases h
theorem but_upd {H0 H : Hp} {p : Addr} {o : HO} (s : SameBut p H0 H) : SameBut p H0 (upd H p o) := fun b o' n h => by rw [upd_ne n]; exact s b o' n h
theorem ne_ins {H : Hp} {p a : Addr} {l : List V} (hp : InsAt H p) (ha : H a = some (.lst l)) : a ≠ p := by
  obtain ⟨C, dx, fs, e⟩ := hp
  exact ne_of ha e (by intro z; cases z)
theorem SameBut.lst {p : Addr} {H H' : Hp} (s : SameBut p H H') (hp : InsAt H p) {a : Addr} {l : List V} (h : H a = some (.lst l)) : H' a = some (.lst l) := s a _ (ne_ins hp h) h
theorem ne_len {H : Hp} {a b C D dx dy : Addr} {fs gs : List (Str × V)} (h : H a = some (.ins C dx fs)) (h' : H b = some (.ins D dy gs)) (hl : fs.length ≠ gs.length) : a ≠ b :=
  ne_of h h' (by intro z; injection z with _ _ z; rw [z] at hl; exact hl rfl)
def B32 (l : List Nat) : Prop := l.length = 32 ∧ Byt l
theorem hash_b32 (l : List Nat) : B32 (Sd16.hash l) := ⟨hash_len l, hash_byt l⟩
theorem agree_b32 (k u : List Nat) : B32 (Sd16.agree k u) := ⟨agree_len k u, agree_byt k u⟩
theorem public_b32 (k : List Nat) : B32 (Sd16.publicOf k) := agree_b32 _ _
def mixF (c h : V) : List (Str × V) := [("chain", c), ("seen", h)]
theorem mix_chain (c h : V) : (mixF c h).lookup ("chain" : Str) = some c := by kernel_rfl
theorem mix_seen (c h : V) : (mixF c h).lookup ("seen" : Str) = some h := by kernel_rfl
theorem mix_put_chain (c h v : V) : putF "chain" v (mixF c h) = mixF v h := by kernel_rfl
theorem mix_put_seen (c h v : V) : putF "seen" v (mixF c h) = mixF c v := by kernel_rfl
def MixAt (A : Ad) (H : Hp) (p : Addr) (c h : List Nat) : Prop := ∃ dx ca ha, H p = some (.ins A.c_Mixer dx (mixF (.ref ca) (.ref ha))) ∧ LH H ca c ∧ LH H ha h ∧ B32 c ∧ B32 h
theorem MixAt.ins {A : Ad} {H : Hp} {p : Addr} {c h : List Nat} (m : MixAt A H p c h) : InsAt H p := by
  obtain ⟨dx, ca, ha, e, _⟩ := m
  exact ⟨_, _, _, e⟩
theorem MixAt.same {A : Ad} {H H' : Hp} {p : Addr} {c h : List Nat} (m : MixAt A H p c h) (s : Same H H') : MixAt A H' p c h := by
  obtain ⟨dx, ca, ha, e, h1, h2, r⟩ := m
  exact ⟨dx, ca, ha, s _ _ e, s _ _ h1, s _ _ h2, r⟩
theorem MixAt.but {A : Ad} {H H' : Hp} {p q : Addr} {c h : List Nat} (m : MixAt A H p c h) (s : SameBut q H H') (hq : InsAt H q) (n : p ≠ q) : MixAt A H' p c h := by
  obtain ⟨dx, ca, ha, e, h1, h2, r⟩ := m
  exact ⟨dx, ca, ha, s _ _ n e, s.lst hq h1, s.lst hq h2, r⟩
theorem made_same {H : Hp} {x dx C : Addr} {fs : List (Str × V)} (hx : H x = none) (hd : H dx = none) : Same H (upd (upd H dx (.own x)) x (.ins C dx fs)) := same_new (same_lay hd) hx
theorem keys_at (n : Nat) (c x : List Nat) {i : Nat} (h : i < n) : (Sd16.keys n c x).getD i [] = lastK (Sd16.hmac c x) (i + 1) := by
  rw [keys_eq, List.getD_eq_getElem?_getD, List.getElem?_map, List.getElem?_range h, Option.map_some, Option.getD_some]
theorem lastK_b32 (t : List Nat) (i : Nat) : B32 (lastK t (i + 1)) := ⟨lastK_len _ _, lastK_byt _ _⟩
theorem key_b32 (n : Nat) (c x : List Nat) {i : Nat} (h : i < n) : B32 ((Sd16.keys n c x).getD i []) := by
  rw [keys_at n c x h]; exact lastK_b32 _ _
theorem key1_at (c x : List Nat) : Sd16.key1 c x = (Sd16.keys 1 c x).getD 0 [] := by rw [Sd16.key1]
theorem two_at (c x : List Nat) : Sd16.two c x = ((Sd16.keys 2 c x).getD 0 [], (Sd16.keys 2 c x).getD 1 []) := by rw [Sd16.two]
theorem key1_b32 (c x : List Nat) : B32 (Sd16.key1 c x) := by
  rw [key1_at]; exact key_b32 1 c x (by decide)
theorem two_b32 (c x : List Nat) : B32 (Sd16.two c x).1 ∧ B32 (Sd16.two c x).2 := by
  rw [two_at]
  have h1 := key_b32 2 c x (i := 0) (by decide)
  have h2 := key_b32 2 c x (i := 1) (by decide)
  generalize (Sd16.keys 2 c x).getD 0 [] = a at h1
  generalize (Sd16.keys 2 c x).getD 1 [] = b at h2
  exact ⟨h1, h2⟩
theorem keys_len (n : Nat) (c x : List Nat) : (Sd16.keys n c x).length = n := by rw [keys_eq]; simp
theorem lhs_at {H : Hp} {ps : List Addr} {n : Nat} {c x : List Nat} (h : LHs H ps (Sd16.keys n c x)) {i : Nat} {a : Addr} (ha : ps[i]? = some a) : LH H a ((Sd16.keys n c x).getD i []) := by
  have hi : i < n := by
    have := (List.getElem?_eq_some_iff.mp ha).1
    rw [h.1, keys_len] at this; exact this
  refine h.2 i a _ ha ?_
  rw [List.getD_eq_getElem?_getD, List.getElem?_eq_getElem (by rw [keys_len]; exact hi)]
  rfl
theorem lhs_len {H : Hp} {ps : List Addr} {n : Nat} {c x : List Nat} (h : LHs H ps (Sd16.keys n c x)) : ps.length = n := by rw [h.1, keys_len]
def sp_Mixer___init__ (K : PySem.W.Frag) (A : Ad) : Sp := fun vs H Q _ => ∃ (p dx : Addr) (c h : V), vs = [.ref p, c, h] ∧ H p = some (.ins A.c_Mixer dx []) ∧ Q .non (upd H p (.ins A.c_Mixer dx (mixF c h)))
def sp_Mixer_twin (K : PySem.W.Frag) (A : Ad) : Sp := fun vs H Q _ => ∃ (p : Addr) (c h : List Nat), vs = [.ref p] ∧ MixAt A H p c h ∧ ∀ r H', H r = none → Same H H' → MixAt A H' r c h → Q (.ref r) H'
def sp_Mixer_absorb (K : PySem.W.Frag) (A : Ad) : Sp := fun vs H Q _ => ∃ (p oa : Addr) (c h o : List Nat), vs = [.ref p, .ref oa] ∧ MixAt A H p c h ∧ LH H oa o ∧ Byt o ∧ o.length ≤ 1000 ∧ ∀ H', SameBut p H H' → MixAt A H' p c (Sd16.hash (h ++ o)) → Q .non H'
def sp_Mixer_stir (K : PySem.W.Frag) (A : Ad) : Sp := fun vs H Q _ => ∃ (p oa : Addr) (c h o : List Nat), vs = [.ref p, .ref oa] ∧ MixAt A H p c h ∧ LH H oa o ∧ Byt o ∧ o.length ≤ 1000 ∧ ∀ H', SameBut p H H' → MixAt A H' p (Sd16.key1 c o) h → Q .non H'
def sp_Mixer_stir_for_key (K : PySem.W.Frag) (A : Ad) : Sp := fun vs H Q _ => ∃ (p oa : Addr) (c h o : List Nat), vs = [.ref p, .ref oa] ∧ MixAt A H p c h ∧ LH H oa o ∧ Byt o ∧ o.length ≤ 1000 ∧
  ∀ r H', SameBut p H H' → MixAt A H' p (Sd16.two c o).1 h → LH H' r (Sd16.two c o).2 → Q (.ref r) H'
def sp_Mixer_stir_psk_for_key (K : PySem.W.Frag) (A : Ad) : Sp := fun vs H Q _ => ∃ (p oa : Addr) (c h o : List Nat), vs = [.ref p, .ref oa] ∧ MixAt A H p c h ∧ LH H oa o ∧ Byt o ∧ o.length ≤ 1000 ∧
  ∀ r H', SameBut p H H' → MixAt A H' p ((Sd16.keys 3 c o).getD 0 []) (Sd16.hash (h ++ (Sd16.keys 3 c o).getD 1 [])) → LH H' r ((Sd16.keys 3 c o).getD 2 []) → Q (.ref r) H'
def C0 : List Nat := Sd16.hash Sd16.CONSTRUCTION
def H0 (n : List Nat) : List Nat := Sd16.hash (Sd16.hash (C0 ++ Sd16.IDENTIFIER) ++ n)
def sp_mixer_towards (K : PySem.W.Frag) (A : Ad) : Sp := fun vs H Q _ => ∃ (na : Addr) (n : List Nat), vs = [.ref na] ∧ LH H na n ∧ B32 n ∧ ∀ r H', H r = none → Same H H' → MixAt A H' r C0 (H0 n) → Q (.ref r) H'
theorem sc_Mixer___init__ : FnScope ["self", "chain", "seen"] ["self", "chain", "seen"] (defScope s_Mixer___init__) := ⟨by kernel_rfl, by kernel_rfl, by kernel_rfl, by decide +kernel, by kernel_rfl, by decide +kernel, by decide +kernel⟩
theorem ok_Mixer___init__ {P : Program} {w : World} {K : PySem.W.Frag} {mg : Str → Option Value} {base : Heap} {A : Ad} (T : Tx K mg A) : FnOk P w K mg base CX0 1 A.f_Mixer___init__ A.d_Mixer___init__ ["self", "chain", "seen"] (sp_Mixer___init__ K A) := by
  have nd := sc_Mixer___init__.nd
  refine T.F_Mixer___init__.fn.ok sc_Mixer___init__ (fun vs H Q E h => ?_) (fun cdv A' outer s H vs Q E hr h => ?_)
  · obtain ⟨p, dx, c, h, rfl, _⟩ := h
    rfl
  · obtain ⟨p, dx, c, h, rfl, hp, q⟩ := h
    refine ⟨_, (pss_cons (ps_fldA (pv 0) (pv 1) (by rfl) T.C_Mixer.cl (T.C_Mixer.na _ (.head _)))
      (pss_one (ps_fldA (pv 0) (pv 2) (by rfl) T.C_Mixer.cl (T.C_Mixer.na _ (.tail _ (.head _)))))), ?_⟩
    refine ⟨_, rfl, _, rfl, p, dx, _, rfl, hp, (by decide), ?_⟩
    refine ⟨_, rfl, _, rfl, p, dx, _, rfl, upd_same, (by show 1 < 1000; decide), ?_⟩
    rw [upd_upd]
    exact q
theorem sc_Mixer_twin : FnScope ["self"] ["self"] (defScope s_Mixer_twin) := ⟨by kernel_rfl, by kernel_rfl, by kernel_rfl, by decide +kernel, by kernel_rfl, by decide +kernel, by decide +kernel⟩
theorem ok_Mixer_twin {P : Program} {w : World} {K : PySem.W.Frag} {mg : Str → Option Value} {base : Heap} {A : Ad} (T : Tx K mg A) : FnOk P w K mg base CX0 3 A.f_Mixer_twin A.d_Mixer_twin ["self"] (sp_Mixer_twin K A) := by
  have G_Mixer___init__ := ok_Mixer___init__ (P := P) (w := w) (base := base) T
  have nd := sc_Mixer_twin.nd
  refine T.F_Mixer_twin.fn.ok sc_Mixer_twin (fun vs H Q E h => ?_) (fun cdv A' outer s H vs Q E hr h => ?_)
  · obtain ⟨p, c, h, rfl, _⟩ := h
    rfl
  · obtain ⟨p, c, h, rfl, ⟨dx, ca, ha, hp, hc, hh, b1, b2⟩, q⟩ := h
    refine ⟨_, (pss_one (ps_ret (pe_make T.C_Mixer.mkc G_Mixer___init__ (hr.mono (by decide)) (gl_of (by kernel_rfl)) T.C_Mixer.mg T.F_Mixer___init__.bd .nil pass0 (pa_cons (pe_fldA (pv 0) (by rfl) T.C_Mixer.cl (T.C_Mixer.na _ (.head _))) (pa_cons (pe_fldA (pv 0) (by rfl) T.C_Mixer.cl (T.C_Mixer.na _ (.tail _ (.head _)))) pa_nil))))), ?_⟩
    refine ⟨_, rfl, p, dx, _, _, rfl, hp, mix_chain _ _, _, rfl, p, dx, _, _, rfl, hp, mix_seen _ _, fun x dx' hx hd hn => ⟨x, dx', _, _, rfl, upd_same, rfl, ?_⟩⟩
    rw [upd_upd]
    have s1 := made_same (C := A.c_Mixer) (fs := mixF (.ref ca) (.ref ha)) hx hd
    exact q x _ hx s1 ⟨dx', ca, ha, upd_same, s1 _ _ hc, s1 _ _ hh, b1, b2⟩
theorem sc_Mixer_absorb : FnScope ["self", "octets"] ["self", "octets"] (defScope s_Mixer_absorb) := ⟨by kernel_rfl, by kernel_rfl, by kernel_rfl, by decide +kernel, by kernel_rfl, by decide +kernel, by decide +kernel⟩
theorem ok_Mixer_absorb {P : Program} {w : World} {K : PySem.W.Frag} {mg : Str → Option Value} {base : Heap} {A : Ad} (T : Tx K mg A) : FnOk P w K mg base CX0 6 A.f_Mixer_absorb A.d_Mixer_absorb ["self", "octets"] (sp_Mixer_absorb K A) := by
  have G_digest := ok_digest (P := P) (w := w) (base := base) T
  have nd := sc_Mixer_absorb.nd
  refine T.F_Mixer_absorb.fn.ok sc_Mixer_absorb (fun vs H Q E h => ?_) (fun cdv A' outer s H vs Q E hr h => ?_)
  · obtain ⟨p, oa, c, h, o, rfl, _⟩ := h
    rfl
  · obtain ⟨p, oa, c, h, o, rfl, ⟨dx, ca, ha, hp, hc, hh, b1, b2⟩, hO, bO, lO, q⟩ := h
    refine ⟨_, (pss_one (ps_fldA (pv 0) (pe_call G_digest (hr.mono (by decide)) (gl_of (by kernel_rfl)) T.F_digest.mg T.F_digest.kp T.F_digest.bd .nil pass0 (pa_cons (pe_op op_catN (pe_fldA (pv 0) (by rfl) T.C_Mixer.cl (T.C_Mixer.na _ (.tail _ (.head _)))) (pv 1)) pa_nil)) (by rfl) T.C_Mixer.cl (T.C_Mixer.na _ (.tail _ (.head _))))), ?_⟩
    have hl := b2.1
    refine ⟨_, rfl, p, dx, _, _, rfl, hp, mix_seen _ _, _, rfl, ha, oa, h, o, rfl, rfl, hh, hO, (by omega), fun z H1 hz s1 lz => ⟨z, _, rfl, lz, b2.2.app bO, (by rw [List.length_append]; omega), fun r H2 hr2 s2 lr => ?_⟩⟩
    have s12 := s1.trans s2
    have hp2 := s12 _ _ hp
    refine ⟨_, rfl, p, dx, _, rfl, hp2, (by show 2 < 1000; decide), ?_⟩
    rw [mix_put_seen]
    have i2 : InsAt H2 p := ⟨_, _, _, hp2⟩
    refine q _ (but_upd (s12.but p)) ⟨dx, ca, r, upd_same, ?_, ?_, b1, hash_b32 _⟩
    · show upd _ p _ ca = _
      rw [upd_ne (ne_ins i2 (s12 _ _ hc))]; exact s12 _ _ hc
    · show upd _ p _ r = _
      rw [upd_ne (ne_ins i2 lr)]; exact lr
theorem sc_Mixer_stir : FnScope ["self", "octets"] ["self", "octets"] (defScope s_Mixer_stir) := ⟨by kernel_rfl, by kernel_rfl, by kernel_rfl, by decide +kernel, by kernel_rfl, by decide +kernel, by decide +kernel⟩
theorem ok_Mixer_stir {P : Program} {w : World} {K : PySem.W.Frag} {mg : Str → Option Value} {base : Heap} {A : Ad} (T : Tx K mg A) : FnOk P w K mg base CX0 8 A.f_Mixer_stir A.d_Mixer_stir ["self", "octets"] (sp_Mixer_stir K A) := by
  have G_drawn := ok_drawn (P := P) (w := w) (base := base) T
  have nd := sc_Mixer_stir.nd
  refine T.F_Mixer_stir.fn.ok sc_Mixer_stir (fun vs H Q E h => ?_) (fun cdv A' outer s H vs Q E hr h => ?_)
  · obtain ⟨p, oa, c, h, o, rfl, _⟩ := h
    rfl
  · obtain ⟨p, oa, c, h, o, rfl, ⟨dx, ca, ha, hp, hc, hh, b1, b2⟩, hO, bO, lO, q⟩ := h
    refine ⟨_, (pss_one (ps_fldA (pv 0) (pe_ix ix_list (pe_call G_drawn (hr.mono (by decide)) (gl_of (by kernel_rfl)) T.F_drawn.mg T.F_drawn.kp T.F_drawn.bd .nil pass0 (pa_cons (pe_nat 1) (pa_cons (pe_fldA (pv 0) (by rfl) T.C_Mixer.cl (T.C_Mixer.na _ (.head _))) (pa_cons (pv 1) pa_nil)))) (pe_nat 0) (fun _ _ => rfl)) (by rfl) T.C_Mixer.cl (T.C_Mixer.na _ (.head _)))), ?_⟩
    refine ⟨_, rfl, p, dx, _, _, rfl, hp, mix_chain _ _, _, rfl, ca, oa, c, o, 1, rfl, (by decide), hc, hO, b1.1, b1.2, bO, (by omega), fun l ps H1 hl s1 ll hps => ?_⟩
    obtain ⟨k, rfl⟩ : ∃ k, ps = [k] := by
      match ps, lhs_len hps with
      | [k], _ => exact ⟨k, rfl⟩
    have lk : LH H1 k (Sd16.key1 c o) := by
      rw [key1_at]; exact lhs_at hps (i := 0) rfl
    have hp1 := s1 _ _ hp
    have i1 : InsAt H1 p := ⟨_, _, _, hp1⟩
    refine ⟨l, _, 0, _, rfl, rfl, SqL.of ll, rfl, _, rfl, p, dx, _, rfl, hp1, (by show 2 < 1000; decide), ?_⟩
    rw [mix_put_chain]
    refine q _ (but_upd (s1.but p)) ⟨dx, k, ha, upd_same, ?_, ?_, key1_b32 _ _, b2⟩
    · show upd _ p _ k = _
      rw [upd_ne (ne_ins i1 lk)]; exact lk
    · show upd _ p _ ha = _
      rw [upd_ne (ne_ins i1 (s1 _ _ hh))]; exact s1 _ _ hh
theorem sc_Mixer_stir_for_key : FnScope ["self", "octets", "made"] ["self", "octets"] (defScope s_Mixer_stir_for_key) := ⟨by kernel_rfl, by kernel_rfl, by kernel_rfl, by decide +kernel, by kernel_rfl, by decide +kernel, by decide +kernel⟩
theorem ok_Mixer_stir_for_key {P : Program} {w : World} {K : PySem.W.Frag} {mg : Str → Option Value} {base : Heap} {A : Ad} (T : Tx K mg A) : FnOk P w K mg base CX0 8 A.f_Mixer_stir_for_key A.d_Mixer_stir_for_key ["self", "octets"] (sp_Mixer_stir_for_key K A) := by
  have G_drawn := ok_drawn (P := P) (w := w) (base := base) T
  have nd := sc_Mixer_stir_for_key.nd
  refine T.F_Mixer_stir_for_key.fn.ok sc_Mixer_stir_for_key (fun vs H Q E h => ?_) (fun cdv A' outer s H vs Q E hr h => ?_)
  · obtain ⟨p, oa, c, h, o, rfl, _⟩ := h
    rfl
  · obtain ⟨p, oa, c, h, o, rfl, ⟨dx, ca, ha, hp, hc, hh, b1, b2⟩, hO, bO, lO, q⟩ := h
    refine ⟨_, (pss_cons (ps_set (i := 2) nd (by rfl) (Or.inl (by rfl)) (pe_call G_drawn (hr.mono (by decide)) (gl_of (by kernel_rfl)) T.F_drawn.mg T.F_drawn.kp T.F_drawn.bd .nil pass0 (pa_cons (pe_nat 2) (pa_cons (pe_fldA (pv 0) (by rfl) T.C_Mixer.cl (T.C_Mixer.na _ (.head _))) (pa_cons (pv 1) pa_nil)))))
      (pss_cons (ps_fldA (pv 0) (pe_ix ix_list (pv 2) (pe_nat 0) (fun _ _ => rfl)) (by rfl) T.C_Mixer.cl (T.C_Mixer.na _ (.head _)))
      (pss_one (ps_ret (pe_ix ix_list (pv 2) (pe_nat 1) (fun _ _ => rfl)))))), ?_⟩
    walk_at "tw nf"
    refine ⟨_, rfl, p, dx, _, _, rfl, hp, mix_chain _ _, _, rfl, ca, oa, c, o, 2, rfl, (by decide), hc, hO, b1.1, b1.2, bO, (by omega), fun l ps H1 hl s1 ll hps => ?_⟩
    walk_at "tw nf"
    obtain ⟨k, k2, rfl⟩ : ∃ k k2, ps = [k, k2] := by
      match ps, lhs_len hps with
      | [k, k2], _ => exact ⟨k, k2, rfl⟩
    obtain ⟨t1, t2⟩ := two_b32 c o
    rw [two_at] at q t1 t2
    have lk := lhs_at hps (i := 0) (a := k) rfl
    have lk2 := lhs_at hps (i := 1) (a := k2) rfl
    generalize (Sd16.keys 2 c o).getD 0 [] = w1 at lk q t1
    generalize (Sd16.keys 2 c o).getD 1 [] = w2 at lk2 q t2
    have hp1 := s1 _ _ hp
    have i1 : InsAt H1 p := ⟨_, _, _, hp1⟩
    refine ⟨_, rfl, l, _, 0, _, rfl, rfl, SqL.of ll, rfl, _, rfl, p, dx, _, rfl, hp1, (by show 2 < 1000; decide), ?_⟩
    rw [mix_put_chain]
    have ll2 : upd H1 p (.ins A.c_Mixer dx (mixF (.ref k) (.ref ha))) l = some (.lst ([k, k2].map V.ref)) := by rw [upd_ne (ne_ins i1 ll)]; exact ll
    refine ⟨_, rfl, l, _, 1, _, rfl, rfl, SqL.of ll2, rfl, ?_⟩
    refine q k2 _ (but_upd (s1.but p)) ⟨dx, k, ha, upd_same, ?_, ?_, t1, b2⟩ ?_
    · show upd _ p _ k = _
      rw [upd_ne (ne_ins i1 lk)]; exact lk
    · show upd _ p _ ha = _
      rw [upd_ne (ne_ins i1 (s1 _ _ hh))]; exact s1 _ _ hh
    · show upd _ p _ k2 = _
      rw [upd_ne (ne_ins i1 lk2)]; exact lk2
end Tw
namespace Tw
open PySem L2
open Sd16 (number little)
theorem constr_ok : Byt Sd16.CONSTRUCTION ∧ Sd16.CONSTRUCTION.length = 37 := ⟨by unfold Byt; decide, by decide⟩
theorem ident_ok : Byt Sd16.IDENTIFIER ∧ Sd16.IDENTIFIER.length = 34 := ⟨by unfold Byt; decide, by decide⟩
theorem sc_Mixer_stir_psk_for_key : FnScope ["self", "psk", "made"] ["self", "psk"] (defScope s_Mixer_stir_psk_for_key) := ⟨by kernel_rfl, by kernel_rfl, by kernel_rfl, by decide +kernel, by kernel_rfl, by decide +kernel, by decide +kernel⟩
theorem ok_Mixer_stir_psk_for_key {P : Program} {w : World} {K : PySem.W.Frag} {mg : Str → Option Value} {base : Heap} {A : Ad} (T : Tx K mg A) : FnOk P w K mg base CX0 8 A.f_Mixer_stir_psk_for_key A.d_Mixer_stir_psk_for_key ["self", "psk"] (sp_Mixer_stir_psk_for_key K A) := by
  have G_drawn := ok_drawn (P := P) (w := w) (base := base) T
  have G_Mixer_absorb := ok_Mixer_absorb (P := P) (w := w) (base := base) T
  have nd := sc_Mixer_stir_psk_for_key.nd
  refine T.F_Mixer_stir_psk_for_key.fn.ok sc_Mixer_stir_psk_for_key (fun vs H Q E h => ?_) (fun cdv A' outer s H vs Q E hr h => ?_)
  · obtain ⟨p, oa, c, h, o, rfl, _⟩ := h
    rfl
  · obtain ⟨p, oa, c, h, o, rfl, ⟨dx, ca, ha, hp, hc, hh, b1, b2⟩, hO, bO, lO, q⟩ := h
    refine ⟨_, (pss_cons (ps_set (i := 2) nd (by rfl) (Or.inl (by rfl)) (pe_call G_drawn (hr.mono (by decide)) (gl_of (by kernel_rfl)) T.F_drawn.mg T.F_drawn.kp T.F_drawn.bd .nil pass0 (pa_cons (pe_nat 3) (pa_cons (pe_fldA (pv 0) (by rfl) T.C_Mixer.cl (T.C_Mixer.na _ (.head _))) (pa_cons (pv 1) pa_nil)))))
      (pss_cons (ps_fldA (pv 0) (pe_ix ix_list (pv 2) (pe_nat 0) (fun _ _ => rfl)) (by rfl) T.C_Mixer.cl (T.C_Mixer.na _ (.head _)))
      (pss_cons (ps_expr (pe_meth (pv 0) T.C_Mixer.cl T.F_Mixer_absorb.mt G_Mixer_absorb (hr.mono (by decide)) T.F_Mixer_absorb.bd .nil pass0 (pa_cons (pe_ix ix_list (pv 2) (pe_nat 1) (fun _ _ => rfl)) pa_nil)))
      (pss_one (ps_ret (pe_ix ix_list (pv 2) (pe_nat 2) (fun _ _ => rfl))))))), ?_⟩
    walk_at "tw nf"
    refine ⟨_, rfl, p, dx, _, _, rfl, hp, mix_chain _ _, _, rfl, ca, oa, c, o, 3, rfl, (by decide), hc, hO, b1.1, b1.2, bO, (by omega), fun l ps H1 hl s1 ll hps => ?_⟩
    walk_at "tw nf"
    obtain ⟨k, k2, k3, rfl⟩ : ∃ k k2 k3, ps = [k, k2, k3] := by
      match ps, lhs_len hps with
      | [k, k2, k3], _ => exact ⟨k, k2, k3, rfl⟩
    have t1 := key_b32 3 c o (i := 0) (by decide)
    have t2 := key_b32 3 c o (i := 1) (by decide)
    have lk := lhs_at hps (i := 0) (a := k) rfl
    have lk2 := lhs_at hps (i := 1) (a := k2) rfl
    have lk3 := lhs_at hps (i := 2) (a := k3) rfl
    generalize (Sd16.keys 3 c o).getD 0 [] = w1 at lk q t1
    generalize (Sd16.keys 3 c o).getD 1 [] = w2 at lk2 q t2
    generalize (Sd16.keys 3 c o).getD 2 [] = w3 at lk3 q
    have hp1 := s1 _ _ hp
    have i1 : InsAt H1 p := ⟨_, _, _, hp1⟩
    refine ⟨_, rfl, l, _, 0, _, rfl, rfl, SqL.of ll, rfl, _, rfl, p, dx, _, rfl, hp1, (by show 2 < 1000; decide), ?_⟩
    rw [mix_put_chain]
    have u1 : SameBut p H1 (upd H1 p (.ins A.c_Mixer dx (mixF (.ref k) (.ref ha)))) := but_upd fun _ _ _ h => h
    have m2 : MixAt A (upd H1 p (.ins A.c_Mixer dx (mixF (.ref k) (.ref ha)))) p w1 h := ⟨dx, k, ha, upd_same, u1.lst i1 lk, u1.lst i1 (s1 _ _ hh), t1, b2⟩
    have e2 : upd H1 p (.ins A.c_Mixer dx (mixF (.ref k) (.ref ha))) p = some (.ins A.c_Mixer dx (mixF (.ref k) (.ref ha))) := upd_same
    generalize upd H1 p (.ins A.c_Mixer dx (mixF (.ref k) (.ref ha))) = H2 at u1 m2 e2
    have hl2 := t2.1
    refine ⟨_, rfl, p, dx, _, rfl, e2, (by kernel_rfl), _, rfl, l, _, 1, _, rfl, rfl, SqL.of (u1.lst i1 ll), rfl, p, k2, w1, h, w2, rfl, m2, u1.lst i1 lk2, t2.2, (by omega), fun H3 u3 m3 => ?_⟩
    have i2 := m2.ins
    refine ⟨_, rfl, l, _, 2, _, rfl, rfl, SqL.of (u3.lst i2 (u1.lst i1 ll)), rfl, ?_⟩
    exact q k3 H3 ((s1.but p).trans (u1.trans u3)) m3 (u3.lst i2 (u1.lst i1 lk3))
theorem sc_mixer_towards : FnScope ["number", "chain", "seen"] ["number"] (defScope s_mixer_towards) := ⟨by kernel_rfl, by kernel_rfl, by kernel_rfl, by decide +kernel, by kernel_rfl, by decide +kernel, by decide +kernel⟩
theorem ok_mixer_towards {P : Program} {w : World} {K : PySem.W.Frag} {mg : Str → Option Value} {base : Heap} {A : Ad} (T : Tx K mg A) : FnOk P w K mg base CX0 6 A.f_mixer_towards A.d_mixer_towards ["number"] (sp_mixer_towards K A) := by
  have G_digest := ok_digest (P := P) (w := w) (base := base) T
  have G_octets_of_text := ok_octets_of_text (P := P) (w := w) (base := base) T
  have G_Mixer___init__ := ok_Mixer___init__ (P := P) (w := w) (base := base) T
  have nd := sc_mixer_towards.nd
  refine T.F_mixer_towards.fn.ok sc_mixer_towards (fun vs H Q E h => ?_) (fun cdv A' outer s H vs Q E hr h => ?_)
  · obtain ⟨na, n, rfl, _⟩ := h
    rfl
  · obtain ⟨na, n, rfl, hN, bN, q⟩ := h
    refine ⟨_, (pss_cons (ps_set (i := 1) nd (by rfl) (Or.inl (by rfl)) (pe_call G_digest (hr.mono (by decide)) (gl_of (by kernel_rfl)) T.F_digest.mg T.F_digest.kp T.F_digest.bd .nil pass0 (pa_cons (pe_call G_octets_of_text (hr.mono (by decide)) (gl_of (by kernel_rfl)) T.F_octets_of_text.mg T.F_octets_of_text.kp T.F_octets_of_text.bd .nil pass0 (pa_cons (pe_const (gl_of (by kernel_rfl)) T.M_CONSTRUCTION) pa_nil)) pa_nil)))
      (pss_cons (ps_set (i := 2) nd (by rfl) (Or.inl (by rfl)) (pe_call G_digest (hr.mono (by decide)) (gl_of (by kernel_rfl)) T.F_digest.mg T.F_digest.kp T.F_digest.bd .nil pass0 (pa_cons (pe_op op_catN (pv 1) (pe_call G_octets_of_text (hr.mono (by decide)) (gl_of (by kernel_rfl)) T.F_octets_of_text.mg T.F_octets_of_text.kp T.F_octets_of_text.bd .nil pass0 (pa_cons (pe_const (gl_of (by kernel_rfl)) T.M_IDENTIFIER) pa_nil))) pa_nil)))
      (pss_one (ps_ret (pe_make T.C_Mixer.mkc G_Mixer___init__ (hr.mono (by decide)) (gl_of (by kernel_rfl)) T.C_Mixer.mg T.F_Mixer___init__.bd .nil pass0 (pa_cons (pv 1) (pa_cons (pe_call G_digest (hr.mono (by decide)) (gl_of (by kernel_rfl)) T.F_digest.mg T.F_digest.kp T.F_digest.bd .nil pass0 (pa_cons (pe_op op_catN (pv 2) (pv 0)) pa_nil)) pa_nil))))))), ?_⟩
    walk_at "tw nf"
    obtain ⟨c1, c2⟩ := constr_ok
    obtain ⟨d1, d2⟩ := ident_ok
    have nl := bN.1
    refine ⟨"Noise_IKpsk2_25519_ChaChaPoly_BLAKE2s", rfl, (by decide +kernel), fun t H1 ht s1 lt => ?_⟩
    rw [str_ascii, ← Sd16.CONSTRUCTION] at lt
    refine ⟨t, _, rfl, lt, c1, (by omega), fun ch H2 hch s2 lch => ?_⟩
    walk_at "tw nf"
    have q' : ∀ r H', H r = none → Same H H' → MixAt A H' r (Sd16.hash Sd16.CONSTRUCTION) (Sd16.hash (Sd16.hash (Sd16.hash Sd16.CONSTRUCTION ++ Sd16.IDENTIFIER) ++ n)) → Q (.ref r) H' := q
    have b0 := hash_b32 Sd16.CONSTRUCTION
    generalize Sd16.hash Sd16.CONSTRUCTION = C at q' lch b0
    have cl := b0.1
    refine ⟨_, rfl, "WireGuard v1 zx2c4 Jason@zx2c4.com", rfl, (by decide +kernel), fun t2 H3 ht2 s3 lt2 => ?_⟩
    rw [str_ascii, ← Sd16.IDENTIFIER] at lt2
    refine ⟨ch, t2, _, _, rfl, rfl, s3 _ _ lch, lt2, (by omega), fun x H4 hx s4 lx => ⟨x, _, rfl, lx, b0.2.app d1, (by rw [List.length_append]; omega), fun se H5 hse s5 lse => ?_⟩⟩
    walk_at "tw nf"
    have b1 := hash_b32 (C ++ Sd16.IDENTIFIER)
    generalize Sd16.hash (C ++ Sd16.IDENTIFIER) = D at q' lse b1
    have dl := b1.1
    have s15 : Same H H5 := s1.trans (s2.trans (s3.trans (s4.trans s5)))
    refine ⟨_, rfl, _, rfl, _, rfl, se, na, _, _, rfl, rfl, lse, s15 _ _ hN, (by omega), fun y H6 hy s6 ly => ⟨y, _, rfl, ly, b1.2.app bN.2, (by rw [List.length_append]; omega), fun hh H7 hhh s7 lhh => ?_⟩⟩
    intro p dx hp hd hne
    refine ⟨p, dx, _, _, rfl, upd_same, rfl, ?_⟩
    rw [upd_upd]
    have s17 := s15.trans (s6.trans s7)
    have sm := made_same (C := A.c_Mixer) (fs := mixF (.ref ch) (.ref hh)) hp hd
    exact q' p _ (s17.free hp) (s17.trans sm) ⟨dx, ch, hh, upd_same, sm _ _ (s7 _ _ (s6 _ _ (s5 _ _ (s4 _ _ (s3 _ _ lch))))), sm _ _ lhh, b0, hash_b32 _⟩
def hsF (a b c : V) : List (Str × V) := [("mine", a), ("moment", b), ("mixer", c)]
def grF (a b c d : V) : List (Str × V) := [("theirs", a), ("point", b), ("stamp", c), ("mixer", d)]
def idF (a b c d e : V) : List (Str × V) := [("secret", a), ("own", b), ("peer", c), ("psk", d), ("shared", e)]
def seF (a b c d e f g : V) : List (Str × V) := [("mine", a), ("theirs", b), ("sending_key", c), ("opening_key", d), ("next_number", e), ("greatest", f), ("got", g)]
def sp_Handshake___init__ (K : PySem.W.Frag) (A : Ad) : Sp := fun vs H Q _ => ∃ (p dx : Addr) (a b c : V), vs = [.ref p, a, b, c] ∧ H p = some (.ins A.c_Handshake dx []) ∧ Q .non (upd H p (.ins A.c_Handshake dx (hsF a b c)))
def sp_Greeting___init__ (K : PySem.W.Frag) (A : Ad) : Sp := fun vs H Q _ => ∃ (p dx : Addr) (a b c d : V), vs = [.ref p, a, b, c, d] ∧ H p = some (.ins A.c_Greeting dx []) ∧ Q .non (upd H p (.ins A.c_Greeting dx (grF a b c d)))
def sp_Session___init__ (K : PySem.W.Frag) (A : Ad) : Sp := fun vs H Q _ => ∃ (p dx : Addr) (a b c d : V), vs = [.ref p, a, b, c, d] ∧ H p = some (.ins A.c_Session dx []) ∧
  ∀ g, H g = none → Q .non (upd (upd H g (.dK [])) p (.ins A.c_Session dx (seF a b c d (.int ((0 : Nat) : Int)) (.int (-1)) (.ref g))))
theorem sc_Handshake___init__ : FnScope ["self", "mine", "moment", "mixer"] ["self", "mine", "moment", "mixer"] (defScope s_Handshake___init__) := ⟨by kernel_rfl, by kernel_rfl, by kernel_rfl, by decide +kernel, by kernel_rfl, by decide +kernel, by decide +kernel⟩
theorem ok_Handshake___init__ {P : Program} {w : World} {K : PySem.W.Frag} {mg : Str → Option Value} {base : Heap} {A : Ad} (T : Tx K mg A) : FnOk P w K mg base CX0 1 A.f_Handshake___init__ A.d_Handshake___init__ ["self", "mine", "moment", "mixer"] (sp_Handshake___init__ K A) := by
  have nd := sc_Handshake___init__.nd
  refine T.F_Handshake___init__.fn.ok sc_Handshake___init__ (fun vs H Q E h => ?_) (fun cdv A' outer s H vs Q E hr h => ?_)
  · obtain ⟨p, dx, a, b, c, rfl, _⟩ := h
    rfl
  · obtain ⟨p, dx, a, b, c, rfl, hp, q⟩ := h
    refine ⟨_, (pss_cons (ps_fldA (pv 0) (pv 1) (by rfl) T.C_Handshake.cl (T.C_Handshake.na _ (.head _)))
      (pss_cons (ps_fldA (pv 0) (pv 2) (by rfl) T.C_Handshake.cl (T.C_Handshake.na _ (.tail _ (.head _))))
      (pss_one (ps_fldA (pv 0) (pv 3) (by rfl) T.C_Handshake.cl (T.C_Handshake.na _ (.tail _ (.tail _ (.head _)))))))), ?_⟩
    refine ⟨_, rfl, _, rfl, p, dx, _, rfl, hp, (by decide), ?_⟩
    refine ⟨_, rfl, _, rfl, p, dx, _, rfl, upd_same, (by show 1 < 1000; decide), ?_⟩
    refine ⟨_, rfl, _, rfl, p, dx, _, rfl, upd_same, (by show 2 < 1000; decide), ?_⟩
    rw [upd_upd, upd_upd]
    exact q
theorem sc_Greeting___init__ : FnScope ["self", "theirs", "point", "stamp", "mixer"] ["self", "theirs", "point", "stamp", "mixer"] (defScope s_Greeting___init__) := ⟨by kernel_rfl, by kernel_rfl, by kernel_rfl, by decide +kernel, by kernel_rfl, by decide +kernel, by decide +kernel⟩
theorem ok_Greeting___init__ {P : Program} {w : World} {K : PySem.W.Frag} {mg : Str → Option Value} {base : Heap} {A : Ad} (T : Tx K mg A) : FnOk P w K mg base CX0 1 A.f_Greeting___init__ A.d_Greeting___init__ ["self", "theirs", "point", "stamp", "mixer"] (sp_Greeting___init__ K A) := by
  have nd := sc_Greeting___init__.nd
  refine T.F_Greeting___init__.fn.ok sc_Greeting___init__ (fun vs H Q E h => ?_) (fun cdv A' outer s H vs Q E hr h => ?_)
  · obtain ⟨p, dx, a, b, c, d, rfl, _⟩ := h
    rfl
  · obtain ⟨p, dx, a, b, c, d, rfl, hp, q⟩ := h
    refine ⟨_, (pss_cons (ps_fldA (pv 0) (pv 1) (by rfl) T.C_Greeting.cl (T.C_Greeting.na _ (.head _)))
      (pss_cons (ps_fldA (pv 0) (pv 2) (by rfl) T.C_Greeting.cl (T.C_Greeting.na _ (.tail _ (.head _))))
      (pss_cons (ps_fldA (pv 0) (pv 3) (by rfl) T.C_Greeting.cl (T.C_Greeting.na _ (.tail _ (.tail _ (.head _)))))
      (pss_one (ps_fldA (pv 0) (pv 4) (by rfl) T.C_Greeting.cl (T.C_Greeting.na _ (.tail _ (.tail _ (.tail _ (.head _)))))))))), ?_⟩
    refine ⟨_, rfl, _, rfl, p, dx, _, rfl, hp, (by decide), ?_⟩
    refine ⟨_, rfl, _, rfl, p, dx, _, rfl, upd_same, (by show 1 < 1000; decide), ?_⟩
    refine ⟨_, rfl, _, rfl, p, dx, _, rfl, upd_same, (by show 2 < 1000; decide), ?_⟩
    refine ⟨_, rfl, _, rfl, p, dx, _, rfl, upd_same, (by show 3 < 1000; decide), ?_⟩
    rw [upd_upd, upd_upd, upd_upd]
    exact q
theorem sc_Session___init__ : FnScope ["self", "mine", "theirs", "sending_key", "opening_key"] ["self", "mine", "theirs", "sending_key", "opening_key"] (defScope s_Session___init__) := ⟨by kernel_rfl, by kernel_rfl, by kernel_rfl, by decide +kernel, by kernel_rfl, by decide +kernel, by decide +kernel⟩
theorem ok_Session___init__ {P : Program} {w : World} {K : PySem.W.Frag} {mg : Str → Option Value} {base : Heap} {A : Ad} (T : Tx K mg A) : FnOk P w K mg base CX0 1 A.f_Session___init__ A.d_Session___init__ ["self", "mine", "theirs", "sending_key", "opening_key"] (sp_Session___init__ K A) := by
  have nd := sc_Session___init__.nd
  refine T.F_Session___init__.fn.ok sc_Session___init__ (fun vs H Q E h => ?_) (fun cdv A' outer s H vs Q E hr h => ?_)
  · obtain ⟨p, dx, a, b, c, d, rfl, _⟩ := h
    rfl
  · obtain ⟨p, dx, a, b, c, d, rfl, hp, q⟩ := h
    refine ⟨_, (pss_cons (ps_fldA (pv 0) (pv 1) (by rfl) T.C_Session.cl (T.C_Session.na _ (.head _)))
      (pss_cons (ps_fldA (pv 0) (pv 2) (by rfl) T.C_Session.cl (T.C_Session.na _ (.tail _ (.head _))))
      (pss_cons (ps_fldA (pv 0) (pv 3) (by rfl) T.C_Session.cl (T.C_Session.na _ (.tail _ (.tail _ (.head _)))))
      (pss_cons (ps_fldA (pv 0) (pv 4) (by rfl) T.C_Session.cl (T.C_Session.na _ (.tail _ (.tail _ (.tail _ (.head _))))))
      (pss_cons (ps_fldA (pv 0) (pe_nat 0) (by rfl) T.C_Session.cl (T.C_Session.na _ (.tail _ (.tail _ (.tail _ (.tail _ (.head _)))))))
      (pss_cons (ps_fldA (pv 0) (pe_un un_neg pe_int) (by rfl) T.C_Session.cl (T.C_Session.na _ (.tail _ (.tail _ (.tail _ (.tail _ (.tail _ (.head _))))))))
      (pss_one (ps_fldA (pv 0) pe_dnewK (by rfl) T.C_Session.cl (T.C_Session.na _ (.tail _ (.tail _ (.tail _ (.tail _ (.tail _ (.tail _ (.head _)))))))))))))))), ?_⟩
    refine ⟨_, rfl, _, rfl, p, dx, _, rfl, hp, (by decide), ?_⟩
    refine ⟨_, rfl, _, rfl, p, dx, _, rfl, upd_same, (by show 1 < 1000; decide), ?_⟩
    refine ⟨_, rfl, _, rfl, p, dx, _, rfl, upd_same, (by show 2 < 1000; decide), ?_⟩
    refine ⟨_, rfl, _, rfl, p, dx, _, rfl, upd_same, (by show 3 < 1000; decide), ?_⟩
    refine ⟨_, rfl, p, dx, _, rfl, upd_same, (by show 4 < 1000; decide), ?_⟩
    refine ⟨_, rfl, _, rfl, p, dx, _, rfl, upd_same, (by show 5 < 1000; decide), ?_⟩
    rw [upd_upd, upd_upd, upd_upd, upd_upd, upd_upd]
    intro g hg
    have ng : p ≠ g := fun e => by
      subst e
      rw [upd_same] at hg; cases hg
    rw [upd_ne ng.symm] at hg
    refine ⟨_, rfl, p, dx, _, rfl, (by rw [upd_ne ng, upd_same]), (by show 6 < 1000; decide), ?_⟩
    have e : ∀ o o' g', upd (upd (upd H p o) g g') p o' = upd (upd H g g') p o' := fun o o' g' => by
      funext b
      unfold upd
      by_cases h1 : b = p
      · simp [h1]
      · by_cases h2 : b = g
        · simp [h1, h2]
        · simp [h1, h2]
    rw [e]
    exact q g hg
end Tw
namespace Tw
open PySem L2
open Sd16 (number little)
theorem id_secret (a b c d e : V) : (idF a b c d e).lookup ("secret" : Str) = some a := by kernel_rfl
theorem id_own (a b c d e : V) : (idF a b c d e).lookup ("own" : Str) = some b := by kernel_rfl
theorem id_peer (a b c d e : V) : (idF a b c d e).lookup ("peer" : Str) = some c := by kernel_rfl
theorem id_psk (a b c d e : V) : (idF a b c d e).lookup ("psk" : Str) = some d := by kernel_rfl
theorem id_shared (a b c d e : V) : (idF a b c d e).lookup ("shared" : Str) = some e := by kernel_rfl
theorem hs_mine (a b c : V) : (hsF a b c).lookup ("mine" : Str) = some a := by kernel_rfl
theorem hs_moment (a b c : V) : (hsF a b c).lookup ("moment" : Str) = some b := by kernel_rfl
theorem hs_mixer (a b c : V) : (hsF a b c).lookup ("mixer" : Str) = some c := by kernel_rfl
theorem gr_theirs (a b c d : V) : (grF a b c d).lookup ("theirs" : Str) = some a := by kernel_rfl
theorem gr_point (a b c d : V) : (grF a b c d).lookup ("point" : Str) = some b := by kernel_rfl
theorem gr_stamp (a b c d : V) : (grF a b c d).lookup ("stamp" : Str) = some c := by kernel_rfl
theorem gr_mixer (a b c d : V) : (grF a b c d).lookup ("mixer" : Str) = some d := by kernel_rfl
structure IdAt (A : Ad) (H : Hp) (p : Addr) (s pe k : List Nat) : Prop where
  ob : ∃ dx a b c d e, H p = some (.ins A.c_Identity dx (idF (.ref a) (.ref b) (.ref c) (.ref d) (.ref e))) ∧ LH H a s ∧ LH H b (Sd16.publicOf s) ∧ LH H c pe ∧ LH H d k ∧ LH H e (Sd16.agree s pe)
  b1 : B32 s
  b2 : B32 pe
  b3 : B32 k
theorem IdAt.same {A : Ad} {H H' : Hp} {p : Addr} {s pe k : List Nat} (m : IdAt A H p s pe k) (sm : Same H H') : IdAt A H' p s pe k := by
  obtain ⟨⟨dx, a, b, c, d, e, h, h1, h2, h3, h4, h5⟩, r1, r2, r3⟩ := m
  exact ⟨⟨dx, a, b, c, d, e, sm _ _ h, sm _ _ h1, sm _ _ h2, sm _ _ h3, sm _ _ h4, sm _ _ h5⟩, r1, r2, r3⟩
theorem IdAt.but {A : Ad} {H H' : Hp} {p q : Addr} {s pe k : List Nat} (m : IdAt A H p s pe k) (u : SameBut q H H') (hq : InsAt H q) (n : p ≠ q) : IdAt A H' p s pe k := by
  obtain ⟨⟨dx, a, b, c, d, e, h, h1, h2, h3, h4, h5⟩, r1, r2, r3⟩ := m
  exact ⟨⟨dx, a, b, c, d, e, u _ _ n h, u.lst hq h1, u.lst hq h2, u.lst hq h3, u.lst hq h4, u.lst hq h5⟩, r1, r2, r3⟩
theorem IdAt.ne_mix {A : Ad} {H : Hp} {p q : Addr} {s pe k c h : List Nat} (m : IdAt A H p s pe k) (x : MixAt A H q c h) : p ≠ q := by
  obtain ⟨dx, a, b, c, d, e, h, _⟩ := m.ob
  obtain ⟨dy, ca, ha, h', _⟩ := x
  exact ne_len h h' (by show 5 ≠ 2; decide)
def sp_Identity___init__ (K : PySem.W.Frag) (A : Ad) : Sp := fun vs H Q _ => ∃ (p dx sa : Addr) (s : List Nat) (pe ps sh : V), vs = [.ref p, .ref sa, pe, ps, sh] ∧ H p = some (.ins A.c_Identity dx []) ∧ LH H sa s ∧ B32 s ∧
  ∀ oa H', SameBut p H H' → LH H' oa (Sd16.publicOf s) → H' p = some (.ins A.c_Identity dx (idF (.ref sa) (.ref oa) pe ps sh)) → Q .non H'
def sp_identity_with (K : PySem.W.Frag) (A : Ad) : Sp := fun vs H Q _ => ∃ (sa pa ka : Addr) (s pe k : List Nat), vs = [.ref sa, .ref pa, .ref ka] ∧ LH H sa s ∧ LH H pa pe ∧ LH H ka k ∧ B32 s ∧ B32 pe ∧ B32 k ∧
  (∀ nb : Bool, nb = Sd16.nothing (Sd16.agree s pe) → if nb = true then RetV H .non Q else ∀ r H', H r = none → Same H H' → IdAt A H' r s pe k → Q (.ref r) H')
theorem sc_Identity___init__ : FnScope ["self", "secret", "peer", "psk", "shared"] ["self", "secret", "peer", "psk", "shared"] (defScope s_Identity___init__) := ⟨by kernel_rfl, by kernel_rfl, by kernel_rfl, by decide +kernel, by kernel_rfl, by decide +kernel, by decide +kernel⟩
theorem ok_Identity___init__ {P : Program} {w : World} {K : PySem.W.Frag} {mg : Str → Option Value} {base : Heap} {A : Ad} (T : Tx K mg A) : FnOk P w K mg base CX0 5 A.f_Identity___init__ A.d_Identity___init__ ["self", "secret", "peer", "psk", "shared"] (sp_Identity___init__ K A) := by
  have G_public := ok_public (P := P) (w := w) (base := base) T
  have nd := sc_Identity___init__.nd
  refine T.F_Identity___init__.fn.ok sc_Identity___init__ (fun vs H Q E h => ?_) (fun cdv A' outer s H vs Q E hr h => ?_)
  · obtain ⟨p, dx, sa, s, pe, ps, sh, rfl, _⟩ := h
    rfl
  · obtain ⟨p, dx, sa, s, pe, ps, sh, rfl, hp, hs, bs', q⟩ := h
    refine ⟨_, (pss_cons (ps_fldA (pv 0) (pv 1) (by rfl) T.C_Identity.cl (T.C_Identity.na _ (.head _)))
      (pss_cons (ps_fldA (pv 0) (pe_call G_public (hr.mono (by decide)) (gl_of (by kernel_rfl)) T.F_public.mg T.F_public.kp T.F_public.bd .nil pass0 (pa_cons (pv 1) pa_nil)) (by rfl) T.C_Identity.cl (T.C_Identity.na _ (.tail _ (.head _))))
      (pss_cons (ps_fldA (pv 0) (pv 2) (by rfl) T.C_Identity.cl (T.C_Identity.na _ (.tail _ (.tail _ (.head _)))))
      (pss_cons (ps_fldA (pv 0) (pv 3) (by rfl) T.C_Identity.cl (T.C_Identity.na _ (.tail _ (.tail _ (.tail _ (.head _))))))
      (pss_one (ps_fldA (pv 0) (pv 4) (by rfl) T.C_Identity.cl (T.C_Identity.na _ (.tail _ (.tail _ (.tail _ (.tail _ (.head _)))))))))))), ?_⟩
    refine ⟨_, rfl, _, rfl, p, dx, _, rfl, hp, (by decide), ?_⟩
    have i0 : InsAt H p := ⟨_, _, _, hp⟩
    have hs1 : LH (upd H p (.ins A.c_Identity dx (putF "secret" (.ref sa) []))) sa s := by
      show upd _ p _ sa = _
      rw [upd_ne (ne_ins i0 hs)]; exact hs
    refine ⟨_, rfl, sa, s, rfl, hs1, bs'.2, bs'.1, fun oa H2 hoa s2 loa => ?_⟩
    have u2 : SameBut p H H2 := (but_upd (fun _ _ _ h => h)).trans (s2.but p)
    have hp2 := s2 _ _ (upd_same (H := H) (a := p) (o := .ins A.c_Identity dx (putF "secret" (.ref sa) [])))
    have i2 : InsAt H2 p := ⟨_, _, _, hp2⟩
    refine ⟨_, rfl, p, dx, _, rfl, hp2, (by show 1 < 1000; decide), ?_⟩
    refine ⟨_, rfl, _, rfl, p, dx, _, rfl, upd_same, (by show 2 < 1000; decide), ?_⟩
    refine ⟨_, rfl, _, rfl, p, dx, _, rfl, upd_same, (by show 3 < 1000; decide), ?_⟩
    refine ⟨_, rfl, _, rfl, p, dx, _, rfl, upd_same, (by show 4 < 1000; decide), ?_⟩
    rw [upd_upd, upd_upd, upd_upd]
    refine q oa _ (but_upd u2) ?_ upd_same
    show upd _ p _ oa = _
    rw [upd_ne (ne_ins i2 loa)]; exact loa
theorem sc_identity_with : FnScope ["secret", "peer", "psk", "shared"] ["secret", "peer", "psk"] (defScope s_identity_with) := ⟨by kernel_rfl, by kernel_rfl, by kernel_rfl, by decide +kernel, by kernel_rfl, by decide +kernel, by decide +kernel⟩
theorem ok_identity_with {P : Program} {w : World} {K : PySem.W.Frag} {mg : Str → Option Value} {base : Heap} {A : Ad} (T : Tx K mg A) : FnOk P w K mg base CX0 7 A.f_identity_with A.d_identity_with ["secret", "peer", "psk"] (sp_identity_with K A) := by
  have G_agreed := ok_agreed (P := P) (w := w) (base := base) T
  have G_worth_nothing := ok_worth_nothing (P := P) (w := w) (base := base) T
  have G_Identity___init__ := ok_Identity___init__ (P := P) (w := w) (base := base) T
  have nd := sc_identity_with.nd
  refine T.F_identity_with.fn.ok sc_identity_with (fun vs H Q E h => ?_) (fun cdv A' outer s H vs Q E hr h => ?_)
  · obtain ⟨sa, pa, ka, s, pe, k, rfl, _⟩ := h
    rfl
  · obtain ⟨sa, pa, ka, s, pe, k, rfl, hS, hP, hK, bS, bP, bK, q0⟩ := h
    obtain ⟨nb, hnb⟩ : ∃ nb : Bool, nb = Sd16.nothing (Sd16.agree s pe) := ⟨Sd16.nothing (Sd16.agree s pe), rfl⟩
    have q := q0 nb hnb
    clear q0
    refine ⟨_, (pss_cons (ps_set (i := 3) nd (by rfl) (Or.inl (by rfl)) (pe_call G_agreed (hr.mono (by decide)) (gl_of (by kernel_rfl)) T.F_agreed.mg T.F_agreed.kp T.F_agreed.bd .nil pass0 (pa_cons (pv 0) (pa_cons (pv 1) pa_nil))))
      (pss_cons (ps_if (pt_val (pe_call G_worth_nothing (hr.mono (by decide)) (gl_of (by kernel_rfl)) T.F_worth_nothing.mg T.F_worth_nothing.kp T.F_worth_nothing.bd .nil pass0 (pa_cons (pv 3) pa_nil)) (by intro _; rfl)) (pss_one (ps_ret pe_non)) pss_nil)
      (pss_one (ps_ret (pe_make T.C_Identity.mkc G_Identity___init__ (hr.mono (by decide)) (gl_of (by kernel_rfl)) T.C_Identity.mg T.F_Identity___init__.bd .nil pass0 (pa_cons (pv 0) (pa_cons (pv 1) (pa_cons (pv 2) (pa_cons (pv 3) pa_nil))))))))), ?_⟩
    walk_at "tw nf"
    refine ⟨_, rfl, _, rfl, sa, pa, s, pe, rfl, hS, hP, bS.2, bP.2, bS.1, bP.1, fun sh H1 hsh s1 lsh => ?_⟩
    walk_at "tw nf"
    have gl := (agree_b32 s pe).1
    obtain ⟨ag, hag⟩ : ∃ ag, ag = Sd16.agree s pe := ⟨_, rfl⟩
    rw [← hag] at lsh hnb gl
    refine ⟨_, rfl, sh, _, rfl, lsh, (by omega), fun H2 s2 => ⟨_, rfl, ?_⟩⟩
    rw [← hnb]
    cases nb with
    | true =>
      rw [if_pos rfl] at q
      exact iteT (q _ (s1.trans s2))
    | false =>
      rw [if_neg (by decide)] at q
      have s12 := s1.trans s2
      refine iteF ⟨_, rfl, _, rfl, _, rfl, _, rfl, ?_⟩
      intro p dx hp hd hne
      have sm0 := made_same (C := A.c_Identity) (fs := []) hp hd
      refine ⟨p, dx, sa, s, _, _, _, rfl, upd_same, sm0 _ _ (s12 _ _ hS), bS, fun oa H' u lo e => ⟨rfl, ?_⟩⟩
      have sm : Same H2 H' := SameBut.new sm0 hp u
      have st := s12.trans sm
      exact q p H' (s12.free hp) st ⟨⟨dx, sa, oa, pa, ka, sh, e, st _ _ hS, lo, st _ _ hP, st _ _ hK, by rw [← hag]; exact sm _ _ (s2 _ _ lsh)⟩, bS, bP, bK⟩
end Tw
namespace Tw
open PySem L2
open Sd16 (number little u32)
structure Env1 (A : Ad) (H : Hp) (i h mx ma sa dxh : Addr) (s pe k e stamp : List Nat) (mine : Nat) : Prop where
  id : IdAt A H i s pe k
  hs : H h = some (.ins A.c_Handshake dxh (hsF (.int mine) (.ref ma) (.ref mx)))
  mo : LH H ma e
  st : LH H sa stamp
theorem Env1.but {A : Ad} {H H' : Hp} {i h mx ma sa dxh : Addr} {s pe k e stamp c hh : List Nat} {mine : Nat} (x : Env1 A H i h mx ma sa dxh s pe k e stamp mine) (u : SameBut mx H H') (m : MixAt A H mx c hh) : Env1 A H' i h mx ma sa dxh s pe k e stamp mine := by
  have im := m.ins
  have n1 := x.id.ne_mix m
  obtain ⟨dx, ca, ha, em, _⟩ := m
  exact ⟨x.id.but u im n1, u _ _ (ne_len x.hs em (by show 3 ≠ 2; decide)) x.hs, u.lst im x.mo, u.lst im x.st⟩
theorem begin_eq (t : Sd16.End) (e : List Nat) (mine : Nat) (stamp : List Nat) {p c1 h1 s h2 w h3 m : List Nat} {x y : List Nat × List Nat} (hp : p = Sd16.publicOf e) (hc1 : c1 = Sd16.key1 C0 p) (hh1 : h1 = Sd16.hash (H0 t.peer ++ p)) (hx : x = Sd16.two c1 (Sd16.agree e t.peer)) (hs : s = Sd16.sealed x.2 0 (Sd16.publicOf t.secret) h1)
    (hh2 : h2 = Sd16.hash (h1 ++ s)) (hy : y = Sd16.two x.1 (Sd16.agree t.secret t.peer)) (hw : w = Sd16.sealed y.2 0 stamp h2) (hh3 : h3 = Sd16.hash (h2 ++ w)) (hm : m = little 4 1 ++ u32 mine ++ p ++ s ++ w) :
    Sd16.begin_ t e mine stamp = (m ++ (Sd16.mac1 t.peer m ++ List.replicate 16 0), ⟨mine, y.1, h3, e⟩) := by
  have e1 : m = [1, 0, 0, 0] ++ (u32 mine ++ (p ++ (s ++ w))) := by
    rw [hm, show little 4 1 = [1, 0, 0, 0] by decide]
    simp only [List.append_assoc]
  have c0 : Sd16.hash Sd16.CONSTRUCTION = C0 := by rw [C0]
  have h0 : Sd16.hash (Sd16.hash (C0 ++ Sd16.IDENTIFIER) ++ t.peer) = H0 t.peer := by rw [H0]
  simp only [Sd16.begin_, c0, h0, ← hp, ← hc1, ← hh1, ← hx, ← hs, ← hh2, ← hy, ← hw, ← hh3, ← e1]
def sp_new_handshake (K : PySem.W.Frag) (A : Ad) : Sp := fun vs H Q _ => ∃ (i ma : Addr) (s pe k : List Nat) (mine : Nat), vs = [.ref i, .int mine, .ref ma] ∧ IdAt A H i s pe k ∧
  ∀ r mx dx H', H r = none → H mx = none → Same H H' → H' r = some (.ins A.c_Handshake dx (hsF (.int mine) (.ref ma) (.ref mx))) → MixAt A H' mx C0 (H0 pe) → Q (.ref r) H'
def sp_first_message (K : PySem.W.Frag) (A : Ad) : Sp := fun vs H Q _ => ∃ (i h sa mx ma dxh : Addr) (t : Sd16.End) (e stamp : List Nat) (mine : Nat), vs = [.ref i, .ref h, .ref sa] ∧ Env1 A H i h mx ma sa dxh t.secret t.peer t.psk e stamp mine ∧ B32 e ∧ MixAt A H mx C0 (H0 t.peer) ∧ Byt stamp ∧ stamp.length = 12 ∧
  ∀ r H', SameBut mx H H' → MixAt A H' mx (Sd16.begin_ t e mine stamp).2.c (Sd16.begin_ t e mine stamp).2.h → LH H' r (Sd16.begin_ t e mine stamp).1 → Q (.ref r) H'
theorem sc_new_handshake : FnScope ["identity", "mine", "moment"] ["identity", "mine", "moment"] (defScope s_new_handshake) := ⟨by kernel_rfl, by kernel_rfl, by kernel_rfl, by decide +kernel, by kernel_rfl, by decide +kernel, by decide +kernel⟩
theorem ok_new_handshake {P : Program} {w : World} {K : PySem.W.Frag} {mg : Str → Option Value} {base : Heap} {A : Ad} (T : Tx K mg A) : FnOk P w K mg base CX0 7 A.f_new_handshake A.d_new_handshake ["identity", "mine", "moment"] (sp_new_handshake K A) := by
  have G_Handshake___init__ := ok_Handshake___init__ (P := P) (w := w) (base := base) T
  have G_mixer_towards := ok_mixer_towards (P := P) (w := w) (base := base) T
  have nd := sc_new_handshake.nd
  refine T.F_new_handshake.fn.ok sc_new_handshake (fun vs H Q E h => ?_) (fun cdv A' outer s H vs Q E hr h => ?_)
  · obtain ⟨i, ma, s, pe, k, mine, rfl, _⟩ := h
    rfl
  · obtain ⟨i, ma, s, pe, k, mine, rfl, I, q⟩ := h
    refine ⟨_, (pss_one (ps_ret (pe_make T.C_Handshake.mkc G_Handshake___init__ (hr.mono (by decide)) (gl_of (by kernel_rfl)) T.C_Handshake.mg T.F_Handshake___init__.bd .nil pass0 (pa_cons (pv 1) (pa_cons (pv 2) (pa_cons (pe_call G_mixer_towards (hr.mono (by decide)) (gl_of (by kernel_rfl)) T.F_mixer_towards.mg T.F_mixer_towards.kp T.F_mixer_towards.bd .nil pass0 (pa_cons (pe_fldA (pv 0) (by rfl) T.C_Identity.cl (T.C_Identity.na _ (.tail _ (.tail _ (.head _))))) pa_nil)) pa_nil)))))), ?_⟩
    obtain ⟨dx, a, b, c, d, e, ei, h1, h2, h3, h4, h5⟩ := I.ob
    refine ⟨_, rfl, _, rfl, _, rfl, i, dx, _, _, rfl, ei, id_peer _ _ _ _ _, c, pe, rfl, h3, I.b2, fun mx H1 hmx s1 m1 => ?_⟩
    intro p dp hp hd hne
    refine ⟨p, dp, _, _, _, rfl, upd_same, rfl, ?_⟩
    rw [upd_upd]
    have sm := made_same (C := A.c_Handshake) (fs := hsF (.int mine) (.ref ma) (.ref mx)) hp hd
    exact q p mx dp _ (s1.free hp) hmx (s1.trans sm) upd_same (m1.same sm)
theorem sc_first_message : FnScope ["identity", "handshake", "stamp", "mixer", "point", "key", "who", "when", "before"] ["identity", "handshake", "stamp"] (defScope s_first_message) := ⟨by kernel_rfl, by kernel_rfl, by kernel_rfl, by decide +kernel, by kernel_rfl, by decide +kernel, by decide +kernel⟩
theorem ok_first_message {P : Program} {w : World} {K : PySem.W.Frag} {mg : Str → Option Value} {base : Heap} {A : Ad} (T : Tx K mg A) : FnOk P w K mg base CX0 9 A.f_first_message A.d_first_message ["identity", "handshake", "stamp"] (sp_first_message K A) := by
  have G_public := ok_public (P := P) (w := w) (base := base) T
  have G_Mixer_stir := ok_Mixer_stir (P := P) (w := w) (base := base) T
  have G_Mixer_absorb := ok_Mixer_absorb (P := P) (w := w) (base := base) T
  have G_Mixer_stir_for_key := ok_Mixer_stir_for_key (P := P) (w := w) (base := base) T
  have G_agreed := ok_agreed (P := P) (w := w) (base := base) T
  have G_seal := ok_seal (P := P) (w := w) (base := base) T
  have G_head := ok_head (P := P) (w := w) (base := base) T
  have G_octets_of := ok_octets_of (P := P) (w := w) (base := base) T
  have G_marked := ok_marked (P := P) (w := w) (base := base) T
  have nd := sc_first_message.nd
  refine T.F_first_message.fn.ok sc_first_message (fun vs H Q E h => ?_) (fun cdv A' outer s H vs Q E hr h => ?_)
  · obtain ⟨i, h, sa, mx, ma, dxh, t, e, stamp, mine, rfl, _⟩ := h
    rfl
  · obtain ⟨i, h, sa, mx, ma, dxh, t, e, stamp, mine, rfl, X, bE, m0, bS, lS, q⟩ := h
    refine ⟨_, (pss_cons (ps_set (i := 3) nd (by rfl) (Or.inl (by rfl)) (pe_fldA (pv 1) (by rfl) T.C_Handshake.cl (T.C_Handshake.na _ (.tail _ (.tail _ (.head _))))))
      (pss_cons (ps_set (i := 4) nd (by rfl) (Or.inl (by rfl)) (pe_call G_public (hr.mono (by decide)) (gl_of (by kernel_rfl)) T.F_public.mg T.F_public.kp T.F_public.bd .nil pass0 (pa_cons (pe_fldA (pv 1) (by rfl) T.C_Handshake.cl (T.C_Handshake.na _ (.tail _ (.head _)))) pa_nil)))
      (pss_cons (ps_expr (pe_meth (pv 3) T.C_Mixer.cl T.F_Mixer_stir.mt G_Mixer_stir (hr.mono (by decide)) T.F_Mixer_stir.bd .nil pass0 (pa_cons (pv 4) pa_nil)))
      (pss_cons (ps_expr (pe_meth (pv 3) T.C_Mixer.cl T.F_Mixer_absorb.mt G_Mixer_absorb (hr.mono (by decide)) T.F_Mixer_absorb.bd .nil pass0 (pa_cons (pv 4) pa_nil)))
      (pss_cons (ps_set (i := 5) nd (by rfl) (Or.inl (by rfl)) (pe_meth (pv 3) T.C_Mixer.cl T.F_Mixer_stir_for_key.mt G_Mixer_stir_for_key (hr.mono (by decide)) T.F_Mixer_stir_for_key.bd .nil pass0 (pa_cons (pe_call G_agreed (hr.mono (by decide)) (gl_of (by kernel_rfl)) T.F_agreed.mg T.F_agreed.kp T.F_agreed.bd .nil pass0 (pa_cons (pe_fldA (pv 1) (by rfl) T.C_Handshake.cl (T.C_Handshake.na _ (.tail _ (.head _)))) (pa_cons (pe_fldA (pv 0) (by rfl) T.C_Identity.cl (T.C_Identity.na _ (.tail _ (.tail _ (.head _))))) pa_nil))) pa_nil)))
      (pss_cons (ps_set (i := 6) nd (by rfl) (Or.inl (by rfl)) (pe_call G_seal (hr.mono (by decide)) (gl_of (by kernel_rfl)) T.F_seal.mg T.F_seal.kp T.F_seal.bd .nil pass0 (pa_cons (pv 5) (pa_cons (pe_nat 0) (pa_cons (pe_fldA (pv 0) (by rfl) T.C_Identity.cl (T.C_Identity.na _ (.tail _ (.head _)))) (pa_cons (pe_fldA (pv 3) (by rfl) T.C_Mixer.cl (T.C_Mixer.na _ (.tail _ (.head _)))) pa_nil))))))
      (pss_cons (ps_expr (pe_meth (pv 3) T.C_Mixer.cl T.F_Mixer_absorb.mt G_Mixer_absorb (hr.mono (by decide)) T.F_Mixer_absorb.bd .nil pass0 (pa_cons (pv 6) pa_nil)))
      (pss_cons (ps_set (i := 5) nd (by rfl) (Or.inl (by rfl)) (pe_meth (pv 3) T.C_Mixer.cl T.F_Mixer_stir_for_key.mt G_Mixer_stir_for_key (hr.mono (by decide)) T.F_Mixer_stir_for_key.bd .nil pass0 (pa_cons (pe_fldA (pv 0) (by rfl) T.C_Identity.cl (T.C_Identity.na _ (.tail _ (.tail _ (.tail _ (.tail _ (.head _))))))) pa_nil)))
      (pss_cons (ps_set (i := 7) nd (by rfl) (Or.inl (by rfl)) (pe_call G_seal (hr.mono (by decide)) (gl_of (by kernel_rfl)) T.F_seal.mg T.F_seal.kp T.F_seal.bd .nil pass0 (pa_cons (pv 5) (pa_cons (pe_nat 0) (pa_cons (pv 2) (pa_cons (pe_fldA (pv 3) (by rfl) T.C_Mixer.cl (T.C_Mixer.na _ (.tail _ (.head _)))) pa_nil))))))
      (pss_cons (ps_expr (pe_meth (pv 3) T.C_Mixer.cl T.F_Mixer_absorb.mt G_Mixer_absorb (hr.mono (by decide)) T.F_Mixer_absorb.bd .nil pass0 (pa_cons (pv 7) pa_nil)))
      (pss_cons (ps_set (i := 8) nd (by rfl) (Or.inl (by rfl)) (pe_op op_catN (pe_op op_catN (pe_op op_catN (pe_op op_catN (pe_call G_head (hr.mono (by decide)) (gl_of (by kernel_rfl)) T.F_head.mg T.F_head.kp T.F_head.bd .nil pass0 (pa_cons (pe_const (gl_of (by kernel_rfl)) T.M_FIRST) pa_nil)) (pe_call G_octets_of (hr.mono (by decide)) (gl_of (by kernel_rfl)) T.F_octets_of.mg T.F_octets_of.kp T.F_octets_of.bd .nil pass0 (pa_cons (pe_fldA (pv 1) (by rfl) T.C_Handshake.cl (T.C_Handshake.na _ (.head _))) (pa_cons (pe_nat 4) pa_nil)))) (pv 4)) (pv 6)) (pv 7)))
      (pss_one (ps_ret (pe_call G_marked (hr.mono (by decide)) (gl_of (by kernel_rfl)) T.F_marked.mg T.F_marked.kp T.F_marked.bd .nil pass0 (pa_cons (pv 8) (pa_cons (pe_fldA (pv 0) (by rfl) T.C_Identity.cl (T.C_Identity.na _ (.tail _ (.tail _ (.head _))))) pa_nil)))))))))))))))), ?_⟩
    walk_at "tw nf"
    obtain ⟨p, hp⟩ : ∃ p, p = Sd16.publicOf e := ⟨_, rfl⟩
    obtain ⟨c1, hc1⟩ : ∃ c1, c1 = Sd16.key1 C0 p := ⟨_, rfl⟩
    obtain ⟨h1, hh1⟩ : ∃ h1, h1 = Sd16.hash (H0 t.peer ++ p) := ⟨_, rfl⟩
    obtain ⟨x, hx⟩ : ∃ x, x = Sd16.two c1 (Sd16.agree e t.peer) := ⟨_, rfl⟩
    obtain ⟨sl, hsl⟩ : ∃ sl, sl = Sd16.sealed x.2 0 (Sd16.publicOf t.secret) h1 := ⟨_, rfl⟩
    obtain ⟨h2, hh2⟩ : ∃ h2, h2 = Sd16.hash (h1 ++ sl) := ⟨_, rfl⟩
    obtain ⟨y, hy⟩ : ∃ y, y = Sd16.two x.1 (Sd16.agree t.secret t.peer) := ⟨_, rfl⟩
    obtain ⟨w, hw⟩ : ∃ w, w = Sd16.sealed y.2 0 stamp h2 := ⟨_, rfl⟩
    obtain ⟨h3, hh3⟩ : ∃ h3, h3 = Sd16.hash (h2 ++ w) := ⟨_, rfl⟩
    obtain ⟨m, hm⟩ : ∃ m, m = little 4 1 ++ u32 mine ++ p ++ sl ++ w := ⟨_, rfl⟩
    rw [begin_eq t e mine stamp hp hc1 hh1 hx hsl hh2 hy hw hh3 hm] at q
    have bp : B32 p := by rw [hp]; exact public_b32 e
    have bx : B32 x.1 ∧ B32 x.2 := by rw [hx]; exact two_b32 _ _
    have by' : B32 y.1 ∧ B32 y.2 := by rw [hy]; exact two_b32 _ _
    have bh1 : B32 h1 := by rw [hh1]; exact hash_b32 _
    have bh2 : B32 h2 := by rw [hh2]; exact hash_b32 _
    have bo := public_b32 t.secret
    have sll : sl.length = 48 := by rw [hsl, sealed_len bx.2.2 bx.2.1 (by rw [bo.1]; decide), bo.1]
    have slb : Byt sl := by rw [hsl]; exact sealed_byt bx.2.2 bx.2.1 (by rw [bo.1]; decide) bo.2
    have wl : w.length = 28 := by rw [hw, sealed_len by'.2.2 by'.2.1 (by rw [lS]; decide), lS]
    have wb : Byt w := by rw [hw]; exact sealed_byt by'.2.2 by'.2.1 (by rw [lS]; decide) bS
    have pl := bp.1
    have l1 := bh1.1
    have l2 := bh2.1
    refine ⟨_, rfl, h, dxh, _, _, rfl, X.hs, hs_mixer _ _ _, ?_⟩
    walk_at "tw nf"
    refine ⟨_, rfl, h, dxh, _, _, rfl, X.hs, hs_moment _ _ _, ma, e, rfl, X.mo, bE.2, bE.1, fun pt H1 hpt s1 lpt => ?_⟩
    walk_at "tw nf"
    rw [← hp] at lpt
    have m1 := m0.same s1
    have X1 := X.but (s1.but mx) m0
    obtain ⟨dx1, ca1, ha1, e1, -⟩ := id m1
    refine ⟨_, rfl, mx, dx1, _, rfl, e1, (by kernel_rfl), _, rfl, mx, pt, _, _, p, rfl, m1, lpt, bp.2, (by omega), fun H2 u2 m2 => ?_⟩
    rw [← hc1] at m2
    have lpt2 := u2.lst m1.ins lpt
    have X2 := X1.but u2 m1
    obtain ⟨dx2, ca2, ha2, e2, -⟩ := id m2
    refine ⟨_, rfl, mx, dx2, _, rfl, e2, (by kernel_rfl), _, rfl, mx, pt, _, _, p, rfl, m2, lpt2, bp.2, (by omega), fun H3 u3 m3 => ?_⟩
    rw [← hh1] at m3
    have lpt3 := u3.lst m2.ins lpt2
    have X3 := X2.but u3 m2
    obtain ⟨dx3, ca3, ha3, e3, -⟩ := id m3
    obtain ⟨dI, a1, a2, a3, a4, a5, eI, hI1, hI2, hI3, hI4, hI5⟩ := X3.id.ob
    have ba := agree_b32 e t.peer
    have al := ba.1
    refine ⟨_, rfl, mx, dx3, _, rfl, e3, (by kernel_rfl), _, rfl, h, dxh, _, _, rfl, X3.hs, hs_moment _ _ _, _, rfl, i, dI, _, _, rfl, eI, id_peer _ _ _ _ _, ma, a3, e, t.peer, rfl, X3.mo, hI3, bE.2, X3.id.b2.2, bE.1, X3.id.b2.1, fun ag H4 hag s4 lag => ?_⟩
    have m4 := m3.same s4
    have X4 := X3.but (s4.but mx) m3
    have lpt4 := s4 _ _ lpt3
    refine ⟨mx, ag, _, _, _, rfl, m4, lag, ba.2, (by omega), fun ky H5 u5 m5 lky => ?_⟩
    rw [← hx] at m5 lky
    walk_at "tw nf"
    have X5 := X4.but u5 m4
    have lpt5 := u5.lst m4.ins lpt4
    obtain ⟨dx5, ca5, ha5, e5, -, lh5, -, bh5⟩ := id m5
    obtain ⟨dI, a1, a2, a3, a4, a5, eI, hI1, hI2, hI3, hI4, hI5⟩ := X5.id.ob
    refine ⟨_, rfl, _, rfl, i, dI, _, _, rfl, eI, id_own _ _ _ _ _, _, rfl, mx, dx5, _, _, rfl, e5, mix_seen _ _, ky, a2, ha5, _, _, _, 0, rfl, lky, hI2, lh5, bx.2.2, bo.2, bh5.2, bx.2.1, (by rw [bo.1]; decide), (by rw [bh5.1]; decide), fun wa H6 hwa s6 lwa => ?_⟩
    rw [← hsl] at lwa
    walk_at "tw nf"
    have m6 := m5.same s6
    have X6 := X5.but (s6.but mx) m5
    have lpt6 := s6 _ _ lpt5
    obtain ⟨dx6, ca6, ha6, e6, -⟩ := id m6
    refine ⟨_, rfl, mx, dx6, _, rfl, e6, (by kernel_rfl), _, rfl, mx, wa, _, _, sl, rfl, m6, lwa, slb, (by omega), fun H7 u7 m7 => ?_⟩
    rw [← hh2] at m7
    have X7 := X6.but u7 m6
    have lpt7 := u7.lst m6.ins lpt6
    have lwa7 := u7.lst m6.ins lwa
    obtain ⟨dx7, ca7, ha7, e7, -⟩ := id m7
    obtain ⟨dI, a1, a2, a3, a4, a5, eI, hI1, hI2, hI3, hI4, hI5⟩ := X7.id.ob
    have bsh := agree_b32 t.secret t.peer
    have bshl := bsh.1
    refine ⟨_, rfl, mx, dx7, _, rfl, e7, (by kernel_rfl), _, rfl, i, dI, _, _, rfl, eI, id_shared _ _ _ _ _, mx, a5, _, _, _, rfl, m7, hI5, bsh.2, (by omega), fun k2 H8 u8 m8 lk2 => ?_⟩
    rw [← hy] at m8 lk2
    walk_at "tw nf"
    have X8 := X7.but u8 m7
    have lpt8 := u8.lst m7.ins lpt7
    have lwa8 := u8.lst m7.ins lwa7
    obtain ⟨dx8, ca8, ha8, e8, -, lh8, -, bh8⟩ := id m8
    refine ⟨_, rfl, _, rfl, _, rfl, mx, dx8, _, _, rfl, e8, mix_seen _ _, k2, sa, ha8, _, _, _, 0, rfl, lk2, X8.st, lh8, by'.2.2, bS, bh8.2, by'.2.1, (by omega), (by rw [bh8.1]; decide), fun we H9 hwe s9 lwe => ?_⟩
    rw [← hw] at lwe
    walk_at "tw nf"
    have m9 := m8.same s9
    have X9 := X8.but (s9.but mx) m8
    have lpt9 := s9 _ _ lpt8
    have lwa9 := s9 _ _ lwa8
    obtain ⟨dx9, ca9, ha9, e9, -⟩ := id m9
    refine ⟨_, rfl, mx, dx9, _, rfl, e9, (by kernel_rfl), _, rfl, mx, we, _, _, w, rfl, m9, lwe, wb, (by omega), fun H10 u10 m10 => ?_⟩
    rw [← hh3] at m10
    have X10 := X9.but u10 m9
    have lpt10 := u10.lst m9.ins lpt9
    have lwa10 := u10.lst m9.ins lwa9
    have lwe10 := u10.lst m9.ins lwe
    have U : SameBut mx H H10 := (s1.but mx).trans (u2.trans (u3.trans ((s4.but mx).trans (u5.trans ((s6.but mx).trans (u7.trans (u8.trans ((s9.but mx).trans u10))))))))
    refine ⟨1, rfl, fun hd H11 hhd s11 lhd => ⟨_, rfl, h, dxh, _, _, rfl, s11 _ _ X10.hs, hs_mine _ _ _, mine, 4, rfl, (by decide), fun oc H12 hoc s12 loc => ⟨hd, oc, _, _, rfl, rfl, s12 _ _ lhd, loc, (by rw [little_length, little_length]; decide), fun v1 H13 hv1 s13 lv1 => ?_⟩⟩⟩
    have t3 : Same H10 H13 := s11.trans (s12.trans s13)
    refine ⟨_, rfl, v1, pt, _, _, rfl, rfl, lv1, t3 _ _ lpt10, (by rw [List.length_append, little_length, little_length]; omega), fun v2 H14 hv2 s14 lv2 => ⟨_, rfl, v2, wa, _, _, rfl, rfl, lv2, s14 _ _ (t3 _ _ lwa10), (by simp only [List.length_append, little_length]; omega), fun v3 H15 hv3 s15 lv3 => ⟨_, rfl, v3, we, _, _, rfl, rfl, lv3, s15 _ _ (s14 _ _ (t3 _ _ lwe10)), (by simp only [List.length_append, little_length]; omega), fun bf H16 hbf s16 lbf => ?_⟩⟩⟩
    walk_at "tw nf"
    have t6 : Same H10 H16 := t3.trans (s14.trans (s15.trans s16))
    have lbf' : LH H16 bf m := by rw [hm]; exact lbf
    have bm : Byt m := by rw [hm]; exact ((((little_byt _ _).app (little_byt _ _)).app bp.2).app slb).app wb
    have lm : m.length = 116 := by rw [hm]; simp only [List.length_append, little_length, u32]; omega
    obtain ⟨dI, a1, a2, a3, a4, a5, eI, hI1, hI2, hI3, hI4, hI5⟩ := X10.id.ob
    refine ⟨_, rfl, _, rfl, i, dI, _, _, rfl, t6 _ _ eI, id_peer _ _ _ _ _, bf, a3, m, t.peer, rfl, lbf', t6 _ _ hI3, bm, (by omega), X10.id.b2.2, X10.id.b2.1, fun r H17 hr17 s17 lr => ?_⟩
    have t7 := t6.trans s17
    exact q r H17 (U.trans (t7.but mx)) (m10.same t7) lr
end Tw
namespace Tw
open PySem L2
open Sd16 (number little u32)
def noStamp (t : Sd16.End) : Sd16.End := { t with stamp := none }
theorem readFirst_bad {t : Sd16.End} {m : List Nat} (h : ¬ wellM m (Sd16.publicOf t.secret) 1 148) : Sd16.readFirst (noStamp t) m = none := by
  have e : little 4 1 = [1, 0, 0, 0] := by decide
  unfold Sd16.readFirst
  rw [if_pos]
  show m.length ≠ 148 ∨ m.take 4 ≠ [1, 0, 0, 0] ∨ (m.drop 116).take 16 ≠ Sd16.mac1 (Sd16.publicOf t.secret) (m.take 116)
  unfold wellM at h
  rw [e] at h
  by_cases h1 : m.length = 148
  · by_cases h2 : m.take 4 = [1, 0, 0, 0]
    · exact .inr (.inr fun h3 => h ⟨h1, h2, h3⟩)
    · exact .inr (.inl h2)
  · exact .inl h1
theorem readFirst_good {t : Sd16.End} {m : List Nat} (h : wellM m (Sd16.publicOf t.secret) 1 148) {p s w c1 h1 d h2 : List Nat} {x y : List Nat × List Nat} (hp : p = (m.drop 8).take 32) (hs : s = (m.drop 40).take 48) (hw : w = (m.drop 88).take 28)
    (hc1 : c1 = Sd16.key1 C0 p) (hh1 : h1 = Sd16.hash (H0 (Sd16.publicOf t.secret) ++ p)) (hd : d = Sd16.agree t.secret p) (hx : x = Sd16.two c1 d) (hh2 : h2 = Sd16.hash (h1 ++ s)) (hy : y = Sd16.two x.1 (Sd16.agree t.secret t.peer)) :
    Sd16.readFirst (noStamp t) m = if Sd16.nothing d = true then none else match Sd16.open_ x.2 0 s h1 with
      | none => none
      | some who => if who ≠ t.peer then none else match Sd16.open_ y.2 0 w h2 with
        | none => none
        | some stamp => some (number ((m.drop 4).take 4), p, stamp, y.1, Sd16.hash (h2 ++ w)) := by
  have e : little 4 1 = [1, 0, 0, 0] := by decide
  have c0 : Sd16.hash Sd16.CONSTRUCTION = C0 := by rw [C0]
  have h0 : ∀ n, Sd16.hash (Sd16.hash (C0 ++ Sd16.IDENTIFIER) ++ n) = H0 n := fun n => by rw [H0]
  obtain ⟨w1, w2, w3⟩ := h
  rw [e] at w2
  have w3' : (m.drop 116).take 16 = Sd16.mac1 (Sd16.publicOf t.secret) (m.take 116) := w3
  have hc : ¬ (m.length ≠ 148 ∨ m.take 4 ≠ [1, 0, 0, 0] ∨ (m.drop 116).take 16 ≠ Sd16.mac1 (Sd16.publicOf (noStamp t).secret) (m.take 116)) := by
    rintro (h | h | h)
    · exact h w1
    · exact h w2
    · exact h w3'
  unfold Sd16.readFirst
  rw [if_neg hc]
  have e1 : (noStamp t).secret = t.secret := rfl
  have e2 : (noStamp t).peer = t.peer := rfl
  have e3 : (noStamp t).stamp = none := rfl
  simp only [e1, e2, e3, c0, h0, ← hp, ← hs, ← hw, ← hc1, ← hh1, ← hd, ← hx, ← hh2, ← hy]
  split
  · rfl
  · cases Sd16.open_ x.2 0 s h1 with
    | none => rfl
    | some who =>
      by_cases hne : who ≠ t.peer
      · show (if who ≠ t.peer then none else _) = (if who ≠ t.peer then none else _)
        rw [if_pos hne, if_pos hne]
      · show (if who ≠ t.peer then none else _) = (if who ≠ t.peer then none else _)
        rw [if_neg hne, if_neg hne]
        cases Sd16.open_ y.2 0 w h2 with
        | none => rfl
        | some stamp => rfl
def GrAt (A : Ad) (H : Hp) (r mx : Addr) (theirs : Nat) (p stamp c h : List Nat) : Prop := ∃ pa sa dx, H r = some (.ins A.c_Greeting dx (grF (.int theirs) (.ref pa) (.ref sa) (.ref mx))) ∧ LH H pa p ∧ LH H sa stamp ∧ MixAt A H mx c h ∧ B32 p ∧ stamp.length = 12 ∧ Byt stamp ∧ theirs < 2 ^ 32
def sp_read_first (K : PySem.W.Frag) (A : Ad) : Sp := fun vs H Q _ => ∃ (i a : Addr) (t : Sd16.End) (m : List Nat), vs = [.ref i, .ref a] ∧ IdAt A H i t.secret t.peer t.psk ∧ LH H a m ∧ Byt m ∧ m.length ≤ 70000 ∧
  match Sd16.readFirst (noStamp t) m with
  | none => RetV H .non Q
  | some (theirs, p, stamp, c, h) => ∀ r mx H', H r = none → H mx = none → Same H H' → GrAt A H' r mx theirs p stamp c h → Q (.ref r) H'
theorem sc_read_first : FnScope ["identity", "m", "point", "met", "mixer", "key", "stamp"] ["identity", "m"] (defScope s_read_first) := ⟨by kernel_rfl, by kernel_rfl, by kernel_rfl, by decide +kernel, by kernel_rfl, by decide +kernel, by decide +kernel⟩
theorem ok_read_first {P : Program} {w : World} {K : PySem.W.Frag} {mg : Str → Option Value} {base : Heap} {A : Ad} (T : Tx K mg A) : FnOk P w K mg base CX0 9 A.f_read_first A.d_read_first ["identity", "m"] (sp_read_first K A) := by
  have G_is_well_marked := ok_is_well_marked (P := P) (w := w) (base := base) T
  have G_agreed := ok_agreed (P := P) (w := w) (base := base) T
  have G_worth_nothing := ok_worth_nothing (P := P) (w := w) (base := base) T
  have G_mixer_towards := ok_mixer_towards (P := P) (w := w) (base := base) T
  have G_Mixer_stir := ok_Mixer_stir (P := P) (w := w) (base := base) T
  have G_Mixer_absorb := ok_Mixer_absorb (P := P) (w := w) (base := base) T
  have G_Mixer_stir_for_key := ok_Mixer_stir_for_key (P := P) (w := w) (base := base) T
  have G_unseal := ok_unseal (P := P) (w := w) (base := base) T
  have G_Greeting___init__ := ok_Greeting___init__ (P := P) (w := w) (base := base) T
  have G_number_of := ok_number_of (P := P) (w := w) (base := base) T
  have nd := sc_read_first.nd
  refine T.F_read_first.fn.ok sc_read_first (fun vs H Q E h => ?_) (fun cdv A' outer s H vs Q E hr h => ?_)
  · obtain ⟨i, a, t, m, rfl, _⟩ := h
    rfl
  · obtain ⟨i, a, t, m, rfl, I, hM, bM, lM, q⟩ := h
    refine ⟨_, (pss_cons (ps_if (pt_not (pt_val (pe_call G_is_well_marked (hr.mono (by decide)) (gl_of (by kernel_rfl)) T.F_is_well_marked.mg T.F_is_well_marked.kp T.F_is_well_marked.bd .nil pass0 (pa_cons (pv 1) (pa_cons (pe_const (gl_of (by kernel_rfl)) T.M_FIRST) (pa_cons (pe_const (gl_of (by kernel_rfl)) T.M_SIZE_first) (pa_cons (pe_fldA (pv 0) (by rfl) T.C_Identity.cl (T.C_Identity.na _ (.tail _ (.head _)))) pa_nil))))) (by intro _; rfl))) (pss_one (ps_ret pe_non)) pss_nil)
      (pss_cons (ps_set (i := 2) nd (by rfl) (Or.inl (by rfl)) (pe_slice sl_listN (pv 1) (po_some (pe_nat 8)) (po_some (pe_nat 40))))
      (pss_cons (ps_set (i := 3) nd (by rfl) (Or.inl (by rfl)) (pe_call G_agreed (hr.mono (by decide)) (gl_of (by kernel_rfl)) T.F_agreed.mg T.F_agreed.kp T.F_agreed.bd .nil pass0 (pa_cons (pe_fldA (pv 0) (by rfl) T.C_Identity.cl (T.C_Identity.na _ (.head _))) (pa_cons (pv 2) pa_nil))))
      (pss_cons (ps_if (pt_val (pe_call G_worth_nothing (hr.mono (by decide)) (gl_of (by kernel_rfl)) T.F_worth_nothing.mg T.F_worth_nothing.kp T.F_worth_nothing.bd .nil pass0 (pa_cons (pv 3) pa_nil)) (by intro _; rfl)) (pss_one (ps_ret pe_non)) pss_nil)
      (pss_cons (ps_set (i := 4) nd (by rfl) (Or.inl (by rfl)) (pe_call G_mixer_towards (hr.mono (by decide)) (gl_of (by kernel_rfl)) T.F_mixer_towards.mg T.F_mixer_towards.kp T.F_mixer_towards.bd .nil pass0 (pa_cons (pe_fldA (pv 0) (by rfl) T.C_Identity.cl (T.C_Identity.na _ (.tail _ (.head _)))) pa_nil)))
      (pss_cons (ps_expr (pe_meth (pv 4) T.C_Mixer.cl T.F_Mixer_stir.mt G_Mixer_stir (hr.mono (by decide)) T.F_Mixer_stir.bd .nil pass0 (pa_cons (pv 2) pa_nil)))
      (pss_cons (ps_expr (pe_meth (pv 4) T.C_Mixer.cl T.F_Mixer_absorb.mt G_Mixer_absorb (hr.mono (by decide)) T.F_Mixer_absorb.bd .nil pass0 (pa_cons (pv 2) pa_nil)))
      (pss_cons (ps_set (i := 5) nd (by rfl) (Or.inl (by rfl)) (pe_meth (pv 4) T.C_Mixer.cl T.F_Mixer_stir_for_key.mt G_Mixer_stir_for_key (hr.mono (by decide)) T.F_Mixer_stir_for_key.bd .nil pass0 (pa_cons (pv 3) pa_nil)))
      (pss_cons (ps_if (pt_cmpR (op_neN (un_of hr)) (pe_call G_unseal (hr.mono (by decide)) (gl_of (by kernel_rfl)) T.F_unseal.mg T.F_unseal.kp T.F_unseal.bd .nil pass0 (pa_cons (pv 5) (pa_cons (pe_nat 0) (pa_cons (pe_slice sl_listN (pv 1) (po_some (pe_nat 40)) (po_some (pe_nat 88))) (pa_cons (pe_fldA (pv 4) (by rfl) T.C_Mixer.cl (T.C_Mixer.na _ (.tail _ (.head _)))) pa_nil))))) (pe_fldA (pv 0) (by rfl) T.C_Identity.cl (T.C_Identity.na _ (.tail _ (.tail _ (.head _))))) (nomark _)) (pss_one (ps_ret pe_non)) pss_nil)
      (pss_cons (ps_expr (pe_meth (pv 4) T.C_Mixer.cl T.F_Mixer_absorb.mt G_Mixer_absorb (hr.mono (by decide)) T.F_Mixer_absorb.bd .nil pass0 (pa_cons (pe_slice sl_listN (pv 1) (po_some (pe_nat 40)) (po_some (pe_nat 88))) pa_nil)))
      (pss_cons (ps_set (i := 5) nd (by rfl) (Or.inl (by rfl)) (pe_meth (pv 4) T.C_Mixer.cl T.F_Mixer_stir_for_key.mt G_Mixer_stir_for_key (hr.mono (by decide)) T.F_Mixer_stir_for_key.bd .nil pass0 (pa_cons (pe_fldA (pv 0) (by rfl) T.C_Identity.cl (T.C_Identity.na _ (.tail _ (.tail _ (.tail _ (.tail _ (.head _))))))) pa_nil)))
      (pss_cons (ps_set (i := 6) nd (by rfl) (Or.inl (by rfl)) (pe_call G_unseal (hr.mono (by decide)) (gl_of (by kernel_rfl)) T.F_unseal.mg T.F_unseal.kp T.F_unseal.bd .nil pass0 (pa_cons (pv 5) (pa_cons (pe_nat 0) (pa_cons (pe_slice sl_listN (pv 1) (po_some (pe_nat 88)) (po_some (pe_nat 116))) (pa_cons (pe_fldA (pv 4) (by rfl) T.C_Mixer.cl (T.C_Mixer.na _ (.tail _ (.head _)))) pa_nil))))))
      (pss_cons (ps_if (pt_cmp (pc_isN (pv 6))) (pss_one (ps_ret pe_non)) pss_nil)
      (pss_cons (ps_expr (pe_meth (pv 4) T.C_Mixer.cl T.F_Mixer_absorb.mt G_Mixer_absorb (hr.mono (by decide)) T.F_Mixer_absorb.bd .nil pass0 (pa_cons (pe_slice sl_listN (pv 1) (po_some (pe_nat 88)) (po_some (pe_nat 116))) pa_nil)))
      (pss_one (ps_ret (pe_make T.C_Greeting.mkc G_Greeting___init__ (hr.mono (by decide)) (gl_of (by kernel_rfl)) T.C_Greeting.mg T.F_Greeting___init__.bd .nil pass0 (pa_cons (pe_call G_number_of (hr.mono (by decide)) (gl_of (by kernel_rfl)) T.F_number_of.mg T.F_number_of.kp T.F_number_of.bd .nil pass0 (pa_cons (pe_slice sl_listN (pv 1) (po_some (pe_nat 4)) (po_some (pe_nat 8))) pa_nil)) (pa_cons (pv 2) (pa_cons (pv 6) (pa_cons (pv 4) pa_nil))))))))))))))))))))), ?_⟩
    walk_at "tw nf"
    obtain ⟨dI, a1, a2, a3, a4, a5, eI, hI1, hI2, hI3, hI4, hI5⟩ := I.ob
    have bo := public_b32 t.secret
    refine ⟨_, rfl, _, rfl, i, dI, _, _, rfl, eI, id_own _ _ _ _ _, a, a2, m, _, 1, 148, rfl, hM, hI2, bM, (by omega), bo.2, bo.1, (by decide), (by decide), fun H1 s1 => ⟨_, rfl, ?_⟩⟩
    by_cases hwm : wellM m (Sd16.publicOf t.secret) 1 148
    · rw [decide_eq_true hwm]
      obtain ⟨p, hp⟩ : ∃ p, p = (m.drop 8).take 32 := ⟨_, rfl⟩
      obtain ⟨sl, hsl⟩ : ∃ sl, sl = (m.drop 40).take 48 := ⟨_, rfl⟩
      obtain ⟨w, hw⟩ : ∃ w, w = (m.drop 88).take 28 := ⟨_, rfl⟩
      obtain ⟨c1, hc1⟩ : ∃ c1, c1 = Sd16.key1 C0 p := ⟨_, rfl⟩
      obtain ⟨h1, hh1⟩ : ∃ h1, h1 = Sd16.hash (H0 (Sd16.publicOf t.secret) ++ p) := ⟨_, rfl⟩
      obtain ⟨d, hd⟩ : ∃ d, d = Sd16.agree t.secret p := ⟨_, rfl⟩
      obtain ⟨x, hx⟩ : ∃ x, x = Sd16.two c1 d := ⟨_, rfl⟩
      obtain ⟨h2, hh2⟩ : ∃ h2, h2 = Sd16.hash (h1 ++ sl) := ⟨_, rfl⟩
      obtain ⟨y, hy⟩ : ∃ y, y = Sd16.two x.1 (Sd16.agree t.secret t.peer) := ⟨_, rfl⟩
      rw [readFirst_good hwm hp hsl hw hc1 hh1 hd hx hh2 hy] at q
      have ml := hwm.1
      have bp : B32 p := ⟨by rw [hp, List.length_take, List.length_drop]; omega, by rw [hp]; exact (bM.drop _).take _⟩
      have bd : B32 d := by rw [hd]; exact agree_b32 _ _
      have sll : sl.length = 48 := by rw [hsl, List.length_take, List.length_drop]; omega
      have slb : Byt sl := by rw [hsl]; exact (bM.drop _).take _
      have wl : w.length = 28 := by rw [hw, List.length_take, List.length_drop]; omega
      have wb : Byt w := by rw [hw]; exact (bM.drop _).take _
      have bx : B32 x.1 ∧ B32 x.2 := by rw [hx]; exact two_b32 _ _
      have by' : B32 y.1 ∧ B32 y.2 := by rw [hy]; exact two_b32 _ _
      have pl := bp.1
      have dl := bd.1
      refine iteF ?_
      refine ⟨_, rfl, _, rfl, _, rfl, a, m, rfl, s1 _ _ hM, (by show (0 : Int) ≤ _; omega), (by show (0 : Int) ≤ _; omega), fun pt H2 hpt s2 lpt => ?_⟩
      rw [cutN_nn, ← hp] at lpt
      walk_at "tw nf"
      have S2 := s1.trans s2
      refine ⟨_, rfl, i, dI, _, _, rfl, S2 _ _ eI, id_secret _ _ _ _ _, _, rfl, a1, pt, _, p, rfl, S2 _ _ hI1, lpt, I.b1.2, bp.2, I.b1.1, bp.1, fun me H3 hme s3 lme => ?_⟩
      rw [← hd] at lme
      walk_at "tw nf"
      have S3 := S2.trans s3
      refine ⟨_, rfl, me, d, rfl, lme, (by omega), fun H4 s4 => ⟨_, rfl, ?_⟩⟩
      have S4 := S3.trans s4
      by_cases hn : Sd16.nothing d = true
      · rw [if_pos hn] at q
        rw [hn]
        exact iteT (q _ S4)
      · rw [if_neg hn] at q
        rw [show Sd16.nothing d = false by simpa using hn]
        refine iteF ?_
        refine ⟨_, rfl, i, dI, _, _, rfl, S4 _ _ eI, id_own _ _ _ _ _, a2, _, rfl, S4 _ _ hI2, bo, fun mx H5 hmx s5 m5 => ?_⟩
        walk_at "tw nf"
        have nmx : H mx = none := S4.free hmx
        have S5 := S4.trans s5
        have lpt5 := s5 _ _ (s4 _ _ (s3 _ _ lpt))
        have lme5 := s5 _ _ (s4 _ _ lme)
        obtain ⟨dx5, ca5, ha5, e5, -⟩ := id m5
        refine ⟨_, rfl, mx, dx5, _, rfl, e5, (by kernel_rfl), _, rfl, mx, pt, _, _, p, rfl, m5, lpt5, bp.2, (by omega), fun H6 u6 m6 => ?_⟩
        rw [← hc1] at m6
        have S6 := SameBut.new S5 nmx u6
        have lpt6 := u6.lst m5.ins lpt5
        have lme6 := u6.lst m5.ins lme5
        obtain ⟨dx6, ca6, ha6, e6, -⟩ := id m6
        refine ⟨_, rfl, mx, dx6, _, rfl, e6, (by kernel_rfl), _, rfl, mx, pt, _, _, p, rfl, m6, lpt6, bp.2, (by omega), fun H7 u7 m7 => ?_⟩
        rw [← hh1] at m7
        have S7 := SameBut.new S6 nmx u7
        have lpt7 := u7.lst m6.ins lpt6
        have lme7 := u7.lst m6.ins lme6
        obtain ⟨dx7, ca7, ha7, e7, -⟩ := id m7
        refine ⟨_, rfl, mx, dx7, _, rfl, e7, (by kernel_rfl), _, rfl, mx, me, _, _, d, rfl, m7, lme7, bd.2, (by omega), fun ky H8 u8 m8 lky => ?_⟩
        rw [← hx] at m8 lky
        walk_at "tw nf"
        have S8 := SameBut.new S7 nmx u8
        have lpt8 := u8.lst m7.ins lpt7
        refine ⟨_, rfl, _, rfl, _, rfl, _, rfl, a, m, rfl, S8 _ _ hM, (by show (0 : Int) ≤ _; omega), (by show (0 : Int) ≤ _; omega), fun sa H9 hsa s9 lsa => ?_⟩
        rw [cutN_nn, ← hsl] at lsa
        have m9 := m8.same s9
        have S9 := S8.trans s9
        have lpt9 := s9 _ _ lpt8
        obtain ⟨dx9, ca9, ha9, e9, -, lh9, -, bh9⟩ := id m9
        refine ⟨_, rfl, mx, dx9, _, _, rfl, e9, mix_seen _ _, ky, sa, ha9, _, _, _, 0, rfl, s9 _ _ lky, lsa, lh9, bx.2.2, slb, bh9.2, bx.2.1, (by omega), (by rw [bh9.1]; decide), ?_⟩
        cases ho : Sd16.open_ x.2 0 sl h1 with
        | none =>
          rw [ho] at q
          intro H10 s10
          have S10 := S9.trans s10
          exact ⟨_, rfl, i, dI, _, _, rfl, S10 _ _ eI, id_peer _ _ _ _ _, .inr ⟨a3, _, rfl, rfl, S10 _ _ hI3, _, rfl, iteT (q _ S10)⟩⟩
        | some who =>
          rw [ho] at q
          intro wh H10 hwh s10 lwh
          have S10 := S9.trans s10
          have m10 := m9.same s10
          have lpt10 := s10 _ _ lpt9
          refine ⟨_, rfl, i, dI, _, _, rfl, S10 _ _ eI, id_peer _ _ _ _ _, .inl ⟨wh, a3, who, _, rfl, rfl, lwh, S10 _ _ hI3, _, rfl, ?_⟩⟩
          by_cases hwho : who = t.peer
          · rw [decide_eq_true hwho]
            have q1 := q
            simp only [hwho, ne_eq, not_true_eq_false, if_false] at q1
            refine iteF ?_
            obtain ⟨dx10, ca10, ha10, e10, -⟩ := id m10
            refine ⟨_, rfl, mx, dx10, _, rfl, e10, (by kernel_rfl), _, rfl, _, rfl, _, rfl, a, m, rfl, S10 _ _ hM, (by show (0 : Int) ≤ _; omega), (by show (0 : Int) ≤ _; omega), fun sb H11 hsb s11 lsb => ?_⟩
            rw [cutN_nn, ← hsl] at lsb
            have m11 := m10.same s11
            refine ⟨mx, sb, _, _, sl, rfl, m11, lsb, slb, (by omega), fun H12 u12 m12 => ?_⟩
            rw [← hh2] at m12
            have S12 := SameBut.new (S10.trans s11) nmx u12
            have lpt12 := u12.lst m11.ins (s11 _ _ lpt10)
            obtain ⟨dx12, ca12, ha12, e12, -⟩ := id m12
            have bsh := agree_b32 t.secret t.peer
            have bshl := bsh.1
            refine ⟨_, rfl, mx, dx12, _, rfl, e12, (by kernel_rfl), _, rfl, i, dI, _, _, rfl, S12 _ _ eI, id_shared _ _ _ _ _, mx, a5, _, _, _, rfl, m12, S12 _ _ hI5, bsh.2, (by omega), fun k2 H13 u13 m13 lk2 => ?_⟩
            rw [← hy] at m13 lk2
            walk_at "tw nf"
            have S13 := SameBut.new S12 nmx u13
            have lpt13 := u13.lst m12.ins lpt12
            refine ⟨_, rfl, _, rfl, _, rfl, _, rfl, a, m, rfl, S13 _ _ hM, (by show (0 : Int) ≤ _; omega), (by show (0 : Int) ≤ _; omega), fun sc H14 hsc s14 lsc => ?_⟩
            rw [cutN_nn, ← hw] at lsc
            have m14 := m13.same s14
            have S14 := S13.trans s14
            have lpt14 := s14 _ _ lpt13
            obtain ⟨dx14, ca14, ha14, e14, -, lh14, -, bh14⟩ := id m14
            refine ⟨_, rfl, mx, dx14, _, _, rfl, e14, mix_seen _ _, k2, sc, ha14, _, _, _, 0, rfl, s14 _ _ lk2, lsc, lh14, by'.2.2, wb, bh14.2, by'.2.1, (by omega), (by rw [bh14.1]; decide), ?_⟩
            cases ho2 : Sd16.open_ y.2 0 w h2 with
            | none =>
              rw [ho2] at q1
              intro H15 s15
              walk_at "tw nf"
              exact ⟨_, rfl, _, rfl, iteT (q1 _ (S14.trans s15))⟩
            | some stamp =>
              rw [ho2] at q1
              intro st H15 hst s15 lst
              walk_at "tw nf"
              obtain ⟨ol1, ol2⟩ := open_len by'.2.2 by'.2.1 (by omega) wb ho2
              have S15 := S14.trans s15
              have m15 := m14.same s15
              refine ⟨_, rfl, _, rfl, ?_⟩
              refine iteF ?_
              obtain ⟨dx15, ca15, ha15, e15, -⟩ := id m15
              refine ⟨_, rfl, mx, dx15, _, rfl, e15, (by kernel_rfl), _, rfl, _, rfl, _, rfl, a, m, rfl, S15 _ _ hM, (by show (0 : Int) ≤ _; omega), (by show (0 : Int) ≤ _; omega), fun sd H16 hsd s16 lsd => ?_⟩
              rw [cutN_nn, ← hw] at lsd
              have m16 := m15.same s16
              refine ⟨mx, sd, _, _, w, rfl, m16, lsd, wb, (by omega), fun H17 u17 m17 => ?_⟩
              have S17 := SameBut.new (S15.trans s16) nmx u17
              have lpt17 := u17.lst m16.ins (s16 _ _ (s15 _ _ lpt14))
              have lst17 := u17.lst m16.ins (s16 _ _ lst)
              refine ⟨_, rfl, _, rfl, _, rfl, a, m, rfl, S17 _ _ hM, (by show (0 : Int) ≤ _; omega), (by show (0 : Int) ≤ _; omega), fun se H18 hse s18 lse => ?_⟩
              rw [cutN_nn] at lse
              have nl := word_lt bM 4
              refine ⟨se, _, rfl, lse, (bM.drop _).take _, (by rw [List.length_take]; omega), fun H19 s19 => ⟨_, rfl, _, rfl, _, rfl, ?_⟩⟩
              intro g dg hg hdg hne
              have s1819 := s18.trans s19
              have S19 := S17.trans s1819
              have sm := made_same (C := A.c_Greeting) (fs := grF (.int (number ((m.drop 4).take 4) : Nat)) (.ref pt) (.ref st) (.ref mx)) hg hdg
              refine ⟨g, dg, _, _, _, _, rfl, upd_same, rfl, ?_⟩
              rw [upd_upd]
              exact q1 g mx _ (S19.free hg) nmx (S19.trans sm) ⟨pt, st, dg, upd_same, sm _ _ (s1819 _ _ lpt17), sm _ _ (s1819 _ _ lst17), (m17.same s1819).same sm, bp, by omega, ol2, nl⟩
          · rw [decide_eq_false hwho]
            have q1 := q
            simp only [ne_eq, hwho, not_false_eq_true, if_true] at q1
            exact iteT (q1 _ S10)
    · rw [decide_eq_false hwm]
      rw [readFirst_bad hwm] at q
      exact iteT (q _ s1)
end Tw
namespace Tw
open PySem L2
open Sd16 (number little u32)
theorem se_mine (a b c d e f g : V) : (seF a b c d e f g).lookup ("mine" : Str) = some a := by kernel_rfl
theorem se_theirs (a b c d e f g : V) : (seF a b c d e f g).lookup ("theirs" : Str) = some b := by kernel_rfl
theorem se_out (a b c d e f g : V) : (seF a b c d e f g).lookup ("sending_key" : Str) = some c := by kernel_rfl
theorem se_in (a b c d e f g : V) : (seF a b c d e f g).lookup ("opening_key" : Str) = some d := by kernel_rfl
theorem se_next (a b c d e f g : V) : (seF a b c d e f g).lookup ("next_number" : Str) = some e := by kernel_rfl
theorem se_great (a b c d e f g : V) : (seF a b c d e f g).lookup ("greatest" : Str) = some f := by kernel_rfl
theorem se_got (a b c d e f g : V) : (seF a b c d e f g).lookup ("got" : Str) = some g := by kernel_rfl
theorem se_put_next (a b c d e f g v : V) : putF "next_number" v (seF a b c d e f g) = seF a b c d v f g := by kernel_rfl
theorem se_put_great (a b c d e f g v : V) : putF "greatest" v (seF a b c d e f g) = seF a b c d e v g := by kernel_rfl
structure SesAt (A : Ad) (H : Hp) (p g : Addr) (k : Nat) (s : Sd16.Session) : Prop where
  ob : ∃ dx a b, H p = some (.ins A.c_Session dx (seF (.int s.mine) (.int s.theirs) (.ref a) (.ref b) (.int s.next) (.int ((s.top : Int) - 1)) (.ref g))) ∧ LH H a s.out ∧ LH H b s.in_
  di : ∃ kvs, H g = some (.dK kvs) ∧ kvs.length ≤ k ∧ ∀ n : Nat, (valV kvs (Sum.inl (n : Int) : Key)).isSome = s.seen n
  b1 : B32 s.out
  b2 : B32 s.in_
  m1 : s.mine < 2 ^ 32
  m2 : s.theirs < 2 ^ 32
  nx : s.next ≤ 2 ^ 60
  sn : ∀ n, s.seen n = true → n < s.top
theorem SesAt.keep {A : Ad} {H H' : Hp} {p g : Addr} {k : Nat} {s : Sd16.Session} (x : SesAt A H p g k s) (h : ∀ b o, H b = some o → (b = p ∨ b = g ∨ ∃ l, o = .lst l) → H' b = some o) : SesAt A H' p g k s := by
  obtain ⟨⟨dx, a, b, e, h1, h2⟩, ⟨kvs, hg, r⟩, r1, r2, r3, r4, r5, r6⟩ := x
  exact ⟨⟨dx, a, b, h _ _ e (.inl rfl), h _ _ h1 (.inr (.inr ⟨_, rfl⟩)), h _ _ h2 (.inr (.inr ⟨_, rfl⟩))⟩, ⟨kvs, h _ _ hg (.inr (.inl rfl)), r⟩, r1, r2, r3, r4, r5, r6⟩
theorem SesAt.same {A : Ad} {H H' : Hp} {p g : Addr} {k : Nat} {s : Sd16.Session} (x : SesAt A H p g k s) (h : Same H H') : SesAt A H' p g k s := x.keep fun b o e _ => h b o e
theorem SesAt.ins {A : Ad} {H : Hp} {p g : Addr} {k : Nat} {s : Sd16.Session} (x : SesAt A H p g k s) : InsAt H p := by
  obtain ⟨dx, a, b, e, _⟩ := x.ob
  exact ⟨_, _, _, e⟩
theorem SesAt.mono {A : Ad} {H : Hp} {p g : Addr} {k k' : Nat} {s : Sd16.Session} (x : SesAt A H p g k s) (h : k ≤ k') : SesAt A H p g k' s := by
  obtain ⟨o, ⟨kvs, hg, hl, r⟩, r1, r2, r3, r4, r5, r6⟩ := x
  exact ⟨o, ⟨kvs, hg, by omega, r⟩, r1, r2, r3, r4, r5, r6⟩
theorem SesAt.ne {A : Ad} {H : Hp} {p g : Addr} {k : Nat} {s : Sd16.Session} (x : SesAt A H p g k s) : g ≠ p := by
  obtain ⟨dx, a, b, e, _⟩ := x.ob
  obtain ⟨kvs, hg, _⟩ := x.di
  exact ne_of hg e (by intro z; cases z)
def SameB2 (p g : Addr) (H H' : Hp) : Prop := ∀ b o, b ≠ p → b ≠ g → H b = some o → H' b = some o
def pform (m : List Nat) : Prop := 32 ≤ m.length ∧ m.length % 16 = 0 ∧ m.take 4 = little 4 4
instance (m : List Nat) : Decidable (pform m) := by unfold pform; exact inferInstance
def sp_Session_is_used_up (K : PySem.W.Frag) (A : Ad) : Sp := fun vs H Q _ => ∃ (p g : Addr) (k : Nat) (s : Sd16.Session), vs = [.ref p] ∧ SesAt A H p g k s ∧ RetV H (.bl (decide (s.next = 2 ^ 60))) Q
def packetOf (s : Sd16.Session) (d : List Nat) : List Nat := [4, 0, 0, 0] ++ (u32 s.theirs ++ (little 8 s.next ++ Sd16.sealed s.out s.next (d ++ List.replicate ((16 - d.length % 16) % 16) 0) []))
def sp_Session_packet (K : PySem.W.Frag) (A : Ad) : Sp := fun vs H Q _ => ∃ (p g a : Addr) (k : Nat) (s : Sd16.Session) (d : List Nat), vs = [.ref p, .ref a] ∧ SesAt A H p g k s ∧ LH H a d ∧ Byt d ∧ d.length ≤ 70000 ∧ s.next < 2 ^ 60 ∧
  ∀ r H', SameBut p H H' → SesAt A H' p g k { s with next := s.next + 1 } → LH H' r (packetOf s d) → Q (.ref r) H'
def sp_Session_is_new (K : PySem.W.Frag) (A : Ad) : Sp := fun vs H Q _ => ∃ (p g : Addr) (k n : Nat) (s : Sd16.Session), vs = [.ref p, .int n] ∧ SesAt A H p g k s ∧ RetV H (.bl (s.new_ n)) Q
def sp_Session_accept (K : PySem.W.Frag) (A : Ad) : Sp := fun vs H Q _ => ∃ (p g a : Addr) (k : Nat) (s : Sd16.Session) (m : List Nat), vs = [.ref p, .ref a] ∧ SesAt A H p g k s ∧ k < 1000 ∧ LH H a m ∧ Byt m ∧ m.length ≤ 70000 ∧ pform m ∧
  match Sd16.readPacket s m with
  | none => RetV H .non Q
  | some (n, b) => ∀ r H', SameB2 p g H H' → SesAt A H' p g (k + 1) (s.got n) → LH H' r b → Q (.ref r) H'
def sp_has_packet_form (K : PySem.W.Frag) (A : Ad) : Sp := fun vs H Q _ => ∃ (a : Addr) (m : List Nat), vs = [.ref a] ∧ LH H a m ∧ m.length ≤ 100000 ∧ RetV H (.bl (decide (pform m))) Q
theorem sc_Session_is_used_up : FnScope ["self"] ["self"] (defScope s_Session_is_used_up) := ⟨by kernel_rfl, by kernel_rfl, by kernel_rfl, by decide +kernel, by kernel_rfl, by decide +kernel, by decide +kernel⟩
theorem ok_Session_is_used_up {P : Program} {w : World} {K : PySem.W.Frag} {mg : Str → Option Value} {base : Heap} {A : Ad} (T : Tx K mg A) : FnOk P w K mg base CX0 1 A.f_Session_is_used_up A.d_Session_is_used_up ["self"] (sp_Session_is_used_up K A) := by
  have nd := sc_Session_is_used_up.nd
  refine T.F_Session_is_used_up.fn.ok sc_Session_is_used_up (fun vs H Q E h => ?_) (fun cdv A' outer s H vs Q E hr h => ?_)
  · obtain ⟨p, g, k, s, rfl, _⟩ := h
    rfl
  · obtain ⟨p, g, k, s, rfl, X, q⟩ := h
    refine ⟨_, (pss_one (ps_ret (pe_cmpR op_eqP (pe_fldA (pv 0) (by rfl) T.C_Session.cl (T.C_Session.na _ (.tail _ (.tail _ (.tail _ (.tail _ (.head _))))))) (pe_const (gl_of (by kernel_rfl)) T.M_NUMBERS_END) (nomark _)))), ?_⟩
    obtain ⟨dx, a, b, e, h1, h2⟩ := X.ob
    refine ⟨_, rfl, p, dx, _, _, rfl, e, se_next _ _ _ _ _ _ _, _, _, rfl, rfl, ?_⟩
    exact q _ (Same.refl _)
theorem sc_Session_packet : FnScope ["self", "plain", "number", "sealed"] ["self", "plain"] (defScope s_Session_packet) := ⟨by kernel_rfl, by kernel_rfl, by kernel_rfl, by decide +kernel, by kernel_rfl, by decide +kernel, by decide +kernel⟩
theorem ok_Session_packet {P : Program} {w : World} {K : PySem.W.Frag} {mg : Str → Option Value} {base : Heap} {A : Ad} (T : Tx K mg A) : FnOk P w K mg base CX0 6 A.f_Session_packet A.d_Session_packet ["self", "plain"] (sp_Session_packet K A) := by
  have G_seal := ok_seal (P := P) (w := w) (base := base) T
  have G_filled := ok_filled (P := P) (w := w) (base := base) T
  have G_head := ok_head (P := P) (w := w) (base := base) T
  have G_octets_of := ok_octets_of (P := P) (w := w) (base := base) T
  have nd := sc_Session_packet.nd
  refine T.F_Session_packet.fn.ok sc_Session_packet (fun vs H Q E h => ?_) (fun cdv A' outer s H vs Q E hr h => ?_)
  · obtain ⟨p, g, a, k, s, d, rfl, _⟩ := h
    rfl
  · obtain ⟨p, g, da, k, s, d, rfl, X, hD, bD, lD, hnx, q⟩ := h
    refine ⟨_, (pss_cons (ps_set (i := 2) nd (by rfl) (Or.inl (by rfl)) (pe_fldA (pv 0) (by rfl) T.C_Session.cl (T.C_Session.na _ (.tail _ (.tail _ (.tail _ (.tail _ (.head _))))))))
      (pss_cons (ps_set (i := 3) nd (by rfl) (Or.inl (by rfl)) (pe_call G_seal (hr.mono (by decide)) (gl_of (by kernel_rfl)) T.F_seal.mg T.F_seal.kp T.F_seal.bd .nil pass0 (pa_cons (pe_fldA (pv 0) (by rfl) T.C_Session.cl (T.C_Session.na _ (.tail _ (.tail _ (.head _))))) (pa_cons (pv 2) (pa_cons (pe_call G_filled (hr.mono (by decide)) (gl_of (by kernel_rfl)) T.F_filled.mg T.F_filled.kp T.F_filled.bd .nil pass0 (pa_cons (pv 1) (pa_cons (pe_const (gl_of (by kernel_rfl)) T.M_PART_session) pa_nil))) (pa_cons (pe_lstN pa_nil) pa_nil))))))
      (pss_cons (ps_fldA (pv 0) (pe_op op_addP (pv 2) (pe_nat 1)) (by rfl) T.C_Session.cl (T.C_Session.na _ (.tail _ (.tail _ (.tail _ (.tail _ (.head _)))))))
      (pss_one (ps_ret (pe_op op_catN (pe_op op_catN (pe_op op_catN (pe_call G_head (hr.mono (by decide)) (gl_of (by kernel_rfl)) T.F_head.mg T.F_head.kp T.F_head.bd .nil pass0 (pa_cons (pe_const (gl_of (by kernel_rfl)) T.M_PACKET) pa_nil)) (pe_call G_octets_of (hr.mono (by decide)) (gl_of (by kernel_rfl)) T.F_octets_of.mg T.F_octets_of.kp T.F_octets_of.bd .nil pass0 (pa_cons (pe_fldA (pv 0) (by rfl) T.C_Session.cl (T.C_Session.na _ (.tail _ (.head _)))) (pa_cons (pe_nat 4) pa_nil)))) (pe_call G_octets_of (hr.mono (by decide)) (gl_of (by kernel_rfl)) T.F_octets_of.mg T.F_octets_of.kp T.F_octets_of.bd .nil pass0 (pa_cons (pv 2) (pa_cons (pe_nat 8) pa_nil)))) (pv 3))))))), ?_⟩
    walk_at "tw nf"
    obtain ⟨dx, a, b, e, h1, h2⟩ := X.ob
    refine ⟨_, rfl, p, dx, _, _, rfl, e, se_next _ _ _ _ _ _ _, ?_⟩
    walk_at "tw nf"
    refine ⟨_, rfl, p, dx, _, _, rfl, e, se_out _ _ _ _ _ _ _, _, rfl, _, rfl, da, d, 16, rfl, hD, (by omega), (by decide), (by decide), fun f H1 hf s1 lf => ?_⟩
    have fl : (d ++ List.replicate ((16 - d.length % 16) % 16) 0).length ≤ 70016 := by rw [List.length_append, List.length_replicate]; omega
    have fb : Byt (d ++ List.replicate ((16 - d.length % 16) % 16) 0) := bD.app (Byt.rep _ (by decide))
    unfold packetOf at q
    generalize d ++ List.replicate ((16 - d.length % 16) % 16) 0 = pd at lf fl fb q
    refine ⟨[], rfl, (by decide), fun z H2 hz s2 lz => ?_⟩
    have s12 := s1.trans s2
    refine ⟨a, f, z, _, pd, [], s.next, rfl, s12 _ _ h1, s2 _ _ lf, lz, X.b1.2, fb, Byt.nil, X.b1.1, (by omega), (by decide), fun sl H3 hsl s3 lsl => ?_⟩
    walk_at "tw nf"
    have sll : (Sd16.sealed s.out s.next pd []).length = pd.length + 16 := sealed_len X.b1.2 X.b1.1 (by omega)
    generalize Sd16.sealed s.out s.next pd [] = sd at lsl sll q
    have s13 := s12.trans s3
    have X3 := X.same s13
    have e3 := s13 _ _ e
    refine ⟨_, rfl, _, _, rfl, rfl, _, rfl, p, dx, _, rfl, e3, (by show 7 < 1000; decide), ?_⟩
    rw [se_put_next]
    have i3 := X3.ins
    have u4 : SameBut p H3 (upd H3 p (.ins A.c_Session dx (seF (.int s.mine) (.int s.theirs) (.ref a) (.ref b) (.int ((s.next + 1 : Nat) : Int)) (.int ((s.top : Int) - 1)) (.ref g)))) := but_upd fun _ _ _ h => h
    have e4 : upd H3 p (.ins A.c_Session dx (seF (.int s.mine) (.int s.theirs) (.ref a) (.ref b) (.int ((s.next + 1 : Nat) : Int)) (.int ((s.top : Int) - 1)) (.ref g))) p = some (.ins A.c_Session dx (seF (.int s.mine) (.int s.theirs) (.ref a) (.ref b) (.int ((s.next + 1 : Nat) : Int)) (.int ((s.top : Int) - 1)) (.ref g))) := upd_same
    generalize upd H3 p (.ins A.c_Session dx (seF (.int s.mine) (.int s.theirs) (.ref a) (.ref b) (.int ((s.next + 1 : Nat) : Int)) (.int ((s.top : Int) - 1)) (.ref g))) = H4 at u4 e4
    have X4 : SesAt A H4 p g k { s with next := s.next + 1 } := by
      obtain ⟨kvs, hg, r⟩ := X3.di
      exact ⟨⟨dx, a, b, e4, u4.lst i3 (s13 _ _ h1), u4.lst i3 (s13 _ _ h2)⟩, ⟨kvs, u4 _ _ X3.ne hg, r⟩, X.b1, X.b2, X.m1, X.m2, by show s.next + 1 ≤ 2 ^ 60; omega, X.sn⟩
    refine ⟨4, rfl, fun hd H5 hhd s5 lhd => ⟨_, rfl, p, dx, _, _, rfl, s5 _ _ e4, se_theirs _ _ _ _ _ _ _, s.theirs, 4, rfl, (by decide), fun oc H6 hoc s6 loc => ⟨hd, oc, _, _, rfl, rfl, s6 _ _ lhd, loc, (by rw [little_length, little_length]; decide), fun v1 H7 hv1 s7 lv1 => ?_⟩⟩⟩
    refine ⟨_, rfl, s.next, 8, rfl, (by decide), fun o2 H8 ho2 s8 lo2 => ⟨v1, o2, _, _, rfl, rfl, s8 _ _ lv1, lo2, (by simp only [List.length_append, little_length]; decide), fun v2 H9 hv2 s9 lv2 => ?_⟩⟩
    have t5 : Same H4 H9 := s5.trans (s6.trans (s7.trans (s8.trans s9)))
    refine ⟨_, rfl, v2, sl, _, _, rfl, rfl, lv2, t5 _ _ (u4.lst i3 lsl), (by simp only [List.length_append, little_length]; omega), fun r H10 hr10 s10 lr => ?_⟩
    have t6 := t5.trans s10
    refine q r H10 ((s13.but p).trans (u4.trans (t6.but p))) (X4.same t6) ?_
    have e5 : little 4 4 = [4, 0, 0, 0] := by decide
    rw [e5] at lr
    simp only [List.append_assoc] at lr
    exact lr
theorem new_eq {s : Sd16.Session} (n : Nat) (sn : ∀ n, s.seen n = true → n < s.top) : s.new_ n = (decide (n < 2 ^ 60) && ((!s.seen n) && decide ((s.top : Int) - 1 - (n : Int) < 128))) := by
  unfold Sd16.Session.new_ Sd16.WINDOW
  cases hs : s.seen n with
  | true =>
    have := sn n hs
    simp only [Bool.not_true, Bool.and_false, Bool.or_false, Bool.false_and]
    rw [decide_eq_false (show ¬ s.top ≤ n by omega)]
    simp
  | false =>
    simp only [Bool.not_false, Bool.and_true, Bool.true_and]
    congr 1
    rw [← Bool.decide_or]
    apply decide_eq_decide.mpr
    omega
theorem sc_Session_is_new : FnScope ["self", "number"] ["self", "number"] (defScope s_Session_is_new) := ⟨by kernel_rfl, by kernel_rfl, by kernel_rfl, by decide +kernel, by kernel_rfl, by decide +kernel, by decide +kernel⟩
theorem ok_Session_is_new {P : Program} {w : World} {K : PySem.W.Frag} {mg : Str → Option Value} {base : Heap} {A : Ad} (T : Tx K mg A) : FnOk P w K mg base CX0 1 A.f_Session_is_new A.d_Session_is_new ["self", "number"] (sp_Session_is_new K A) := by
  have nd := sc_Session_is_new.nd
  refine T.F_Session_is_new.fn.ok sc_Session_is_new (fun vs H Q E h => ?_) (fun cdv A' outer s H vs Q E hr h => ?_)
  · obtain ⟨p, g, k, n, s, rfl, _⟩ := h
    rfl
  · obtain ⟨p, g, k, n, s, rfl, X, q⟩ := h
    refine ⟨_, (pss_one (ps_ret (pe_and (pe_cmpR op_lt (pv 1) (pe_const (gl_of (by kernel_rfl)) T.M_NUMBERS_END) (nomark _)) (pe_and (pe_cmp (pc_dnotin (hu_of hr) (pv 1) (pe_fldA (pv 0) (by rfl) T.C_Session.cl (T.C_Session.na _ (.tail _ (.tail _ (.tail _ (.tail _ (.tail _ (.tail _ (.head _))))))))))) (pe_one (pe_cmpR op_lt (pe_op op_sub (pe_fldA (pv 0) (by rfl) T.C_Session.cl (T.C_Session.na _ (.tail _ (.tail _ (.tail _ (.tail _ (.tail _ (.head _)))))))) (pv 1)) (pe_const (gl_of (by kernel_rfl)) T.M_WINDOW) (nomark _))))))), ?_⟩
    obtain ⟨dx, a, b, e, h1, h2⟩ := X.ob
    obtain ⟨kvs, hg, hl, hk⟩ := X.di
    rw [new_eq n X.sn] at q
    refine ⟨_, rfl, _, _, rfl, rfl, _, rfl, ?_⟩
    have e1 : decide ((n : Int) < ((1152921504606846976 : Nat) : Int)) = decide (n < 2 ^ 60) := decide_eq_decide.mpr (by omega)
    rw [e1]
    by_cases c1 : n < 2 ^ 60
    · rw [decide_eq_true c1] at q ⊢
      refine iteT ⟨_, rfl, _, rfl, p, dx, _, _, rfl, e, se_got _ _ _ _ _ _ _, g, _, rfl, DGet.k (k := Sum.inl (n : Int)) hg, _, rfl, ?_⟩
      rw [hk n]
      cases hs : s.seen n with
      | true =>
        rw [hs] at q
        exact iteF (q _ (Same.refl _))
      | false =>
        rw [hs] at q
        refine iteT ⟨_, rfl, p, dx, _, _, rfl, e, se_great _ _ _ _ _ _ _, _, rfl, _, _, rfl, rfl, _, _, rfl, rfl, ?_⟩
        exact q _ (Same.refl _)
    · rw [decide_eq_false c1] at q ⊢
      exact iteF (q _ (Same.refl _))
theorem sc_has_packet_form : FnScope ["m"] ["m"] (defScope s_has_packet_form) := ⟨by kernel_rfl, by kernel_rfl, by kernel_rfl, by decide +kernel, by kernel_rfl, by decide +kernel, by decide +kernel⟩
theorem ok_has_packet_form {P : Program} {w : World} {K : PySem.W.Frag} {mg : Str → Option Value} {base : Heap} {A : Ad} (T : Tx K mg A) : FnOk P w K mg base CX0 3 A.f_has_packet_form A.d_has_packet_form ["m"] (sp_has_packet_form K A) := by
  have G_head := ok_head (P := P) (w := w) (base := base) T
  have nd := sc_has_packet_form.nd
  refine T.F_has_packet_form.fn.ok sc_has_packet_form (fun vs H Q E h => ?_) (fun cdv A' outer s H vs Q E hr h => ?_)
  · obtain ⟨a, m, rfl, _⟩ := h
    rfl
  · obtain ⟨a, m, rfl, hM, lM, q⟩ := h
    refine ⟨_, (pss_one (ps_ret (pe_and (pe_cmpR op_geP (pe_callB call_lenN (gl_of (by kernel_rfl)) T.N_len PySem.boot_len (pa_cons (pv 0) pa_nil)) (pe_const (gl_of (by kernel_rfl)) T.M_SHORTEST) (nomark _)) (pe_and (pe_cmpR op_eqP (pe_op op_modP (pe_callB call_lenN (gl_of (by kernel_rfl)) T.N_len PySem.boot_len (pa_cons (pv 0) pa_nil)) (pe_const (gl_of (by kernel_rfl)) T.M_PART_session)) (pe_nat 0) (nomark _)) (pe_one (pe_cmpR (op_eqN (un_of hr)) (pe_slice sl_listN (pv 0) po_none (po_some (pe_nat 4))) (pe_call G_head (hr.mono (by decide)) (gl_of (by kernel_rfl)) T.F_head.mg T.F_head.kp T.F_head.bd .nil pass0 (pa_cons (pe_const (gl_of (by kernel_rfl)) T.M_PACKET) pa_nil)) (nomark _))))))), ?_⟩
    refine ⟨_, rfl, a, m, rfl, hM, _, _, rfl, rfl, _, rfl, ?_⟩
    by_cases c1 : 32 ≤ m.length
    · rw [decide_eq_true c1]
      refine iteT ⟨_, rfl, a, m, rfl, hM, _, _, rfl, rfl, (by decide), _, _, rfl, rfl, _, rfl, ?_⟩
      by_cases c2 : m.length % 16 = 0
      · rw [decide_eq_true c2]
        refine iteT ⟨_, rfl, _, rfl, a, m, rfl, hM, trivial, (by show (0 : Int) ≤ _; omega), fun x H1 hx s1 lx => ?_⟩
        rw [cutN_on] at lx
        refine ⟨4, rfl, fun hd H2 hhd s2 lhd => ⟨x, hd, _, _, rfl, rfl, s2 _ _ lx, lhd, ?_⟩⟩
        have e3 : decide (m.take 4 = little 4 4) = decide (pform m) := decide_eq_decide.mpr ⟨fun h => ⟨c1, c2, h⟩, fun h => h.2.2⟩
        rw [e3]
        exact q _ (s1.trans s2)
      · rw [decide_eq_false c2]
        have e3 : decide (pform m) = false := decide_eq_false fun h => c2 h.2.1
        rw [e3] at q
        exact iteF (q _ (Same.refl _))
    · rw [decide_eq_false c1]
      have e3 : decide (pform m) = false := decide_eq_false fun h => c1 h.1
      rw [e3] at q
      exact iteF (q _ (Same.refl _))
end Tw
namespace Tw
open PySem L2
open Sd16 (number little u32)
theorem readPacket_eq {s : Sd16.Session} {m : List Nat} {n : Nat} (h : pform m) (hn : n = number ((m.drop 8).take 8)) :
    Sd16.readPacket s m = if number ((m.drop 4).take 4) ≠ s.mine then none else if s.new_ n = false then none else (Sd16.open_ s.in_ n (m.drop 16) []).map fun b => (n, b) := by
  obtain ⟨h1, h2, h3⟩ := h
  have e : little 4 4 = [4, 0, 0, 0] := by decide
  rw [e] at h3
  unfold Sd16.readPacket
  simp only [← hn]
  by_cases c1 : number ((m.drop 4).take 4) ≠ s.mine
  · rw [if_pos c1, if_pos (.inr (.inr (.inr (.inl c1))))]
  · rw [if_neg c1]
    by_cases c2 : s.new_ n = false
    · rw [if_pos c2, if_pos (.inr (.inr (.inr (.inr c2))))]
    · rw [if_neg c2, if_neg]
      rintro (h | h | h | h | h)
      · omega
      · exact h h2
      · exact h h3
      · exact c1 h
      · exact c2 h
theorem form_len {m : List Nat} (h : pform m) : 32 ≤ m.length := h.1
theorem got_seen {kvs : List (Key × V)} {s : Sd16.Session} (hk : ∀ n : Nat, (valV kvs (Sum.inl (n : Int) : Key)).isSome = s.seen n) (n : Nat) : ∀ j : Nat, (valV (putK kvs (Sum.inl (n : Int) : Key) (.bl true)) (Sum.inl (j : Int) : Key)).isSome = (s.got n).seen j := by
  intro j
  rw [valV_put]
  show _ = (j == n || s.seen j)
  by_cases h : j = n
  · subst h
    rw [if_pos rfl]
    simp
  · have h2 : ¬ (Sum.inl (j : Int) : Key) = Sum.inl (n : Int) := fun e => h (by have := Sum.inl.inj e; omega)
    rw [if_neg h2, hk j]
    simp [h]
theorem sc_Session_accept : FnScope ["self", "m", "number", "plain"] ["self", "m"] (defScope s_Session_accept) := ⟨by kernel_rfl, by kernel_rfl, by kernel_rfl, by decide +kernel, by kernel_rfl, by decide +kernel, by decide +kernel⟩
theorem ok_Session_accept {P : Program} {w : World} {K : PySem.W.Frag} {mg : Str → Option Value} {base : Heap} {A : Ad} (T : Tx K mg A) : FnOk P w K mg base CX0 6 A.f_Session_accept A.d_Session_accept ["self", "m"] (sp_Session_accept K A) := by
  have G_octets_of := ok_octets_of (P := P) (w := w) (base := base) T
  have G_number_of := ok_number_of (P := P) (w := w) (base := base) T
  have G_Session_is_new := ok_Session_is_new (P := P) (w := w) (base := base) T
  have G_unseal := ok_unseal (P := P) (w := w) (base := base) T
  have nd := sc_Session_accept.nd
  refine T.F_Session_accept.fn.ok sc_Session_accept (fun vs H Q E h => ?_) (fun cdv A' outer s H vs Q E hr h => ?_)
  · obtain ⟨p, g, a, k, s, m, rfl, _⟩ := h
    rfl
  · obtain ⟨p, g, ma, k, s, m, rfl, X, hk1, hM, bM, lM, hf, q⟩ := h
    refine ⟨_, (pss_cons (ps_if (pt_cmpR (op_neN (un_of hr)) (pe_slice sl_listN (pv 1) (po_some (pe_nat 4)) (po_some (pe_nat 8))) (pe_call G_octets_of (hr.mono (by decide)) (gl_of (by kernel_rfl)) T.F_octets_of.mg T.F_octets_of.kp T.F_octets_of.bd .nil pass0 (pa_cons (pe_fldA (pv 0) (by rfl) T.C_Session.cl (T.C_Session.na _ (.head _))) (pa_cons (pe_nat 4) pa_nil))) (nomark _)) (pss_one (ps_ret pe_non)) pss_nil)
      (pss_cons (ps_set (i := 2) nd (by rfl) (Or.inl (by rfl)) (pe_call G_number_of (hr.mono (by decide)) (gl_of (by kernel_rfl)) T.F_number_of.mg T.F_number_of.kp T.F_number_of.bd .nil pass0 (pa_cons (pe_slice sl_listN (pv 1) (po_some (pe_nat 8)) (po_some (pe_nat 16))) pa_nil)))
      (pss_cons (ps_if (pt_not (pt_val (pe_meth (pv 0) T.C_Session.cl T.F_Session_is_new.mt G_Session_is_new (hr.mono (by decide)) T.F_Session_is_new.bd .nil pass0 (pa_cons (pv 2) pa_nil)) (by intro _; rfl))) (pss_one (ps_ret pe_non)) pss_nil)
      (pss_cons (ps_set (i := 3) nd (by rfl) (Or.inl (by rfl)) (pe_call G_unseal (hr.mono (by decide)) (gl_of (by kernel_rfl)) T.F_unseal.mg T.F_unseal.kp T.F_unseal.bd .nil pass0 (pa_cons (pe_fldA (pv 0) (by rfl) T.C_Session.cl (T.C_Session.na _ (.tail _ (.tail _ (.tail _ (.head _)))))) (pa_cons (pv 2) (pa_cons (pe_slice sl_listN (pv 1) (po_some (pe_nat 16)) po_none) (pa_cons (pe_lstN pa_nil) pa_nil))))))
      (pss_cons (ps_if (pt_cmp (pc_isN (pv 3))) (pss_one (ps_ret pe_non)) pss_nil)
      (pss_cons (ps_dput (hu_of hr) (pe_fldA (pv 0) (by rfl) T.C_Session.cl (T.C_Session.na _ (.tail _ (.tail _ (.tail _ (.tail _ (.tail _ (.tail _ (.head _))))))))) (pv 2) pe_bl rfl)
      (pss_cons (ps_fldA (pv 0) (pe_callB (call_max2 rfl) (gl_of (by kernel_rfl)) T.N_max bt_max (pa_cons (pe_fldA (pv 0) (by rfl) T.C_Session.cl (T.C_Session.na _ (.tail _ (.tail _ (.tail _ (.tail _ (.tail _ (.head _)))))))) (pa_cons (pv 2) pa_nil))) (by rfl) T.C_Session.cl (T.C_Session.na _ (.tail _ (.tail _ (.tail _ (.tail _ (.tail _ (.head _))))))))
      (pss_one (ps_ret (pv 3)))))))))), ?_⟩
    walk_at "tw nf"
    obtain ⟨n, hn⟩ : ∃ n, n = number ((m.drop 8).take 8) := ⟨_, rfl⟩
    rw [readPacket_eq hf hn] at q
    have m32 := form_len hf
    obtain ⟨dx, a, b, e, h1, h2⟩ := X.ob
    have l4 : ((m.drop 4).take 4).length = 4 := by rw [List.length_take, List.length_drop]; omega
    refine ⟨_, rfl, _, rfl, _, rfl, ma, m, rfl, hM, (by show (0 : Int) ≤ _; omega), (by show (0 : Int) ≤ _; omega), fun x H1 hx s1 lx => ?_⟩
    rw [cutN_nn] at lx
    refine ⟨_, rfl, p, dx, _, _, rfl, s1 _ _ e, se_mine _ _ _ _ _ _ _, s.mine, 4, rfl, (by decide), fun oc H2 hoc s2 loc => .inl ⟨x, oc, _, _, rfl, rfl, s2 _ _ lx, loc, _, rfl, ?_⟩⟩
    have s12 := s1.trans s2
    have hiff := little_eq_iff (l := (m.drop 4).take 4) (k := 4) (n := s.mine) ((bM.drop _).take _) l4 (by have := X.m1; omega)
    by_cases c1 : (m.drop 4).take 4 = little 4 s.mine
    · rw [if_neg (fun h => h (hiff.mp c1))] at q
      rw [decide_eq_true (show (m.drop 4).take (8 - 4) = little 4 s.mine from c1)]
      refine iteF ?_
      refine ⟨_, rfl, _, rfl, _, rfl, ma, m, rfl, s12 _ _ hM, (by show (0 : Int) ≤ _; omega), (by show (0 : Int) ≤ _; omega), fun y H3 hy s3 ly => ?_⟩
      rw [cutN_nn] at ly
      have ly' : LH H3 y ((m.drop 8).take 8) := ly
      refine ⟨y, _, rfl, ly', (bM.drop _).take _, (by rw [List.length_take]; omega), fun H4 s4 => ?_⟩
      rw [← hn]
      walk_at "tw nf"
      have s14 := s12.trans (s3.trans s4)
      refine ⟨_, rfl, p, dx, _, rfl, s14 _ _ e, (by kernel_rfl), _, rfl, p, g, k, n, s, rfl, X.same s14, fun H5 s5 => ⟨_, rfl, ?_⟩⟩
      have s15 := s14.trans s5
      cases hnw : s.new_ n with
      | false =>
        rw [hnw, if_pos rfl] at q
        exact iteT (q _ s15)
      | true =>
        rw [hnw, if_neg (by decide)] at q
        refine iteF ?_
        refine ⟨_, rfl, p, dx, _, _, rfl, s15 _ _ e, se_in _ _ _ _ _ _ _, _, rfl, _, rfl, _, rfl, ma, m, rfl, s15 _ _ hM, (by show (0 : Int) ≤ _; omega), trivial, fun z H6 hz s6 lz => ?_⟩
        rw [cutN_no] at lz
        refine ⟨[], rfl, (by decide), fun em H7 hem s7 lem => ?_⟩
        have s17 := s15.trans (s6.trans s7)
        refine ⟨b, z, em, _, _, [], n, rfl, s17 _ _ h2, s7 _ _ lz, lem, X.b2.2, bM.drop _, Byt.nil, X.b2.1, (by rw [List.length_drop]; omega), (by decide), ?_⟩
        cases ho : Sd16.open_ s.in_ n (m.drop 16) [] with
        | none =>
          rw [ho] at q
          intro H8 s8
          walk_at "tw nf"
          exact ⟨_, rfl, _, rfl, iteT (q _ (s17.trans s8))⟩
        | some pl =>
          rw [ho] at q
          intro pa H8 hpa s8 lpa
          walk_at "tw nf"
          have s18 := s17.trans s8
          have X8 := X.same s18
          have e8 := s18 _ _ e
          obtain ⟨kvs, hg, hl, hk⟩ := X8.di
          refine ⟨_, rfl, _, rfl, iteF ?_⟩
          refine ⟨_, rfl, p, dx, _, _, rfl, e8, se_got _ _ _ _ _ _ _, _, rfl, g, _, rfl, DPut.k (k := Sum.inl (n : Int)) hg (by rw [PySem.sizeLine_eq]; omega), ?_⟩
          have ngp := X8.ne
          have e9 : upd H8 g (.dK (putK kvs (Sum.inl (n : Int)) (.bl true))) p = some (.ins A.c_Session dx (seF (.int s.mine) (.int s.theirs) (.ref a) (.ref b) (.int s.next) (.int ((s.top : Int) - 1)) (.ref g))) := by rw [upd_ne ngp.symm]; exact e8
          refine ⟨_, rfl, p, dx, _, _, rfl, e9, se_great _ _ _ _ _ _ _, _, rfl, _, _, rfl, _, rfl, p, dx, _, rfl, e9, (by show 7 < 1000; decide), ?_⟩
          rw [se_put_great]
          have eg : (if (n : Int) > (s.top : Int) - 1 then (n : Int) else (s.top : Int) - 1) = (((s.got n).top : Nat) : Int) - 1 := by
            show _ = ((max s.top (n + 1) : Nat) : Int) - 1
            split <;> omega
          rw [eg]
          have lst8 : ∀ {c : Addr} {l : List V}, H8 c = some (.lst l) → upd (upd H8 g (.dK (putK kvs (Sum.inl (n : Int)) (.bl true)))) p (.ins A.c_Session dx (seF (.int s.mine) (.int s.theirs) (.ref a) (.ref b) (.int s.next) (.int (((s.got n).top : Nat) - 1)) (.ref g))) c = some (.lst l) := fun {c l} h => by
            rw [upd_ne (ne_ins X8.ins h), upd_ne (ne_of h hg (by intro z; cases z))]; exact h
          refine ⟨_, rfl, ?_⟩
          refine q pa _ ?_ ?_ (lst8 lpa)
          · intro c o n1 n2 h
            rw [upd_ne n1, upd_ne n2]; exact s18 _ _ h
          · refine ⟨⟨dx, a, b, upd_same, lst8 (s18 _ _ h1), lst8 (s18 _ _ h2)⟩, ⟨_, (by rw [upd_ne ngp]; exact upd_same), ?_, got_seen hk n⟩, X.b1, X.b2, X.m1, X.m2, X.nx, ?_⟩
            · have := length_putK kvs (Sum.inl (n : Int) : Key) (.bl true)
              omega
            · intro j hj
              show j < max s.top (n + 1)
              have hj' : (j == n || s.seen j) = true := hj
              rcases Bool.or_eq_true_iff.mp hj' with h | h
              · have : j = n := by simpa using h
                omega
              · have := X.sn j h
                omega
    · rw [if_pos (fun h => c1 (hiff.mpr h))] at q
      rw [decide_eq_false (show ¬ (m.drop 4).take (8 - 4) = little 4 s.mine from c1)]
      exact iteT (q _ s12)
end Tw
namespace Tw
open PySem L2
open Sd16 (number little u32)
def ks2 (c p d f psk : List Nat) : List (List Nat) := Sd16.keys 3 (Sd16.key1 (Sd16.key1 (Sd16.key1 c p) d) f) psk
def hs2 (c h p d f psk : List Nat) : List Nat := Sd16.hash (Sd16.hash (h ++ p) ++ (ks2 c p d f psk).getD 1 [])
theorem ks2_b32 (c p d f psk : List Nat) {i : Nat} (h : i < 3) : B32 ((ks2 c p d f psk).getD i []) := key_b32 3 _ _ h
def sp_key_of_second (K : PySem.W.Frag) (A : Ad) : Sp := fun vs H Q _ => ∃ (mx pa wa sa ka : Addr) (c h p d f psk : List Nat), vs = [.ref mx, .ref pa, .ref wa, .ref sa, .ref ka] ∧ MixAt A H mx c h ∧ LH H pa p ∧ LH H wa d ∧ LH H sa f ∧ LH H ka psk ∧ B32 p ∧ B32 d ∧ B32 f ∧ B32 psk ∧
  ∀ r H', SameBut mx H H' → MixAt A H' mx ((ks2 c p d f psk).getD 0 []) (hs2 c h p d f psk) → LH H' r ((ks2 c p d f psk).getD 2 []) → Q (.ref r) H'
theorem sc_key_of_second : FnScope ["mixer", "point", "with_moment", "with_secret", "psk"] ["mixer", "point", "with_moment", "with_secret", "psk"] (defScope s_key_of_second) := ⟨by kernel_rfl, by kernel_rfl, by kernel_rfl, by decide +kernel, by kernel_rfl, by decide +kernel, by decide +kernel⟩
theorem ok_key_of_second {P : Program} {w : World} {K : PySem.W.Frag} {mg : Str → Option Value} {base : Heap} {A : Ad} (T : Tx K mg A) : FnOk P w K mg base CX0 9 A.f_key_of_second A.d_key_of_second ["mixer", "point", "with_moment", "with_secret", "psk"] (sp_key_of_second K A) := by
  have G_Mixer_stir := ok_Mixer_stir (P := P) (w := w) (base := base) T
  have G_Mixer_absorb := ok_Mixer_absorb (P := P) (w := w) (base := base) T
  have G_Mixer_stir_psk_for_key := ok_Mixer_stir_psk_for_key (P := P) (w := w) (base := base) T
  have nd := sc_key_of_second.nd
  refine T.F_key_of_second.fn.ok sc_key_of_second (fun vs H Q E h => ?_) (fun cdv A' outer s H vs Q E hr h => ?_)
  · obtain ⟨mx, pa, wa, sa, ka, c, h, p, d, f, psk, rfl, _⟩ := h
    rfl
  · obtain ⟨mx, pa, wa, sa, ka, c, h, p, d, f, psk, rfl, m0, lp, lw, ls, lk, bp, bd, bf, bk, q⟩ := h
    refine ⟨_, (pss_cons (ps_expr (pe_meth (pv 0) T.C_Mixer.cl T.F_Mixer_stir.mt G_Mixer_stir (hr.mono (by decide)) T.F_Mixer_stir.bd .nil pass0 (pa_cons (pv 1) pa_nil)))
      (pss_cons (ps_expr (pe_meth (pv 0) T.C_Mixer.cl T.F_Mixer_absorb.mt G_Mixer_absorb (hr.mono (by decide)) T.F_Mixer_absorb.bd .nil pass0 (pa_cons (pv 1) pa_nil)))
      (pss_cons (ps_expr (pe_meth (pv 0) T.C_Mixer.cl T.F_Mixer_stir.mt G_Mixer_stir (hr.mono (by decide)) T.F_Mixer_stir.bd .nil pass0 (pa_cons (pv 2) pa_nil)))
      (pss_cons (ps_expr (pe_meth (pv 0) T.C_Mixer.cl T.F_Mixer_stir.mt G_Mixer_stir (hr.mono (by decide)) T.F_Mixer_stir.bd .nil pass0 (pa_cons (pv 3) pa_nil)))
      (pss_one (ps_ret (pe_meth (pv 0) T.C_Mixer.cl T.F_Mixer_stir_psk_for_key.mt G_Mixer_stir_psk_for_key (hr.mono (by decide)) T.F_Mixer_stir_psk_for_key.bd .nil pass0 (pa_cons (pv 4) pa_nil)))))))), ?_⟩
    walk_at "tw nf"
    have e1 := bp.1
    have e2 := bd.1
    have e3 := bf.1
    have e4 := bk.1
    unfold hs2 ks2 at q
    obtain ⟨dx0, ca0, ha0, o0, -⟩ := id m0
    refine ⟨_, rfl, mx, dx0, _, rfl, o0, (by kernel_rfl), _, rfl, mx, pa, _, _, p, rfl, m0, lp, bp.2, (by omega), fun H1 u1 m1 => ?_⟩
    have i0 := m0.ins
    generalize Sd16.key1 c p = c1 at m1 q
    obtain ⟨dx1, ca1, ha1, o1, -⟩ := id m1
    refine ⟨_, rfl, mx, dx1, _, rfl, o1, (by kernel_rfl), _, rfl, mx, pa, _, _, p, rfl, m1, u1.lst i0 lp, bp.2, (by omega), fun H2 u2 m2 => ?_⟩
    have i1 := m1.ins
    generalize Sd16.hash (h ++ p) = h1 at m2 q
    obtain ⟨dx2, ca2, ha2, o2, -⟩ := id m2
    refine ⟨_, rfl, mx, dx2, _, rfl, o2, (by kernel_rfl), _, rfl, mx, wa, _, _, d, rfl, m2, u2.lst i1 (u1.lst i0 lw), bd.2, (by omega), fun H3 u3 m3 => ?_⟩
    have i2 := m2.ins
    generalize Sd16.key1 c1 d = c2 at m3 q
    obtain ⟨dx3, ca3, ha3, o3, -⟩ := id m3
    refine ⟨_, rfl, mx, dx3, _, rfl, o3, (by kernel_rfl), _, rfl, mx, sa, _, _, f, rfl, m3, u3.lst i2 (u2.lst i1 (u1.lst i0 ls)), bf.2, (by omega), fun H4 u4 m4 => ?_⟩
    have i3 := m3.ins
    generalize Sd16.key1 c2 f = c3 at m4 q
    obtain ⟨dx4, ca4, ha4, o4, -⟩ := id m4
    exact ⟨_, rfl, mx, dx4, _, rfl, o4, (by kernel_rfl), _, rfl, mx, ka, _, _, psk, rfl, m4, u4.lst i3 (u3.lst i2 (u2.lst i1 (u1.lst i0 lk))), bk.2, (by omega), fun r H5 u5 m5 lr => q r H5 (u1.trans (u2.trans (u3.trans (u4.trans u5)))) m5 lr⟩
theorem reply_eq (t : Sd16.End) (theirs : Nat) (p c h e : List Nat) (mine : Nat) {q d f k0 k2 hh z m : List Nat} {ks : List (List Nat)} (hq : q = Sd16.publicOf e) (hd : d = Sd16.agree e p) (hf : f = Sd16.agree e t.peer) (hks : ks = ks2 c q d f t.psk) (hk0 : k0 = ks.getD 0 []) (hk2 : k2 = ks.getD 2 []) (hhh : hh = hs2 c h q d f t.psk)
    (hz : z = Sd16.sealed k2 0 [] hh) (hm : m = little 4 2 ++ u32 mine ++ u32 theirs ++ q ++ z) :
    Sd16.reply t theirs p c h e mine = if Sd16.nothing d = true then none else some (m ++ (Sd16.mac1 t.peer m ++ List.replicate 16 0), ⟨mine, theirs, (Sd16.two k0 []).2, (Sd16.two k0 []).1, 0, 0, fun _ => false⟩) := by
  have e1 : m = [2, 0, 0, 0] ++ (u32 mine ++ (u32 theirs ++ (q ++ z))) := by
    rw [hm, show little 4 2 = [2, 0, 0, 0] by decide]
    simp only [List.append_assoc]
  have eks : Sd16.keys 3 (Sd16.key1 (Sd16.key1 (Sd16.key1 c q) d) f) t.psk = ks := by rw [hks, ks2]
  have ehh : Sd16.hash (Sd16.hash (h ++ q) ++ ks.getD 1 []) = hh := by rw [hhh, hs2, ← hks]
  simp only [Sd16.reply, ← hq, ← hd, ← hf, eks, ehh, ← hk0, ← hk2, ← hz, ← e1]
def sp_second_message (K : PySem.W.Frag) (A : Ad) : Sp := fun vs H Q _ => ∃ (i g mx mo me : Addr) (t : Sd16.End) (theirs mine : Nat) (p stamp c h e d f : List Nat), vs = [.ref i, .ref g, .int mine, .ref mo, .ref me] ∧ IdAt A H i t.secret t.peer t.psk ∧ GrAt A H g mx theirs p stamp c h ∧ LH H mo e ∧ LH H me d ∧ B32 e ∧ B32 d ∧
  f = Sd16.agree e t.peer ∧ ∀ m z, z = Sd16.sealed ((ks2 c (Sd16.publicOf e) d f t.psk).getD 2 []) 0 [] (hs2 c h (Sd16.publicOf e) d f t.psk) → m = little 4 2 ++ u32 mine ++ u32 theirs ++ Sd16.publicOf e ++ z →
    ∀ r H', SameBut mx H H' → GrAt A H' g mx theirs p stamp ((ks2 c (Sd16.publicOf e) d f t.psk).getD 0 []) (hs2 c h (Sd16.publicOf e) d f t.psk) → LH H' r (m ++ (Sd16.mac1 t.peer m ++ List.replicate 16 0)) → Q (.ref r) H'
theorem sc_second_message : FnScope ["identity", "greeting", "mine", "moment", "met", "point", "mixer", "key", "proof", "before"] ["identity", "greeting", "mine", "moment", "met"] (defScope s_second_message) := ⟨by kernel_rfl, by kernel_rfl, by kernel_rfl, by decide +kernel, by kernel_rfl, by decide +kernel, by decide +kernel⟩
theorem ok_second_message {P : Program} {w : World} {K : PySem.W.Frag} {mg : Str → Option Value} {base : Heap} {A : Ad} (T : Tx K mg A) : FnOk P w K mg base CX0 10 A.f_second_message A.d_second_message ["identity", "greeting", "mine", "moment", "met"] (sp_second_message K A) := by
  have G_public := ok_public (P := P) (w := w) (base := base) T
  have G_key_of_second := ok_key_of_second (P := P) (w := w) (base := base) T
  have G_agreed := ok_agreed (P := P) (w := w) (base := base) T
  have G_seal := ok_seal (P := P) (w := w) (base := base) T
  have G_head := ok_head (P := P) (w := w) (base := base) T
  have G_octets_of := ok_octets_of (P := P) (w := w) (base := base) T
  have G_marked := ok_marked (P := P) (w := w) (base := base) T
  have nd := sc_second_message.nd
  refine T.F_second_message.fn.ok sc_second_message (fun vs H Q E h => ?_) (fun cdv A' outer s H vs Q E hr h => ?_)
  · obtain ⟨i, g, mx, mo, me, t, theirs, mine, p, stamp, c, h, e, d, f, rfl, _⟩ := h
    rfl
  · obtain ⟨i, g, mx, mo, me, t, theirs, mine, p, stamp, c, h, e, d, f, rfl, I, ⟨pa, sa, dg, eg, lpa, lsa, m0, bp, ls12, bst, ht⟩, hmo, hme, bE, bD, hf, q⟩ := h
    refine ⟨_, (pss_cons (ps_set (i := 5) nd (by rfl) (Or.inl (by rfl)) (pe_call G_public (hr.mono (by decide)) (gl_of (by kernel_rfl)) T.F_public.mg T.F_public.kp T.F_public.bd .nil pass0 (pa_cons (pv 3) pa_nil)))
      (pss_cons (ps_set (i := 6) nd (by rfl) (Or.inl (by rfl)) (pe_fldA (pv 1) (by rfl) T.C_Greeting.cl (T.C_Greeting.na _ (.tail _ (.tail _ (.tail _ (.head _)))))))
      (pss_cons (ps_set (i := 7) nd (by rfl) (Or.inl (by rfl)) (pe_call G_key_of_second (hr.mono (by decide)) (gl_of (by kernel_rfl)) T.F_key_of_second.mg T.F_key_of_second.kp T.F_key_of_second.bd .nil pass0 (pa_cons (pv 6) (pa_cons (pv 5) (pa_cons (pv 4) (pa_cons (pe_call G_agreed (hr.mono (by decide)) (gl_of (by kernel_rfl)) T.F_agreed.mg T.F_agreed.kp T.F_agreed.bd .nil pass0 (pa_cons (pv 3) (pa_cons (pe_fldA (pv 0) (by rfl) T.C_Identity.cl (T.C_Identity.na _ (.tail _ (.tail _ (.head _))))) pa_nil))) (pa_cons (pe_fldA (pv 0) (by rfl) T.C_Identity.cl (T.C_Identity.na _ (.tail _ (.tail _ (.tail _ (.head _)))))) pa_nil)))))))
      (pss_cons (ps_set (i := 8) nd (by rfl) (Or.inl (by rfl)) (pe_call G_seal (hr.mono (by decide)) (gl_of (by kernel_rfl)) T.F_seal.mg T.F_seal.kp T.F_seal.bd .nil pass0 (pa_cons (pv 7) (pa_cons (pe_nat 0) (pa_cons (pe_lstN pa_nil) (pa_cons (pe_fldA (pv 6) (by rfl) T.C_Mixer.cl (T.C_Mixer.na _ (.tail _ (.head _)))) pa_nil))))))
      (pss_cons (ps_set (i := 9) nd (by rfl) (Or.inl (by rfl)) (pe_op op_catN (pe_op op_catN (pe_op op_catN (pe_op op_catN (pe_call G_head (hr.mono (by decide)) (gl_of (by kernel_rfl)) T.F_head.mg T.F_head.kp T.F_head.bd .nil pass0 (pa_cons (pe_const (gl_of (by kernel_rfl)) T.M_SECOND) pa_nil)) (pe_call G_octets_of (hr.mono (by decide)) (gl_of (by kernel_rfl)) T.F_octets_of.mg T.F_octets_of.kp T.F_octets_of.bd .nil pass0 (pa_cons (pv 2) (pa_cons (pe_nat 4) pa_nil)))) (pe_call G_octets_of (hr.mono (by decide)) (gl_of (by kernel_rfl)) T.F_octets_of.mg T.F_octets_of.kp T.F_octets_of.bd .nil pass0 (pa_cons (pe_fldA (pv 1) (by rfl) T.C_Greeting.cl (T.C_Greeting.na _ (.head _))) (pa_cons (pe_nat 4) pa_nil)))) (pv 5)) (pv 8)))
      (pss_one (ps_ret (pe_call G_marked (hr.mono (by decide)) (gl_of (by kernel_rfl)) T.F_marked.mg T.F_marked.kp T.F_marked.bd .nil pass0 (pa_cons (pv 9) (pa_cons (pe_fldA (pv 0) (by rfl) T.C_Identity.cl (T.C_Identity.na _ (.tail _ (.tail _ (.head _))))) pa_nil)))))))))), ?_⟩
    walk_at "tw nf"
    obtain ⟨qq, hqq⟩ : ∃ qq, qq = Sd16.publicOf e := ⟨_, rfl⟩
    rw [← hqq] at q
    have bq : B32 qq := by rw [hqq]; exact public_b32 e
    have bf : B32 f := by rw [hf]; exact agree_b32 _ _
    refine ⟨_, rfl, mo, e, rfl, hmo, bE.2, bE.1, fun pt H1 hpt s1 lpt => ?_⟩
    rw [← hqq] at lpt
    walk_at "tw nf"
    have m1 := m0.same s1
    refine ⟨_, rfl, g, dg, _, _, rfl, s1 _ _ eg, gr_mixer _ _ _ _, ?_⟩
    walk_at "tw nf"
    obtain ⟨dI, a1, a2, a3, a4, a5, eI, hI1, hI2, hI3, hI4, hI5⟩ := (I.same s1).ob
    refine ⟨_, rfl, _, rfl, _, rfl, _, rfl, _, rfl, i, dI, _, _, rfl, eI, id_peer _ _ _ _ _, mo, a3, e, t.peer, rfl, s1 _ _ hmo, hI3, bE.2, I.b2.2, bE.1, I.b2.1, fun ag H2 hag s2 lag => ?_⟩
    rw [← hf] at lag
    have m2 := m1.same s2
    refine ⟨_, rfl, i, dI, _, _, rfl, s2 _ _ eI, id_psk _ _ _ _ _, mx, pt, me, ag, a4, _, _, qq, d, f, t.psk, rfl, m2, s2 _ _ lpt, s2 _ _ (s1 _ _ hme), lag, s2 _ _ hI4, bq, bD, bf, I.b3, fun ky H3 u3 m3 lky => ?_⟩
    walk_at "tw nf"
    have b2 := ks2_b32 c qq d f t.psk (i := 2) (by decide)
    generalize (ks2 c qq d f t.psk).getD 2 [] = k2 at lky b2 q
    generalize hs2 c h qq d f t.psk = hh at m3 q
    generalize (ks2 c qq d f t.psk).getD 0 [] = k0 at m3 q
    have i2 := m2.ins
    have s12 := s1.trans s2
    have U3 : SameBut mx H H3 := (s12.but mx).trans u3
    have gmx : g ≠ mx := by
      obtain ⟨dy, ca, ha, em, _⟩ := m0
      exact ne_len eg em (by show 4 ≠ 2; decide)
    have n1 := (I.same s12).ne_mix m2
    have I3 := (I.same s12).but u3 i2 n1
    refine ⟨_, rfl, [], rfl, (by decide), fun em H4 hem s4 lem => ?_⟩
    have m4 := m3.same s4
    obtain ⟨dx4, ca4, ha4, e4, -, lh4, -, bh4⟩ := id m4
    refine ⟨_, rfl, mx, dx4, _, _, rfl, e4, mix_seen _ _, ky, em, ha4, _, [], _, 0, rfl, s4 _ _ lky, lem, lh4, b2.2, Byt.nil, bh4.2, b2.1, (by decide), (by rw [bh4.1]; decide), fun z H5 hz s5 lz => ?_⟩
    walk_at "tw nf"
    have zl : (Sd16.sealed k2 0 [] hh).length = 16 := sealed_len b2.2 b2.1 (by decide)
    have zb : Byt (Sd16.sealed k2 0 [] hh) := sealed_byt b2.2 b2.1 (by decide) Byt.nil
    obtain ⟨zz, hzz⟩ : ∃ zz, zz = Sd16.sealed k2 0 [] hh := ⟨_, rfl⟩
    rw [← hzz] at lz zl zb
    obtain ⟨m, hm⟩ : ∃ m, m = little 4 2 ++ u32 mine ++ u32 theirs ++ qq ++ zz := ⟨_, rfl⟩
    have q' := q m zz hzz hm
    have t45 := s4.trans s5
    have lpt5 := t45 _ _ (u3.lst i2 (s2 _ _ lpt))
    have eg5 := t45 _ _ (u3 _ _ gmx (s12 _ _ eg))
    have ql := bq.1
    refine ⟨2, rfl, fun hd H6 hhd s6 lhd => ⟨_, rfl, mine, 4, rfl, (by decide), fun oc H7 hoc s7 loc => ⟨hd, oc, _, _, rfl, rfl, s7 _ _ lhd, loc, (by rw [little_length, little_length]; decide), fun v1 H8 hv1 s8 lv1 => ?_⟩⟩⟩
    have t68 := s6.trans (s7.trans s8)
    refine ⟨_, rfl, g, dg, _, _, rfl, t68 _ _ eg5, gr_theirs _ _ _ _, theirs, 4, rfl, (by decide), fun o2 H9 ho2 s9 lo2 => ⟨v1, o2, _, _, rfl, rfl, s9 _ _ lv1, lo2, (by simp only [List.length_append, little_length]; decide), fun v2 H10 hv2 s10 lv2 => ?_⟩⟩
    have t610 := t68.trans (s9.trans s10)
    refine ⟨_, rfl, v2, pt, _, _, rfl, rfl, lv2, t610 _ _ lpt5, (by simp only [List.length_append, little_length]; omega), fun v3 H11 hv3 s11 lv3 => ⟨_, rfl, v3, z, _, _, rfl, rfl, lv3, s11 _ _ (t610 _ _ lz), (by simp only [List.length_append, little_length]; omega), fun bf' H12 hbf s12' lbf => ?_⟩⟩
    walk_at "tw nf"
    have t612 := t610.trans (s11.trans s12')
    have lbf' : LH H12 bf' m := by rw [hm]; exact lbf
    have bm : Byt m := by rw [hm]; exact ((((little_byt _ _).app (little_byt _ _)).app (little_byt _ _)).app bq.2).app zb
    have lm : m.length = 60 := by rw [hm]; simp only [List.length_append, little_length, u32]; omega
    obtain ⟨dJ, j1, j2, j3, j4, j5, eJ, hJ1, hJ2, hJ3, hJ4, hJ5⟩ := (I3.same (t45.trans t612)).ob
    refine ⟨_, rfl, _, rfl, i, dJ, _, _, rfl, eJ, id_peer _ _ _ _ _, bf', j3, m, t.peer, rfl, lbf', hJ3, bm, (by omega), I.b2.2, I.b2.1, fun r H13 hr13 s13 lr => ?_⟩
    have t413 := t45.trans (t612.trans s13)
    refine q' r H13 (U3.trans (t413.but mx)) ⟨pa, sa, dg, t413 _ _ (u3 _ _ gmx (s12 _ _ eg)), t413 _ _ (u3.lst i2 (s12 _ _ lpa)), t413 _ _ (u3.lst i2 (s12 _ _ lsa)), m3.same t413, bp, ls12, bst, ht⟩ lr
end Tw
namespace Tw
open PySem L2
open Sd16 (number little u32)
def newSes (mine theirs : Nat) (o i : List Nat) : Sd16.Session := ⟨mine, theirs, o, i, 0, 0, fun _ => false⟩
theorem ses_new {A : Ad} {H : Hp} {x dx g a b : Addr} {mine theirs : Nat} {o i : List Nat} (hx : H x = none) (hd : H dx = none) (hg : (upd (upd H dx (.own x)) x (.ins A.c_Session dx [])) g = none) (h1 : LH H a o) (h2 : LH H b i) (bo : B32 o) (bi : B32 i) (m1 : mine < 2 ^ 32) (m2 : theirs < 2 ^ 32) :
    H g = none ∧ Same H (upd (upd (upd (upd H dx (.own x)) x (.ins A.c_Session dx [])) g (.dK [])) x (.ins A.c_Session dx (seF (.int mine) (.int theirs) (.ref a) (.ref b) (.int ((0 : Nat) : Int)) (.int (-1)) (.ref g)))) ∧
    SesAt A (upd (upd (upd (upd H dx (.own x)) x (.ins A.c_Session dx [])) g (.dK [])) x (.ins A.c_Session dx (seF (.int mine) (.int theirs) (.ref a) (.ref b) (.int ((0 : Nat) : Int)) (.int (-1)) (.ref g)))) x g 0 (newSes mine theirs o i) := by
  have s0 := made_same (C := A.c_Session) (fs := []) hx hd
  have ng : H g = none := s0.free hg
  have s1 : Same H (upd (upd (upd H dx (.own x)) x (.ins A.c_Session dx [])) g (.dK [])) := same_new s0 ng
  have s2 : Same H (upd (upd (upd (upd H dx (.own x)) x (.ins A.c_Session dx [])) g (.dK [])) x (.ins A.c_Session dx (seF (.int mine) (.int theirs) (.ref a) (.ref b) (.int ((0 : Nat) : Int)) (.int (-1)) (.ref g)))) := same_new s1 hx
  have gx : g ≠ x := fun e => by
    subst e
    rw [upd_same] at hg; cases hg
  refine ⟨ng, s2, ⟨dx, a, b, upd_same, s2 _ _ h1, s2 _ _ h2⟩, ⟨[], by rw [upd_ne gx]; exact upd_same, Nat.le_refl _, fun n => rfl⟩, bo, bi, m1, m2, Nat.zero_le _, fun n h => ?_⟩
  cases h
def RetS (A : Ad) (H : Hp) (s : Sd16.Session) (Q : VK) : Prop := ∀ r g H', H r = none → H g = none → Same H H' → SesAt A H' r g 0 s → Q (.ref r) H'
def sp_answering_session (K : PySem.W.Frag) (A : Ad) : Sp := fun vs H Q _ => ∃ (g mx : Addr) (theirs mine : Nat) (p stamp c h : List Nat), vs = [.ref g, .int mine] ∧ GrAt A H g mx theirs p stamp c h ∧ mine < 2 ^ 32 ∧ RetS A H (newSes mine theirs (Sd16.two c []).2 (Sd16.two c []).1) Q
theorem sc_answering_session : FnScope ["greeting", "mine", "made"] ["greeting", "mine"] (defScope s_answering_session) := ⟨by kernel_rfl, by kernel_rfl, by kernel_rfl, by decide +kernel, by kernel_rfl, by decide +kernel, by decide +kernel⟩
theorem ok_answering_session {P : Program} {w : World} {K : PySem.W.Frag} {mg : Str → Option Value} {base : Heap} {A : Ad} (T : Tx K mg A) : FnOk P w K mg base CX0 8 A.f_answering_session A.d_answering_session ["greeting", "mine"] (sp_answering_session K A) := by
  have G_drawn := ok_drawn (P := P) (w := w) (base := base) T
  have G_Session___init__ := ok_Session___init__ (P := P) (w := w) (base := base) T
  have nd := sc_answering_session.nd
  refine T.F_answering_session.fn.ok sc_answering_session (fun vs H Q E h => ?_) (fun cdv A' outer s H vs Q E hr h => ?_)
  · obtain ⟨g, mx, theirs, mine, p, stamp, c, h, rfl, _⟩ := h
    rfl
  · obtain ⟨g, mx, theirs, mine, p, stamp, c, h, rfl, ⟨pa, sa, dg, eg, lpa, lsa, m0, bp, ls12, bst, ht⟩, hmi, q⟩ := h
    refine ⟨_, (pss_cons (ps_set (i := 2) nd (by rfl) (Or.inl (by rfl)) (pe_call G_drawn (hr.mono (by decide)) (gl_of (by kernel_rfl)) T.F_drawn.mg T.F_drawn.kp T.F_drawn.bd .nil pass0 (pa_cons (pe_nat 2) (pa_cons (pe_fldA (pe_fldA (pv 0) (by rfl) T.C_Greeting.cl (T.C_Greeting.na _ (.tail _ (.tail _ (.tail _ (.head _)))))) (by rfl) T.C_Mixer.cl (T.C_Mixer.na _ (.head _))) (pa_cons (pe_lstN pa_nil) pa_nil)))))
      (pss_one (ps_ret (pe_make T.C_Session.mkc G_Session___init__ (hr.mono (by decide)) (gl_of (by kernel_rfl)) T.C_Session.mg T.F_Session___init__.bd .nil pass0 (pa_cons (pv 1) (pa_cons (pe_fldA (pv 0) (by rfl) T.C_Greeting.cl (T.C_Greeting.na _ (.head _))) (pa_cons (pe_ix ix_list (pv 2) (pe_nat 1) (fun _ _ => rfl)) (pa_cons (pe_ix ix_list (pv 2) (pe_nat 0) (fun _ _ => rfl)) pa_nil)))))))), ?_⟩
    walk_at "tw nf"
    obtain ⟨dx0, ca0, ha0, e0, lc0, lh0, bc0, bh0⟩ := id m0
    refine ⟨_, rfl, g, dg, _, _, rfl, eg, gr_mixer _ _ _ _, mx, dx0, _, _, rfl, e0, mix_chain _ _, [], rfl, (by decide), fun em H1 hem s1 lem => ?_⟩
    refine ⟨ca0, em, c, [], 2, rfl, (by decide), s1 _ _ lc0, lem, bc0.1, bc0.2, Byt.nil, (by decide), fun l ps H2 hl s2 ll hps => ?_⟩
    walk_at "tw nf"
    obtain ⟨k, k2, rfl⟩ : ∃ k k2, ps = [k, k2] := by
      match ps, lhs_len hps with
      | [k, k2], _ => exact ⟨k, k2, rfl⟩
    obtain ⟨t1, t2⟩ := two_b32 c []
    rw [two_at] at q t1 t2
    have lk := lhs_at hps (i := 0) (a := k) rfl
    have lk2 := lhs_at hps (i := 1) (a := k2) rfl
    generalize (Sd16.keys 2 c []).getD 0 [] = w1 at lk q t1
    generalize (Sd16.keys 2 c []).getD 1 [] = w2 at lk2 q t2
    have s12 := s1.trans s2
    refine ⟨_, rfl, _, rfl, g, dg, _, _, rfl, s12 _ _ eg, gr_theirs _ _ _ _, _, rfl, l, _, 1, _, rfl, rfl, SqL.of ll, rfl, _, rfl, l, _, 0, _, rfl, rfl, SqL.of ll, rfl, ?_⟩
    intro x dx hx hd hne
    refine ⟨x, dx, _, _, _, _, rfl, upd_same, fun gd hg => ⟨rfl, ?_⟩⟩
    obtain ⟨ng, sm, S⟩ := ses_new hx hd hg lk2 lk t2 t1 hmi ht
    exact q x gd _ (s12.free hx) (s12.free ng) (s12.trans sm) S
def HsAt (A : Ad) (H : Hp) (h mx : Addr) (w : Sd16.Waiting) : Prop := ∃ dx ma, H h = some (.ins A.c_Handshake dx (hsF (.int w.mine) (.ref ma) (.ref mx))) ∧ LH H ma w.e ∧ MixAt A H mx w.c w.h ∧ B32 w.e ∧ w.mine < 2 ^ 32
theorem HsAt.same {A : Ad} {H H' : Hp} {h mx : Addr} {w : Sd16.Waiting} (x : HsAt A H h mx w) (s : Same H H') : HsAt A H' h mx w := by
  obtain ⟨dx, ma, e, l, m, r⟩ := x
  exact ⟨dx, ma, s _ _ e, s _ _ l, m.same s, r⟩
theorem readSecond_bad {t : Sd16.End} {w : Sd16.Waiting} {m : List Nat} (h : ¬ wellM m (Sd16.publicOf t.secret) 2 92 ∨ number ((m.drop 8).take 4) ≠ w.mine) : Sd16.readSecond t w m = none := by
  have e : little 4 2 = [2, 0, 0, 0] := by decide
  unfold Sd16.readSecond
  rw [if_pos]
  rcases h with h | h
  · unfold wellM at h
    rw [e] at h
    by_cases h1 : m.length = 92
    · by_cases h2 : m.take 4 = [2, 0, 0, 0]
      · exact .inr (.inr (.inl fun h3 => h ⟨h1, h2, h3⟩))
      · exact .inr (.inl h2)
    · exact .inl h1
  · exact .inr (.inr (.inr h))
theorem readSecond_good {t : Sd16.End} {w : Sd16.Waiting} {m : List Nat} (h : wellM m (Sd16.publicOf t.secret) 2 92) (hmi : number ((m.drop 8).take 4) = w.mine) {q d f k0 k2 hh z : List Nat} {ks : List (List Nat)} (hq : q = (m.drop 12).take 32) (hd : d = Sd16.agree w.e q) (hf : f = Sd16.agree t.secret q)
    (hks : ks = ks2 w.c q d f t.psk) (hk0 : k0 = ks.getD 0 []) (hk2 : k2 = ks.getD 2 []) (hhh : hh = hs2 w.c w.h q d f t.psk) (hz : z = (m.drop 44).take 16) :
    Sd16.readSecond t w m = if Sd16.nothing d = true ∨ Sd16.nothing f = true then none else match Sd16.open_ k2 0 z hh with
      | none => none
      | some _ => some (newSes w.mine (number ((m.drop 4).take 4)) (Sd16.two k0 []).1 (Sd16.two k0 []).2) := by
  have e : little 4 2 = [2, 0, 0, 0] := by decide
  obtain ⟨w1, w2, w3⟩ := h
  rw [e] at w2
  have w3' : (m.drop 60).take 16 = Sd16.mac1 (Sd16.publicOf t.secret) (m.take 60) := w3
  have eks : Sd16.keys 3 (Sd16.key1 (Sd16.key1 (Sd16.key1 w.c q) d) f) t.psk = ks := by rw [hks, ks2]
  have ehh : Sd16.hash (Sd16.hash (w.h ++ q) ++ ks.getD 1 []) = hh := by rw [hhh, hs2, ← hks]
  unfold Sd16.readSecond
  rw [if_neg (by
    rintro (h | h | h | h)
    · exact h w1
    · exact h w2
    · exact h w3'
    · exact h hmi)]
  simp only [← hq, ← hd, ← hf, eks, ehh, ← hk0, ← hk2, ← hz]
  split
  · rfl
  · cases Sd16.open_ k2 0 z hh with
    | none => rfl
    | some _ => rfl
def sp_read_second (K : PySem.W.Frag) (A : Ad) : Sp := fun vs H Q _ => ∃ (i h mx a : Addr) (t : Sd16.End) (w : Sd16.Waiting) (m : List Nat), vs = [.ref i, .ref h, .ref a] ∧ IdAt A H i t.secret t.peer t.psk ∧ HsAt A H h mx w ∧ LH H a m ∧ Byt m ∧ m.length ≤ 70000 ∧
  match Sd16.readSecond t w m with
  | none => RetV H .non Q
  | some s => RetS A H s Q
theorem sc_read_second : FnScope ["identity", "handshake", "m", "point", "with_moment", "with_secret", "mixer", "key", "made"] ["identity", "handshake", "m"] (defScope s_read_second) := ⟨by kernel_rfl, by kernel_rfl, by kernel_rfl, by decide +kernel, by kernel_rfl, by decide +kernel, by decide +kernel⟩
theorem ok_read_second {P : Program} {w : World} {K : PySem.W.Frag} {mg : Str → Option Value} {base : Heap} {A : Ad} (T : Tx K mg A) : FnOk P w K mg base CX0 10 A.f_read_second A.d_read_second ["identity", "handshake", "m"] (sp_read_second K A) := by
  have G_is_well_marked := ok_is_well_marked (P := P) (w := w) (base := base) T
  have G_octets_of := ok_octets_of (P := P) (w := w) (base := base) T
  have G_agreed := ok_agreed (P := P) (w := w) (base := base) T
  have G_worth_nothing := ok_worth_nothing (P := P) (w := w) (base := base) T
  have G_Mixer_twin := ok_Mixer_twin (P := P) (w := w) (base := base) T
  have G_key_of_second := ok_key_of_second (P := P) (w := w) (base := base) T
  have G_unseal := ok_unseal (P := P) (w := w) (base := base) T
  have G_drawn := ok_drawn (P := P) (w := w) (base := base) T
  have G_Session___init__ := ok_Session___init__ (P := P) (w := w) (base := base) T
  have G_number_of := ok_number_of (P := P) (w := w) (base := base) T
  have nd := sc_read_second.nd
  refine T.F_read_second.fn.ok sc_read_second (fun vs H Q E h => ?_) (fun cdv A' outer s H vs Q E hr h => ?_)
  · obtain ⟨i, h, mx, a, t, w, m, rfl, _⟩ := h
    rfl
  · obtain ⟨i, h, mx, a, t, wt, m, rfl, I, ⟨dh, mo, eh, hmo, m0, bE, hmine⟩, hM, bM, lM, q⟩ := h
    refine ⟨_, (pss_cons (ps_if (pt_not (pt_val (pe_call G_is_well_marked (hr.mono (by decide)) (gl_of (by kernel_rfl)) T.F_is_well_marked.mg T.F_is_well_marked.kp T.F_is_well_marked.bd .nil pass0 (pa_cons (pv 2) (pa_cons (pe_const (gl_of (by kernel_rfl)) T.M_SECOND) (pa_cons (pe_const (gl_of (by kernel_rfl)) T.M_SIZE_second) (pa_cons (pe_fldA (pv 0) (by rfl) T.C_Identity.cl (T.C_Identity.na _ (.tail _ (.head _)))) pa_nil))))) (by intro _; rfl))) (pss_one (ps_ret pe_non)) pss_nil)
      (pss_cons (ps_if (pt_cmpR (op_neN (un_of hr)) (pe_slice sl_listN (pv 2) (po_some (pe_nat 8)) (po_some (pe_nat 12))) (pe_call G_octets_of (hr.mono (by decide)) (gl_of (by kernel_rfl)) T.F_octets_of.mg T.F_octets_of.kp T.F_octets_of.bd .nil pass0 (pa_cons (pe_fldA (pv 1) (by rfl) T.C_Handshake.cl (T.C_Handshake.na _ (.head _))) (pa_cons (pe_nat 4) pa_nil))) (nomark _)) (pss_one (ps_ret pe_non)) pss_nil)
      (pss_cons (ps_set (i := 3) nd (by rfl) (Or.inl (by rfl)) (pe_slice sl_listN (pv 2) (po_some (pe_nat 12)) (po_some (pe_nat 44))))
      (pss_cons (ps_set (i := 4) nd (by rfl) (Or.inl (by rfl)) (pe_call G_agreed (hr.mono (by decide)) (gl_of (by kernel_rfl)) T.F_agreed.mg T.F_agreed.kp T.F_agreed.bd .nil pass0 (pa_cons (pe_fldA (pv 1) (by rfl) T.C_Handshake.cl (T.C_Handshake.na _ (.tail _ (.head _)))) (pa_cons (pv 3) pa_nil))))
      (pss_cons (ps_set (i := 5) nd (by rfl) (Or.inl (by rfl)) (pe_call G_agreed (hr.mono (by decide)) (gl_of (by kernel_rfl)) T.F_agreed.mg T.F_agreed.kp T.F_agreed.bd .nil pass0 (pa_cons (pe_fldA (pv 0) (by rfl) T.C_Identity.cl (T.C_Identity.na _ (.head _))) (pa_cons (pv 3) pa_nil))))
      (pss_cons (ps_if ((pw_or (pt_val (pe_call G_worth_nothing (hr.mono (by decide)) (gl_of (by kernel_rfl)) T.F_worth_nothing.mg T.F_worth_nothing.kp T.F_worth_nothing.bd .nil pass0 (pa_cons (pv 4) pa_nil)) (by intro _; rfl)) (pw_or1 (pt_val (pe_call G_worth_nothing (hr.mono (by decide)) (gl_of (by kernel_rfl)) T.F_worth_nothing.mg T.F_worth_nothing.kp T.F_worth_nothing.bd .nil pass0 (pa_cons (pv 5) pa_nil)) (by intro _; rfl))))).pt (pss_one (ps_ret pe_non)) pss_nil)
      (pss_cons (ps_set (i := 6) nd (by rfl) (Or.inl (by rfl)) (pe_meth0 (pe_fldA (pv 1) (by rfl) T.C_Handshake.cl (T.C_Handshake.na _ (.tail _ (.tail _ (.head _))))) T.C_Mixer.cl T.F_Mixer_twin.mt G_Mixer_twin (hr.mono (by decide)) T.F_Mixer_twin.bd .nil pass0))
      (pss_cons (ps_set (i := 7) nd (by rfl) (Or.inl (by rfl)) (pe_call G_key_of_second (hr.mono (by decide)) (gl_of (by kernel_rfl)) T.F_key_of_second.mg T.F_key_of_second.kp T.F_key_of_second.bd .nil pass0 (pa_cons (pv 6) (pa_cons (pv 3) (pa_cons (pv 4) (pa_cons (pv 5) (pa_cons (pe_fldA (pv 0) (by rfl) T.C_Identity.cl (T.C_Identity.na _ (.tail _ (.tail _ (.tail _ (.head _)))))) pa_nil)))))))
      (pss_cons (ps_if (pt_cmp (pc_isN (pe_call G_unseal (hr.mono (by decide)) (gl_of (by kernel_rfl)) T.F_unseal.mg T.F_unseal.kp T.F_unseal.bd .nil pass0 (pa_cons (pv 7) (pa_cons (pe_nat 0) (pa_cons (pe_slice sl_listN (pv 2) (po_some (pe_nat 44)) (po_some (pe_nat 60))) (pa_cons (pe_fldA (pv 6) (by rfl) T.C_Mixer.cl (T.C_Mixer.na _ (.tail _ (.head _)))) pa_nil))))))) (pss_one (ps_ret pe_non)) pss_nil)
      (pss_cons (ps_set (i := 8) nd (by rfl) (Or.inl (by rfl)) (pe_call G_drawn (hr.mono (by decide)) (gl_of (by kernel_rfl)) T.F_drawn.mg T.F_drawn.kp T.F_drawn.bd .nil pass0 (pa_cons (pe_nat 2) (pa_cons (pe_fldA (pv 6) (by rfl) T.C_Mixer.cl (T.C_Mixer.na _ (.head _))) (pa_cons (pe_lstN pa_nil) pa_nil)))))
      (pss_one (ps_ret (pe_make T.C_Session.mkc G_Session___init__ (hr.mono (by decide)) (gl_of (by kernel_rfl)) T.C_Session.mg T.F_Session___init__.bd .nil pass0 (pa_cons (pe_fldA (pv 1) (by rfl) T.C_Handshake.cl (T.C_Handshake.na _ (.head _))) (pa_cons (pe_call G_number_of (hr.mono (by decide)) (gl_of (by kernel_rfl)) T.F_number_of.mg T.F_number_of.kp T.F_number_of.bd .nil pass0 (pa_cons (pe_slice sl_listN (pv 2) (po_some (pe_nat 4)) (po_some (pe_nat 8))) pa_nil)) (pa_cons (pe_ix ix_list (pv 8) (pe_nat 0) (fun _ _ => rfl)) (pa_cons (pe_ix ix_list (pv 8) (pe_nat 1) (fun _ _ => rfl)) pa_nil))))))))))))))))), ?_⟩
    walk_at "tw nf"
    obtain ⟨dI, a1, a2, a3, a4, a5, eI, hI1, hI2, hI3, hI4, hI5⟩ := I.ob
    have bo := public_b32 t.secret
    refine ⟨_, rfl, _, rfl, i, dI, _, _, rfl, eI, id_own _ _ _ _ _, a, a2, m, _, 2, 92, rfl, hM, hI2, bM, (by omega), bo.2, bo.1, (by decide), (by decide), fun H1 s1 => ⟨_, rfl, ?_⟩⟩
    by_cases hwm : wellM m (Sd16.publicOf t.secret) 2 92
    · rw [decide_eq_true hwm]
      refine iteF ?_
      have ml := hwm.1
      have l4 : ((m.drop 8).take 4).length = 4 := by rw [List.length_take, List.length_drop]; omega
      refine ⟨_, rfl, _, rfl, _, rfl, a, m, rfl, s1 _ _ hM, (by show (0 : Int) ≤ _; omega), (by show (0 : Int) ≤ _; omega), fun x H2 hx s2 lx => ?_⟩
      rw [cutN_nn] at lx
      have s12 := s1.trans s2
      refine ⟨_, rfl, h, dh, _, _, rfl, s12 _ _ eh, hs_mine _ _ _, wt.mine, 4, rfl, (by decide), fun oc H3 hoc s3 loc => .inl ⟨x, oc, _, _, rfl, rfl, s3 _ _ lx, loc, _, rfl, ?_⟩⟩
      have s13 := s12.trans s3
      have hiff := little_eq_iff (l := (m.drop 8).take 4) (k := 4) (n := wt.mine) ((bM.drop _).take _) l4 (by omega)
      by_cases c1 : (m.drop 8).take 4 = little 4 wt.mine
      · rw [decide_eq_true (show (m.drop 8).take (12 - 8) = little 4 wt.mine from c1)]
        refine iteF ?_
        obtain ⟨p, hp⟩ : ∃ p, p = (m.drop 12).take 32 := ⟨_, rfl⟩
        obtain ⟨d, hd⟩ : ∃ d, d = Sd16.agree wt.e p := ⟨_, rfl⟩
        obtain ⟨f, hf⟩ : ∃ f, f = Sd16.agree t.secret p := ⟨_, rfl⟩
        obtain ⟨ks, hks⟩ : ∃ ks, ks = ks2 wt.c p d f t.psk := ⟨_, rfl⟩
        obtain ⟨k0, hk0⟩ : ∃ k0, k0 = ks.getD 0 [] := ⟨_, rfl⟩
        obtain ⟨k2, hk2⟩ : ∃ k2, k2 = ks.getD 2 [] := ⟨_, rfl⟩
        obtain ⟨hh, hhh⟩ : ∃ hh, hh = hs2 wt.c wt.h p d f t.psk := ⟨_, rfl⟩
        obtain ⟨z, hz⟩ : ∃ z, z = (m.drop 44).take 16 := ⟨_, rfl⟩
        rw [readSecond_good hwm (hiff.mp c1) hp hd hf hks hk0 hk2 hhh hz] at q
        have bp : B32 p := ⟨by rw [hp, List.length_take, List.length_drop]; omega, by rw [hp]; exact (bM.drop _).take _⟩
        have bd : B32 d := by rw [hd]; exact agree_b32 _ _
        have bf : B32 f := by rw [hf]; exact agree_b32 _ _
        have bk0 : B32 k0 := by rw [hk0, hks]; exact ks2_b32 _ _ _ _ _ (by decide)
        have bk2 : B32 k2 := by rw [hk2, hks]; exact ks2_b32 _ _ _ _ _ (by decide)
        have zl : z.length = 16 := by rw [hz, List.length_take, List.length_drop]; omega
        have zb : Byt z := by rw [hz]; exact (bM.drop _).take _
        have dl := bd.1
        have fl := bf.1
        refine ⟨_, rfl, _, rfl, _, rfl, a, m, rfl, s13 _ _ hM, (by show (0 : Int) ≤ _; omega), (by show (0 : Int) ≤ _; omega), fun pt H4 hpt s4 lpt => ?_⟩
        rw [cutN_nn, ← hp] at lpt
        walk_at "tw nf"
        have s14 := s13.trans s4
        refine ⟨_, rfl, h, dh, _, _, rfl, s14 _ _ eh, hs_moment _ _ _, _, rfl, mo, pt, _, p, rfl, s14 _ _ hmo, lpt, bE.2, bp.2, bE.1, bp.1, fun wm H5 hwm5 s5 lwm => ?_⟩
        rw [← hd] at lwm
        walk_at "tw nf"
        have s15 := s14.trans s5
        refine ⟨_, rfl, i, dI, _, _, rfl, s15 _ _ eI, id_secret _ _ _ _ _, _, rfl, a1, pt, _, p, rfl, s15 _ _ hI1, s5 _ _ lpt, I.b1.2, bp.2, I.b1.1, bp.1, fun ws H6 hws s6 lws => ?_⟩
        rw [← hf] at lws
        walk_at "tw nf"
        have s16 := s15.trans s6
        refine ⟨_, rfl, wm, d, rfl, s6 _ _ lwm, (by omega), fun H7 s7 => ⟨_, rfl, ?_⟩⟩
        have s17 := s16.trans s7
        cases hn1 : Sd16.nothing d with
        | true =>
          rw [if_pos (.inl hn1)] at q
          exact iteT (iteT (q _ s17))
        | false =>
          refine iteF ⟨_, rfl, ws, f, rfl, s7 _ _ lws, (by omega), fun H8 s8 => ⟨_, rfl, ?_⟩⟩
          have s18 := s17.trans s8
          cases hn2 : Sd16.nothing f with
          | true =>
            rw [if_pos (.inr hn2)] at q
            exact iteT (q _ s18)
          | false =>
            rw [if_neg (by rw [hn1, hn2]; rintro (h | h) <;> cases h)] at q
            refine iteF ?_
            have m8 := m0.same s18
            obtain ⟨dx8, ca8, ha8, e8, -⟩ := id m8
            refine ⟨_, rfl, h, dh, _, _, rfl, s18 _ _ eh, hs_mixer _ _ _, mx, dx8, _, rfl, e8, (by kernel_rfl), mx, _, _, rfl, m8, fun tw H9 htw s9 m9 => ?_⟩
            walk_at "tw nf"
            have ntw : H tw = none := s18.free htw
            have s19 := s18.trans s9
            have t59 : Same H6 H9 := s7.trans (s8.trans s9)
            refine ⟨_, rfl, _, rfl, _, rfl, _, rfl, _, rfl, i, dI, _, _, rfl, s19 _ _ eI, id_psk _ _ _ _ _, tw, pt, wm, ws, a4, _, _, p, d, f, t.psk, rfl, m9, t59 _ _ (s6 _ _ (s5 _ _ lpt)), t59 _ _ (s6 _ _ lwm), t59 _ _ lws, s19 _ _ hI4, bp, bd, bf, I.b3, fun ky H10 u10 m10 lky => ?_⟩
            rw [← hks, ← hk0, ← hhh] at m10
            rw [← hks, ← hk2] at lky
            walk_at "tw nf"
            have S10 := SameBut.new s19 ntw u10
            refine ⟨_, rfl, _, rfl, _, rfl, _, rfl, a, m, rfl, S10 _ _ hM, (by show (0 : Int) ≤ _; omega), (by show (0 : Int) ≤ _; omega), fun za H11 hza s11 lza => ?_⟩
            rw [cutN_nn, ← hz] at lza
            have m11 := m10.same s11
            have S11 := S10.trans s11
            obtain ⟨dx11, ca11, ha11, e11, -, lh11, -, bh11⟩ := id m11
            refine ⟨_, rfl, tw, dx11, _, _, rfl, e11, mix_seen _ _, ky, za, ha11, _, _, _, 0, rfl, s11 _ _ lky, lza, lh11, bk2.2, zb, bh11.2, bk2.1, (by omega), (by rw [bh11.1]; decide), ?_⟩
            cases ho : Sd16.open_ k2 0 z hh with
            | none =>
              rw [ho] at q
              intro H12 s12'
              exact ⟨_, rfl, iteT (q _ (S11.trans s12'))⟩
            | some pl =>
              rw [ho] at q
              intro pa H12 hpa s12' lpa
              have S12 := S11.trans s12'
              have m12 := m11.same s12'
              refine ⟨_, rfl, iteF ?_⟩
              obtain ⟨dx12, ca12, ha12, e12, lc12, -⟩ := id m12
              refine ⟨_, rfl, tw, dx12, _, _, rfl, e12, mix_chain _ _, [], rfl, (by decide), fun em H13 hem s13' lem => ?_⟩
              refine ⟨ca12, em, k0, [], 2, rfl, (by decide), s13' _ _ lc12, lem, bk0.1, bk0.2, Byt.nil, (by decide), fun l ps H14 hl s14' ll hps => ?_⟩
              walk_at "tw nf"
              obtain ⟨k, k', rfl⟩ : ∃ k k', ps = [k, k'] := by
                match ps, lhs_len hps with
                | [k, k'], _ => exact ⟨k, k', rfl⟩
              have t2b := two_b32 k0 []
              have q' : RetS A H (newSes wt.mine (number ((m.drop 4).take 4)) (Sd16.two k0 []).1 (Sd16.two k0 []).2) Q := q
              rw [two_at] at q' t2b
              have lk := lhs_at hps (i := 0) (a := k) rfl
              have lk2 := lhs_at hps (i := 1) (a := k') rfl
              generalize (Sd16.keys 2 k0 []).getD 0 [] = w1 at lk q' t2b
              generalize (Sd16.keys 2 k0 []).getD 1 [] = w2 at lk2 q' t2b
              have S14 := S12.trans (s13'.trans s14')
              have nl : number ((m.drop 4).take (8 - 4)) < 2 ^ 32 := word_lt bM 4
              refine ⟨_, rfl, h, dh, _, _, rfl, S14 _ _ eh, hs_mine _ _ _, _, rfl, _, rfl, _, rfl, a, m, rfl, S14 _ _ hM, (by show (0 : Int) ≤ _; omega), (by show (0 : Int) ≤ _; omega), fun ta H15 hta s15' lta => ?_⟩
              rw [cutN_nn] at lta
              refine ⟨ta, _, rfl, lta, (bM.drop _).take _, (by rw [List.length_take]; omega), fun H16 s16' => ?_⟩
              have t1516 := s15'.trans s16'
              have ll16 := t1516 _ _ ll
              refine ⟨_, rfl, l, _, 0, _, rfl, rfl, SqL.of ll16, rfl, _, rfl, l, _, 1, _, rfl, rfl, SqL.of ll16, rfl, ?_⟩
              intro x' dx hx' hd' hne
              refine ⟨x', dx, _, _, _, _, rfl, upd_same, fun gd hg => ⟨rfl, ?_⟩⟩
              have S16 := S14.trans t1516
              obtain ⟨ng, sm, S⟩ := ses_new (mine := wt.mine) (theirs := number ((m.drop 4).take (8 - 4))) hx' hd' hg (t1516 _ _ lk) (t1516 _ _ lk2) t2b.1 t2b.2 hmine nl
              exact q' x' gd _ (S16.free hx') (S16.free ng) (S16.trans sm) S
      · rw [decide_eq_false (show ¬ (m.drop 8).take (12 - 8) = little 4 wt.mine from c1)]
        rw [readSecond_bad (.inr fun h => c1 (hiff.mpr h))] at q
        exact iteT (q _ s13)
    · rw [decide_eq_false hwm]
      rw [readSecond_bad (.inl hwm)] at q
      exact iteT (q _ s1)
end Tw
namespace Tw
open PySem L2
open Sd16 (number little u32)
def enF (a b c d e f : V) : List (Str × V) := [("identity", a), ("latest_stamp", b), ("handshake", c), ("fresh", d), ("current", e), ("former", f)]
theorem en_identity (a b c d e f : V) : (enF a b c d e f).lookup ("identity" : Str) = some a := by kernel_rfl
theorem en_stamp (a b c d e f : V) : (enF a b c d e f).lookup ("latest_stamp" : Str) = some b := by kernel_rfl
theorem en_hs (a b c d e f : V) : (enF a b c d e f).lookup ("handshake" : Str) = some c := by kernel_rfl
theorem en_fresh (a b c d e f : V) : (enF a b c d e f).lookup ("fresh" : Str) = some d := by kernel_rfl
theorem en_current (a b c d e f : V) : (enF a b c d e f).lookup ("current" : Str) = some e := by kernel_rfl
theorem en_former (a b c d e f : V) : (enF a b c d e f).lookup ("former" : Str) = some f := by kernel_rfl
theorem en_put_stamp (a b c d e f v : V) : putF "latest_stamp" v (enF a b c d e f) = enF a v c d e f := by kernel_rfl
theorem en_put_hs (a b c d e f v : V) : putF "handshake" v (enF a b c d e f) = enF a b v d e f := by kernel_rfl
theorem en_put_fresh (a b c d e f v : V) : putF "fresh" v (enF a b c d e f) = enF a b c v e f := by kernel_rfl
theorem en_put_current (a b c d e f v : V) : putF "current" v (enF a b c d e f) = enF a b c d v f := by kernel_rfl
theorem en_put_former (a b c d e f v : V) : putF "former" v (enF a b c d e f) = enF a b c d e v := by kernel_rfl
def Stb (lo : Nat) (o : HO) : Prop := ((∃ l, o = .lst l) ∨ ∃ o' u, o = .frz o' u) ∨ ∃ C d fs, o = .ins C d fs ∧ lo ≤ fs.length ∧ fs.length ≤ 5
def Fr (lo : Nat) (H H' : Hp) : Prop := ∀ b o, Stb lo o → H b = some o → H' b = some o
theorem _root_.L2.Same.fr {H H' : Hp} (s : Same H H') (lo : Nat) : Fr lo H H' := fun b o _ h => s b o h
theorem Fr.trans {lo : Nat} {H H1 H2 : Hp} (a : Fr lo H H1) (b : Fr lo H1 H2) : Fr lo H H2 := fun c o n h => b c o n (a c o n h)
theorem Fr.mono {lo lo' : Nat} {H H1 : Hp} (a : Fr lo H H1) (h : lo ≤ lo') : Fr lo' H H1 := fun c o n e => a c o (by
  rcases n with n | ⟨C, d, fs, e1, e2, e3⟩
  · exact .inl n
  · exact .inr ⟨C, d, fs, e1, by omega, e3⟩) e
theorem Fr.lst {lo : Nat} {H H' : Hp} (s : Fr lo H H') {a : Addr} {l : List V} (h : H a = some (.lst l)) : H' a = some (.lst l) := s a _ (.inl (.inl ⟨l, rfl⟩)) h
theorem SameBut.fr {p C dx : Addr} {fs : List (Str × V)} {H H' : Hp} (s : SameBut p H H') {lo : Nat} (hp : H p = some (.ins C dx fs)) (hl : fs.length < lo ∨ 5 < fs.length) : Fr lo H H' := fun b o n h => by
  refine s b o (fun e => ?_) h
  subst e
  rw [hp] at h
  injection h with h
  subst h
  rcases n with (⟨l, n⟩ | ⟨o', u', n⟩) | ⟨C, d, gs, e1, e2, e3⟩
  · cases n
  · cases n
  · injection e1 with _ _ e1
    subst e1
    omega
theorem SameB2.fr {A : Ad} {p g : Addr} {k : Nat} {s : Sd16.Session} {H H' : Hp} (u : SameB2 p g H H') (x : SesAt A H p g k s) (lo : Nat) : Fr lo H H' := fun b o n h => by
  obtain ⟨dx, a, b', e, _⟩ := x.ob
  obtain ⟨kvs, hg, _⟩ := x.di
  refine u b o (fun z => ?_) (fun z => ?_) h
  · subst z
    rw [e] at h
    injection h with h
    subst h
    rcases n with (⟨l, n⟩ | ⟨o', u', n⟩) | ⟨C, d, gs, e1, e2, e3⟩
    · cases n
    · cases n
    · injection e1 with _ _ e1
      subst e1
      exact absurd e3 (by show ¬ 7 ≤ 5; decide)
  · subst z
    rw [hg] at h
    injection h with h
    subst h
    rcases n with (⟨l, n⟩ | ⟨o', u', n⟩) | ⟨C, d, gs, e1, e2, e3⟩
    · cases n
    · cases n
    · cases e1
theorem IdAt.fr {A : Ad} {H H' : Hp} {p : Addr} {s pe k : List Nat} {lo : Nat} (m : IdAt A H p s pe k) (sm : Fr lo H H') (hl : lo ≤ 2) : IdAt A H' p s pe k := by
  obtain ⟨⟨dx, a, b, c, d, e, h, h1, h2, h3, h4, h5⟩, r1, r2, r3⟩ := m
  exact ⟨⟨dx, a, b, c, d, e, sm _ _ (.inr ⟨_, _, _, rfl, (by show lo ≤ 5; omega), by show 5 ≤ 5; omega⟩) h, sm.lst h1, sm.lst h2, sm.lst h3, sm.lst h4, sm.lst h5⟩, r1, r2, r3⟩
theorem MixAt.fr {A : Ad} {H H' : Hp} {p : Addr} {c h : List Nat} {lo : Nat} (m : MixAt A H p c h) (s : Fr lo H H') (hl : lo ≤ 2) : MixAt A H' p c h := by
  obtain ⟨dx, ca, ha, e, h1, h2, r⟩ := m
  exact ⟨dx, ca, ha, s _ _ (.inr ⟨_, _, _, rfl, (by show lo ≤ 2; omega), by show 2 ≤ 5; omega⟩) e, s.lst h1, s.lst h2, r⟩
theorem HsAt.fr {A : Ad} {H H' : Hp} {h mx : Addr} {w : Sd16.Waiting} {lo : Nat} (x : HsAt A H h mx w) (s : Fr lo H H') (hl : lo ≤ 2) : HsAt A H' h mx w := by
  obtain ⟨dx, ma, e, l, m, r⟩ := x
  exact ⟨dx, ma, s _ _ (.inr ⟨_, _, _, rfl, (by show lo ≤ 3; omega), by show 3 ≤ 5; omega⟩) e, s.lst l, m.fr s hl, r⟩
def StO (H : Hp) (v : V) : Option (List Nat) → Prop
  | none => v = .non
  | some l => ∃ a, v = .ref a ∧ LH H a l ∧ l.length = 12
def HsO (A : Ad) (H : Hp) (v : V) : Option Sd16.Waiting → Prop
  | none => v = .non
  | some w => ∃ h mx, v = .ref h ∧ HsAt A H h mx w
def SesO (A : Ad) (H : Hp) (v : V) (p g : Addr) (k : Nat) : Option Sd16.Session → Prop
  | none => v = .non
  | some s => v = .ref p ∧ SesAt A H p g k s
def Sep (v1 : V) (p1 g1 : Addr) (v2 : V) (p2 g2 : Addr) : Prop := v1 ≠ .non → v2 ≠ .non → p1 ≠ p2 ∧ g1 ≠ g2
theorem StO.fr {H H' : Hp} {v : V} {o : Option (List Nat)} {lo : Nat} (x : StO H v o) (s : Fr lo H H') : StO H' v o := by
  cases o with
  | none => exact x
  | some l =>
    obtain ⟨a, e, h, r⟩ := x
    exact ⟨a, e, s.lst h, r⟩
theorem HsO.fr {A : Ad} {H H' : Hp} {v : V} {o : Option Sd16.Waiting} {lo : Nat} (x : HsO A H v o) (s : Fr lo H H') (hl : lo ≤ 2) : HsO A H' v o := by
  cases o with
  | none => exact x
  | some l =>
    obtain ⟨a, mx, e, h⟩ := x
    exact ⟨a, mx, e, h.fr s hl⟩
theorem SesO.keep {A : Ad} {H H' : Hp} {v : V} {p g : Addr} {k : Nat} {o : Option Sd16.Session} (x : SesO A H v p g k o) (h : v ≠ .non → ∀ b o, H b = some o → (b = p ∨ b = g ∨ ∃ l, o = .lst l) → H' b = some o) : SesO A H' v p g k o := by
  cases o with
  | none => exact x
  | some l =>
    obtain ⟨rfl, X⟩ := x
    exact ⟨rfl, X.keep (h (by intro z; cases z))⟩
theorem SesO.mono {A : Ad} {H : Hp} {v : V} {p g : Addr} {k k' : Nat} {o : Option Sd16.Session} (x : SesO A H v p g k o) (h : k ≤ k') : SesO A H v p g k' o := by
  cases o with
  | none => exact x
  | some l =>
    obtain ⟨rfl, X⟩ := x
    exact ⟨rfl, X.mono h⟩
theorem SesO.but {A : Ad} {H H' : Hp} {v : V} {q C dx p g : Addr} {fs : List (Str × V)} {k : Nat} {o : Option Sd16.Session} (x : SesO A H v p g k o) (u : SameBut q H H') (hq : H q = some (.ins C dx fs)) (hl : fs.length ≤ 6) : SesO A H' v p g k o := by
  cases o with
  | none => exact x
  | some s =>
    obtain ⟨rfl, X⟩ := x
    refine ⟨rfl, X.keep fun b o' e h => u b o' (fun z => ?_) e⟩
    subst z
    obtain ⟨dx', a, b', e', _⟩ := X.ob
    obtain ⟨kvs, hg, _⟩ := X.di
    rcases h with h | h | ⟨l, h⟩
    · subst h
      rw [e'] at hq
      injection hq with hq
      injection hq with _ _ hq
      subst hq
      exact absurd hl (by show ¬ 7 ≤ 6; decide)
    · subst h
      rw [hg] at hq
      cases hq
    · subst h
      rw [hq] at e
      cases e
theorem SesO.b2 {A : Ad} {H H' : Hp} {v : V} {p g p' g' : Addr} {k k' : Nat} {o : Option Sd16.Session} {s' : Sd16.Session} (x : SesO A H v p g k o) (u : SameB2 p' g' H H') (X' : SesAt A H p' g' k' s') (h : v ≠ .non → p ≠ p' ∧ g ≠ g') : SesO A H' v p g k o := by
  cases o with
  | none => exact x
  | some s =>
    obtain ⟨rfl, X⟩ := x
    obtain ⟨n1, n2⟩ := h (by intro z; cases z)
    obtain ⟨dx', a, b', e', _⟩ := X.ob
    obtain ⟨kvs, hg, _⟩ := X.di
    obtain ⟨dx2, a2, b2, e2, _⟩ := X'.ob
    obtain ⟨kvs2, hg2, _⟩ := X'.di
    refine ⟨rfl, X.keep fun b o' e h1 => u b o' ?_ ?_ e⟩
    · rintro rfl
      rcases h1 with h | h | ⟨l, h⟩
      · exact n1 h.symm
      · subst h; rw [hg] at e2; cases e2
      · subst h; rw [e2] at e; cases e
    · rintro rfl
      rcases h1 with h | h | ⟨l, h⟩
      · subst h; rw [e'] at hg2; cases hg2
      · exact n2 h.symm
      · subst h; rw [hg2] at e; cases e
structure EndF (A : Ad) (H : Hp) (k : Nat) (i : Addr) (st hs fr cu fo : V) (pf gf pc gc po go : Addr) (t : Sd16.End) : Prop where
  xi : IdAt A H i t.secret t.peer t.psk
  xs : StO H st t.stamp
  xh : HsO A H hs t.waiting
  xf : SesO A H fr pf gf k t.fresh
  xc : SesO A H cu pc gc k t.current
  xo : SesO A H fo po go k t.former
  s1 : Sep fr pf gf cu pc gc
  s2 : Sep fr pf gf fo po go
  s3 : Sep cu pc gc fo po go
def EndAt (A : Ad) (H : Hp) (p : Addr) (k : Nat) (t : Sd16.End) : Prop := ∃ dx i st hs fr cu fo pf gf pc gc po go, H p = some (.ins A.c_End dx (enF (.ref i) st hs fr cu fo)) ∧ EndF A H k i st hs fr cu fo pf gf pc gc po go t
theorem EndF.same {A : Ad} {H H' : Hp} {k : Nat} {i : Addr} {st hs fr cu fo : V} {pf gf pc gc po go : Addr} {t : Sd16.End} (x : EndF A H k i st hs fr cu fo pf gf pc gc po go t) (s : Same H H') : EndF A H' k i st hs fr cu fo pf gf pc gc po go t :=
  ⟨x.xi.same s, x.xs.fr (s.fr 0), x.xh.fr (s.fr 0) (by decide), x.xf.keep fun _ b o h _ => s b o h, x.xc.keep fun _ b o h _ => s b o h, x.xo.keep fun _ b o h _ => s b o h, x.s1, x.s2, x.s3⟩
theorem EndF.but {A : Ad} {H H' : Hp} {k : Nat} {i q C dx : Addr} {st hs fr cu fo : V} {pf gf pc gc po go : Addr} {t : Sd16.End} {fs : List (Str × V)} (x : EndF A H k i st hs fr cu fo pf gf pc gc po go t) (u : SameBut q H H') (hq : H q = some (.ins C dx fs)) (hl : fs.length = 6 ∨ fs.length = 1) : EndF A H' k i st hs fr cu fo pf gf pc gc po go t :=
  have f : Fr 2 H H' := u.fr hq (by omega)
  ⟨x.xi.fr f (by decide), x.xs.fr f, x.xh.fr f (by decide), x.xf.but u hq (by omega), x.xc.but u hq (by omega), x.xo.but u hq (by omega), x.s1, x.s2, x.s3⟩
theorem EndF.mono {A : Ad} {H : Hp} {k k' : Nat} {i : Addr} {st hs fr cu fo : V} {pf gf pc gc po go : Addr} {t : Sd16.End} (x : EndF A H k i st hs fr cu fo pf gf pc gc po go t) (h : k ≤ k') : EndF A H k' i st hs fr cu fo pf gf pc gc po go t :=
  ⟨x.xi, x.xs, x.xh, x.xf.mono h, x.xc.mono h, x.xo.mono h, x.s1, x.s2, x.s3⟩
theorem lex_before : ∀ {a b : List Nat}, a.length = b.length → HT.lexGt (a.map fun (n : Nat) => (n : Int)) (b.map fun (n : Nat) => (n : Int)) = Sd16.before b a
  | [], [], _ => rfl
  | x :: a, y :: b, h => by
    have ih := lex_before (a := a) (b := b) (by simpa using h)
    show (if (x : Int) = (y : Int) then HT.lexGt _ _ else decide ((y : Int) < (x : Int))) = (decide (y < x) || (y == x && Sd16.before b a))
    rw [ih]
    by_cases e : x = y
    · subst e
      rw [if_pos rfl, decide_eq_false (Nat.lt_irrefl x)]
      simp
    · rw [if_neg (by omega)]
      have e2 : (y == x) = false := by simpa using fun h => e h.symm
      rw [e2, Bool.false_and, Bool.or_false]
      exact decide_eq_decide.mpr (by omega)
def later (o : Option (List Nat)) (s : List Nat) : Bool := match o with
  | none => true
  | some l => Sd16.before l s
theorem readFirst_stamp (t : Sd16.End) (m : List Nat) : Sd16.readFirst t m = match Sd16.readFirst (noStamp t) m with
    | none => none
    | some x => if later t.stamp x.2.2.1 = false then none else some x := by
  cases t with
  | mk secret peer psk stamp waiting fresh current former =>
    unfold Sd16.readFirst noStamp
    dsimp only
    split
    · rfl
    · generalize Sd16.nothing _ = n
      generalize Sd16.open_ _ _ _ _ = o1
      generalize Sd16.open_ _ _ _ _ = o2
      cases n with
      | true => rfl
      | false =>
        rw [if_neg (by decide), if_neg (by decide)]
        cases o1 with
        | none => cases o2 <;> rfl
        | some a =>
          by_cases ha : a = peer
          · subst ha
            have e0 : ∀ {α : Type} (x y : Option α), (if a ≠ a then x else y) = y := fun x y => if_neg fun h => h rfl
            cases o2 with
            | none =>
              show (if a ≠ a then none else none) = (match (if a ≠ a then (none : Option (Nat × List Nat × List Nat × List Nat × List Nat)) else none) with | none => none | some x => _)
              simp only [e0]
            | some b =>
              cases stamp with
              | none =>
                show (if a ≠ a then none else some _) = (match (if a ≠ a then (none : Option (Nat × List Nat × List Nat × List Nat × List Nat)) else some _) with | none => none | some x => _)
                simp only [e0]
                try rfl
              | some l =>
                show (if a ≠ a then none else if (!Sd16.before l b) = true then none else some _) = (match (if a ≠ a then (none : Option (Nat × List Nat × List Nat × List Nat × List Nat)) else some _) with | none => none | some x => _)
                simp only [e0]
                show _ = if Sd16.before l b = false then none else some _
                cases Sd16.before l b <;> rfl
          · have e1 : ∀ {α : Type} (x y : Option α), (if a ≠ peer then x else y) = x := fun x y => if_pos ha
            show (if a ≠ peer then none else _) = (match (if a ≠ peer then (none : Option (Nat × List Nat × List Nat × List Nat × List Nat)) else _) with | none => none | some x => _)
            simp only [e1]
def sp_End___init__ (K : PySem.W.Frag) (A : Ad) : Sp := fun vs H Q _ => ∃ (p dx : Addr) (a : V), vs = [.ref p, a] ∧ H p = some (.ins A.c_End dx []) ∧ Q .non (upd H p (.ins A.c_End dx (enF a .non .non .non .non .non)))
def sp_End_is_later (K : PySem.W.Frag) (A : Ad) : Sp := fun vs H Q _ => ∃ (p dx i sa : Addr) (st hs fr cu fo : V) (o : Option (List Nat)) (l : List Nat), vs = [.ref p, .ref sa] ∧ H p = some (.ins A.c_End dx (enF (.ref i) st hs fr cu fo)) ∧ StO H st o ∧ LH H sa l ∧ l.length = 12 ∧ RetV H (.bl (later o l)) Q
def sp_End_make_current (K : PySem.W.Frag) (A : Ad) : Sp := fun vs H Q _ => ∃ (p dx i : Addr) (st hs fr cu fo v : V), vs = [.ref p, v] ∧ H p = some (.ins A.c_End dx (enF (.ref i) st hs fr cu fo)) ∧ Q .non (upd H p (.ins A.c_End dx (enF (.ref i) st hs .non v cu)))
def readO (o : Option Sd16.Session) (m : List Nat) : Option (Sd16.Session × Nat × List Nat) := o.bind fun s => (Sd16.readPacket s m).map fun x => (s, x)
def sp_accepted (K : PySem.W.Frag) (A : Ad) : Sp := fun vs H Q _ => ∃ (p g a : Addr) (k : Nat) (v : V) (o : Option Sd16.Session) (m : List Nat), vs = [v, .ref a] ∧ SesO A H v p g k o ∧ k < 1000 ∧ LH H a m ∧ Byt m ∧ m.length ≤ 70000 ∧ pform m ∧
  match readO o m with
  | none => RetV H .non Q
  | some (s, n, b) => v = .ref p → SesAt A H p g k s → ∀ r H', SameB2 p g H H' → SesAt A H' p g (k + 1) (s.got n) → LH H' r b → Q (.ref r) H'
theorem sc_End___init__ : FnScope ["self", "identity"] ["self", "identity"] (defScope s_End___init__) := ⟨by kernel_rfl, by kernel_rfl, by kernel_rfl, by decide +kernel, by kernel_rfl, by decide +kernel, by decide +kernel⟩
theorem ok_End___init__ {P : Program} {w : World} {K : PySem.W.Frag} {mg : Str → Option Value} {base : Heap} {A : Ad} (T : Tx K mg A) : FnOk P w K mg base CX0 1 A.f_End___init__ A.d_End___init__ ["self", "identity"] (sp_End___init__ K A) := by
  have nd := sc_End___init__.nd
  refine T.F_End___init__.fn.ok sc_End___init__ (fun vs H Q E h => ?_) (fun cdv A' outer s H vs Q E hr h => ?_)
  · obtain ⟨p, dx, a, rfl, _⟩ := h
    rfl
  · obtain ⟨p, dx, a, rfl, hp, q⟩ := h
    refine ⟨_, (pss_cons (ps_fldA (pv 0) (pv 1) (by rfl) T.C_End.cl (T.C_End.na _ (.head _)))
      (pss_cons (ps_fldA (pv 0) pe_non (by rfl) T.C_End.cl (T.C_End.na _ (.tail _ (.head _))))
      (pss_cons (ps_fldA (pv 0) pe_non (by rfl) T.C_End.cl (T.C_End.na _ (.tail _ (.tail _ (.head _)))))
      (pss_cons (ps_fldA (pv 0) pe_non (by rfl) T.C_End.cl (T.C_End.na _ (.tail _ (.tail _ (.tail _ (.head _))))))
      (pss_cons (ps_fldA (pv 0) pe_non (by rfl) T.C_End.cl (T.C_End.na _ (.tail _ (.tail _ (.tail _ (.tail _ (.head _)))))))
      (pss_one (ps_fldA (pv 0) pe_non (by rfl) T.C_End.cl (T.C_End.na _ (.tail _ (.tail _ (.tail _ (.tail _ (.tail _ (.head _)))))))))))))), ?_⟩
    refine ⟨_, rfl, _, rfl, p, dx, _, rfl, hp, (by decide), ?_⟩
    refine ⟨_, rfl, p, dx, _, rfl, upd_same, (by show 1 < 1000; decide), ?_⟩
    refine ⟨_, rfl, p, dx, _, rfl, upd_same, (by show 2 < 1000; decide), ?_⟩
    refine ⟨_, rfl, p, dx, _, rfl, upd_same, (by show 3 < 1000; decide), ?_⟩
    refine ⟨_, rfl, p, dx, _, rfl, upd_same, (by show 4 < 1000; decide), ?_⟩
    refine ⟨_, rfl, p, dx, _, rfl, upd_same, (by show 5 < 1000; decide), ?_⟩
    rw [upd_upd, upd_upd, upd_upd, upd_upd, upd_upd]
    exact q
theorem sc_End_is_later : FnScope ["self", "stamp"] ["self", "stamp"] (defScope s_End_is_later) := ⟨by kernel_rfl, by kernel_rfl, by kernel_rfl, by decide +kernel, by kernel_rfl, by decide +kernel, by decide +kernel⟩
theorem ok_End_is_later {P : Program} {w : World} {K : PySem.W.Frag} {mg : Str → Option Value} {base : Heap} {A : Ad} (T : Tx K mg A) : FnOk P w K mg base CX0 1 A.f_End_is_later A.d_End_is_later ["self", "stamp"] (sp_End_is_later K A) := by
  have nd := sc_End_is_later.nd
  refine T.F_End_is_later.fn.ok sc_End_is_later (fun vs H Q E h => ?_) (fun cdv A' outer s H vs Q E hr h => ?_)
  · obtain ⟨p, dx, i, sa, st, hs, fr, cu, fo, o, l, rfl, _⟩ := h
    rfl
  · obtain ⟨p, dx, i, sa, st, hs, fr, cu, fo, o, l, rfl, hp, hst, hl, l12, q⟩ := h
    refine ⟨_, (pss_one (ps_ret (pe_or (pe_cmp (pc_isN (pe_fldA (pv 0) (by rfl) T.C_End.cl (T.C_End.na _ (.tail _ (.head _)))))) (pe_one (pe_cmpR (op_gtN (un0_of hr)) (pv 1) (pe_fldA (pv 0) (by rfl) T.C_End.cl (T.C_End.na _ (.tail _ (.head _)))) (nomark _)))))), ?_⟩
    refine ⟨_, rfl, p, dx, _, _, rfl, hp, en_stamp _ _ _ _ _ _, ?_⟩
    cases o with
    | none =>
      have hst' : st = .non := hst
      subst hst'
      exact ⟨_, rfl, iteT (q _ (Same.refl _))⟩
    | some o =>
      obtain ⟨a, rfl, ha, la⟩ := hst
      refine ⟨_, rfl, iteF ?_⟩
      refine ⟨_, rfl, _, rfl, p, dx, _, _, rfl, hp, en_stamp _ _ _ _ _ _, sa, a, _, _, rfl, rfl, hl, ha, by omega, ?_⟩
      rw [lex_before (by omega)]
      exact q _ (Same.refl _)
theorem sc_End_make_current : FnScope ["self", "session"] ["self", "session"] (defScope s_End_make_current) := ⟨by kernel_rfl, by kernel_rfl, by kernel_rfl, by decide +kernel, by kernel_rfl, by decide +kernel, by decide +kernel⟩
theorem ok_End_make_current {P : Program} {w : World} {K : PySem.W.Frag} {mg : Str → Option Value} {base : Heap} {A : Ad} (T : Tx K mg A) : FnOk P w K mg base CX0 1 A.f_End_make_current A.d_End_make_current ["self", "session"] (sp_End_make_current K A) := by
  have nd := sc_End_make_current.nd
  refine T.F_End_make_current.fn.ok sc_End_make_current (fun vs H Q E h => ?_) (fun cdv A' outer s H vs Q E hr h => ?_)
  · obtain ⟨p, dx, i, st, hs, fr, cu, fo, v, rfl, _⟩ := h
    rfl
  · obtain ⟨p, dx, i, st, hs, fr, cu, fo, v, rfl, hp, q⟩ := h
    refine ⟨_, (pss_cons (ps_fldA (pv 0) (pe_fldA (pv 0) (by rfl) T.C_End.cl (T.C_End.na _ (.tail _ (.tail _ (.tail _ (.tail _ (.head _))))))) (by rfl) T.C_End.cl (T.C_End.na _ (.tail _ (.tail _ (.tail _ (.tail _ (.tail _ (.head _))))))))
      (pss_cons (ps_fldA (pv 0) (pv 1) (by rfl) T.C_End.cl (T.C_End.na _ (.tail _ (.tail _ (.tail _ (.tail _ (.head _)))))))
      (pss_one (ps_fldA (pv 0) pe_non (by rfl) T.C_End.cl (T.C_End.na _ (.tail _ (.tail _ (.tail _ (.head _))))))))), ?_⟩
    refine ⟨_, rfl, p, dx, _, _, rfl, hp, en_current _ _ _ _ _ _, _, rfl, p, dx, _, rfl, hp, (by show 6 < 1000; decide), ?_⟩
    rw [en_put_former]
    refine ⟨_, rfl, _, rfl, p, dx, _, rfl, upd_same, (by show 6 < 1000; decide), ?_⟩
    rw [en_put_current, upd_upd]
    refine ⟨_, rfl, p, dx, _, rfl, upd_same, (by show 6 < 1000; decide), ?_⟩
    rw [en_put_fresh, upd_upd]
    exact q
theorem sc_accepted : FnScope ["session", "m"] ["session", "m"] (defScope s_accepted) := ⟨by kernel_rfl, by kernel_rfl, by kernel_rfl, by decide +kernel, by kernel_rfl, by decide +kernel, by decide +kernel⟩
theorem ok_accepted {P : Program} {w : World} {K : PySem.W.Frag} {mg : Str → Option Value} {base : Heap} {A : Ad} (T : Tx K mg A) : FnOk P w K mg base CX0 7 A.f_accepted A.d_accepted ["session", "m"] (sp_accepted K A) := by
  have G_Session_accept := ok_Session_accept (P := P) (w := w) (base := base) T
  have nd := sc_accepted.nd
  refine T.F_accepted.fn.ok sc_accepted (fun vs H Q E h => ?_) (fun cdv A' outer s H vs Q E hr h => ?_)
  · obtain ⟨p, g, a, k, v, o, m, rfl, _⟩ := h
    rfl
  · obtain ⟨p, g, a, k, v, o, m, rfl, hv, hk, hM, bM, lM, hf, q⟩ := h
    refine ⟨_, (pss_cons (ps_if (pt_cmp (pc_isN (pv 0))) (pss_one (ps_ret pe_non)) pss_nil)
      (pss_one (ps_ret (pe_meth (pv 0) T.C_Session.cl T.F_Session_accept.mt G_Session_accept (hr.mono (by decide)) T.F_Session_accept.bd .nil pass0 (pa_cons (pv 1) pa_nil))))), ?_⟩
    cases o with
    | none =>
      have hv' : v = .non := hv
      subst hv'
      exact ⟨_, rfl, _, rfl, iteT (q _ (Same.refl _))⟩
    | some s =>
      obtain ⟨rfl, X⟩ := hv
      refine ⟨_, rfl, _, rfl, iteF ?_⟩
      obtain ⟨dx, b, c, e, _⟩ := X.ob
      refine ⟨_, rfl, p, dx, _, rfl, e, (by kernel_rfl), _, rfl, p, g, a, k, s, m, rfl, X, hk, hM, bM, lM, hf, ?_⟩
      have q' : match (Sd16.readPacket s m).map (fun x => (s, x)) with
        | none => RetV H .non Q
        | some (s, n, b) => (V.ref p) = .ref p → SesAt A H p g k s → ∀ r H', SameB2 p g H H' → SesAt A H' p g (k + 1) (s.got n) → LH H' r b → Q (.ref r) H' := q
      cases ho : Sd16.readPacket s m with
      | none =>
        rw [ho] at q'
        exact fun H' h => q' H' h
      | some x =>
        rw [ho] at q'
        exact fun r H' u X' l => q' rfl X r H' u X' l
end Tw
namespace Tw
open PySem L2
open Sd16 (number little u32)
def RetE (A : Ad) (H : Hp) (p : Addr) (k : Nat) (x : Sd16.End × Int × List Nat) (Q : VK) : Prop := ∀ r H', Fr 1 H H' → EndAt A H' p k x.1 → H' r = some (.lst (.int x.2.1 :: bs x.2.2)) → Q (.ref r) H'
theorem begin_len (t : Sd16.End) (e : List Nat) (mine : Nat) (stamp : List Nat) (bS : Byt stamp) (l12 : stamp.length = 12) : (Sd16.begin_ t e mine stamp).1.length = 148 := by
  have bp := public_b32 e
  have bo := public_b32 t.secret
  obtain ⟨p, hp⟩ : ∃ p, p = Sd16.publicOf e := ⟨_, rfl⟩
  obtain ⟨c1, hc1⟩ : ∃ c1, c1 = Sd16.key1 C0 p := ⟨_, rfl⟩
  obtain ⟨h1, hh1⟩ : ∃ h1, h1 = Sd16.hash (H0 t.peer ++ p) := ⟨_, rfl⟩
  obtain ⟨x, hx⟩ : ∃ x, x = Sd16.two c1 (Sd16.agree e t.peer) := ⟨_, rfl⟩
  obtain ⟨s, hs⟩ : ∃ s, s = Sd16.sealed x.2 0 (Sd16.publicOf t.secret) h1 := ⟨_, rfl⟩
  obtain ⟨h2, hh2⟩ : ∃ h2, h2 = Sd16.hash (h1 ++ s) := ⟨_, rfl⟩
  obtain ⟨y, hy⟩ : ∃ y, y = Sd16.two x.1 (Sd16.agree t.secret t.peer) := ⟨_, rfl⟩
  obtain ⟨w, hw⟩ : ∃ w, w = Sd16.sealed y.2 0 stamp h2 := ⟨_, rfl⟩
  obtain ⟨h3, hh3⟩ : ∃ h3, h3 = Sd16.hash (h2 ++ w) := ⟨_, rfl⟩
  obtain ⟨m, hm⟩ : ∃ m, m = little 4 1 ++ u32 mine ++ p ++ s ++ w := ⟨_, rfl⟩
  rw [begin_eq t e mine stamp hp hc1 hh1 hx hs hh2 hy hw hh3 hm]
  have bx : B32 x.1 ∧ B32 x.2 := by rw [hx]; exact two_b32 _ _
  have by' : B32 y.1 ∧ B32 y.2 := by rw [hy]; exact two_b32 _ _
  have sl : s.length = 48 := by rw [hs, sealed_len bx.2.2 bx.2.1 (by rw [bo.1]; decide), bo.1]
  have wl : w.length = 28 := by rw [hw, sealed_len by'.2.2 by'.2.1 (by omega), l12]
  rw [← hp] at bp
  have pl := bp.1
  have ul : (u32 mine).length = 4 := little_length _ _
  show (m ++ (Sd16.mac1 t.peer m ++ List.replicate 16 0)).length = 148
  simp only [List.length_append, mac1_len, List.length_replicate]
  rw [hm]
  simp only [List.length_append, little_length]
  omega
theorem begin_mine (t : Sd16.End) (e : List Nat) (mine : Nat) (stamp : List Nat) : (Sd16.begin_ t e mine stamp).2.mine = mine ∧ (Sd16.begin_ t e mine stamp).2.e = e := by
  constructor <;> simp only [Sd16.begin_]
theorem end_fr {A : Ad} {H H' : Hp} {p dx : Addr} {fs : List (Str × V)} (u : SameBut p H H') (hp : H p = some (.ins A.c_End dx fs)) (hl : fs.length = 6) : Fr 1 H H' := u.fr hp (by omega)
def sp_End_begin (K : PySem.W.Frag) (A : Ad) : Sp := fun vs H Q _ => ∃ (p ma sa : Addr) (k mine : Nat) (t : Sd16.End) (e stamp : List Nat), vs = [.ref p, .int mine, .ref ma, .ref sa] ∧ EndAt A H p k t ∧ LH H ma e ∧ LH H sa stamp ∧ B32 e ∧ Byt stamp ∧ stamp.length = 12 ∧ mine < 2 ^ 32 ∧
  RetE A H p k ({ t with waiting := some (Sd16.begin_ t e mine stamp).2 }, 148, (Sd16.begin_ t e mine stamp).1) Q
theorem sc_End_begin : FnScope ["self", "mine", "moment", "stamp", "handshake", "message"] ["self", "mine", "moment", "stamp"] (defScope s_End_begin) := ⟨by kernel_rfl, by kernel_rfl, by kernel_rfl, by decide +kernel, by kernel_rfl, by decide +kernel, by decide +kernel⟩
theorem ok_End_begin {P : Program} {w : World} {K : PySem.W.Frag} {mg : Str → Option Value} {base : Heap} {A : Ad} (T : Tx K mg A) : FnOk P w K mg base CX0 10 A.f_End_begin A.d_End_begin ["self", "mine", "moment", "stamp"] (sp_End_begin K A) := by
  have G_new_handshake := ok_new_handshake (P := P) (w := w) (base := base) T
  have G_first_message := ok_first_message (P := P) (w := w) (base := base) T
  have nd := sc_End_begin.nd
  refine T.F_End_begin.fn.ok sc_End_begin (fun vs H Q E h => ?_) (fun cdv A' outer s H vs Q E hr h => ?_)
  · obtain ⟨p, ma, sa, k, mine, t, e, stamp, rfl, _⟩ := h
    rfl
  · obtain ⟨p, ma, sa, k, mine, t, e, stamp, rfl, ⟨dx, i, st, hs, fr, cu, fo, pf, gf, pc, gc, po, go, hp, F⟩, hE, hS, bE, bS, l12, hmi, q⟩ := h
    refine ⟨_, (pss_cons (ps_set (i := 4) nd (by rfl) (Or.inl (by rfl)) (pe_call G_new_handshake (hr.mono (by decide)) (gl_of (by kernel_rfl)) T.F_new_handshake.mg T.F_new_handshake.kp T.F_new_handshake.bd .nil pass0 (pa_cons (pe_fldA (pv 0) (by rfl) T.C_End.cl (T.C_End.na _ (.head _))) (pa_cons (pv 1) (pa_cons (pv 2) pa_nil)))))
      (pss_cons (ps_set (i := 5) nd (by rfl) (Or.inl (by rfl)) (pe_call G_first_message (hr.mono (by decide)) (gl_of (by kernel_rfl)) T.F_first_message.mg T.F_first_message.kp T.F_first_message.bd .nil pass0 (pa_cons (pe_fldA (pv 0) (by rfl) T.C_End.cl (T.C_End.na _ (.head _))) (pa_cons (pv 4) (pa_cons (pv 3) pa_nil)))))
      (pss_cons (ps_fldA (pv 0) (pv 4) (by rfl) T.C_End.cl (T.C_End.na _ (.tail _ (.tail _ (.head _)))))
      (pss_one (ps_ret (pe_op op_catN (pe_lstN (pa_cons (pe_callB call_lenN (gl_of (by kernel_rfl)) T.N_len PySem.boot_len (pa_cons (pv 5) pa_nil)) pa_nil)) (pv 5))))))), ?_⟩
    walk_at "tw nf"
    refine ⟨_, rfl, p, dx, _, _, rfl, hp, en_identity _ _ _ _ _ _, _, rfl, _, rfl, i, ma, _, _, _, mine, rfl, F.xi, fun h mx dxh H1 hh hmx s1 eh m1 => ?_⟩
    walk_at "tw nf"
    refine ⟨_, rfl, p, dx, _, _, rfl, s1 _ _ hp, en_identity _ _ _ _ _ _, _, rfl, _, rfl, i, h, sa, mx, ma, dxh, t, e, stamp, mine, rfl, ⟨F.xi.same s1, eh, s1 _ _ hE, s1 _ _ hS⟩, bE, m1, bS, l12, fun r H2 u2 m2 lr => ?_⟩
    walk_at "tw nf"
    have bl := begin_len t e mine stamp bS l12
    obtain ⟨e1, e2⟩ := begin_mine t e mine stamp
    generalize Sd16.begin_ t e mine stamp = B at m2 lr q bl e1 e2
    have S2 : Same H H2 := SameBut.new s1 hmx u2
    have hp2 := S2 _ _ hp
    obtain ⟨dxm, ca, ha, em, _⟩ := id m1
    have eh2 := u2 _ _ (ne_len eh em (by show 3 ≠ 2; decide)) eh
    refine ⟨_, rfl, _, rfl, p, dx, _, rfl, hp2, (by show 6 < 1000; decide), ?_⟩
    rw [en_put_hs]
    have u3 : SameBut p H2 (upd H2 p (.ins A.c_End dx (enF (.ref i) st (.ref h) fr cu fo))) := but_upd fun _ _ _ h => h
    have hp3 : upd H2 p (.ins A.c_End dx (enF (.ref i) st (.ref h) fr cu fo)) p = some (.ins A.c_End dx (enF (.ref i) st (.ref h) fr cu fo)) := upd_same
    generalize upd H2 p (.ins A.c_End dx (enF (.ref i) st (.ref h) fr cu fo)) = H3 at u3 hp3
    have f3 : Fr 1 H2 H3 := end_fr u3 hp2 rfl
    have F3 := (F.same S2).but u3 hp2 (.inl rfl)
    have lr3 : LH H3 r B.1 := f3.lst lr
    refine ⟨_, rfl, r, _, rfl, lr3, [B.1.length], rfl, (by show 1 ≤ 1000000; decide), fun x H4 hx s4 lx => ⟨_, rfl, x, r, _, _, rfl, rfl, lx, s4 _ _ lr3, (by rw [bl]; decide), fun r2 H5 hr2 s5 l5 => ?_⟩⟩
    have s45 := s4.trans s5
    have F5 := F3.same s45
    rw [bl] at l5
    refine q r2 H5 (((S2.fr 1).trans f3).trans (s45.fr 1)) ⟨dx, i, st, .ref h, fr, cu, fo, pf, gf, pc, gc, po, go, s45 _ _ hp3, F5.xi, F5.xs, ⟨h, mx, rfl, ?_⟩, F5.xf, F5.xc, F5.xo, F.s1, F.s2, F.s3⟩ l5
    have HS : HsAt A H2 h mx B.2 := ⟨dxh, ma, by rw [e1]; exact eh2, by rw [e2]; exact S2 _ _ hE, m2, by rw [e2]; exact bE, by rw [e1]; exact hmi⟩
    exact (HS.fr f3 (by decide)).same s45
end Tw
namespace Tw
open PySem L2
open Sd16 (number little u32)
def tkF (t : Sd16.End) (o : Option (Nat × List Nat × List Nat × List Nat × List Nat)) (R : Nat → List Nat → List Nat → List Nat → Option (List Nat × Sd16.Session)) : Sd16.End × Int × List Nat := match o with
  | some (theirs, p, stamp, c, h) => (match R theirs p c h with
    | some x => ({ t with stamp := some stamp, fresh := some x.2 }, 1, x.1)
    | none => (t, 0, []))
  | none => (t, 0, [])
theorem tkF_bad {t : Sd16.End} {theirs : Nat} {p stamp c h : List Nat} {R : Nat → List Nat → List Nat → List Nat → Option (List Nat × Sd16.Session)} (e : R theirs p c h = none) : tkF t (some (theirs, p, stamp, c, h)) R = (t, 0, []) := by
  unfold tkF
  dsimp only
  rw [e]
theorem tkF_good {t : Sd16.End} {theirs : Nat} {p stamp c h : List Nat} {R : Nat → List Nat → List Nat → List Nat → Option (List Nat × Sd16.Session)} {x : List Nat × Sd16.Session} (e : R theirs p c h = some x) : tkF t (some (theirs, p, stamp, c, h)) R = ({ t with stamp := some stamp, fresh := some x.2 }, 1, x.1) := by
  unfold tkF
  dsimp only
  rw [e]
def sp_End_take_first (K : PySem.W.Frag) (A : Ad) : Sp := fun vs H Q _ => ∃ (p mo a : Addr) (k mine : Nat) (t : Sd16.End) (e m : List Nat), vs = [.ref p, .int mine, .ref mo, .ref a] ∧ EndAt A H p k t ∧ LH H mo e ∧ LH H a m ∧ B32 e ∧ Byt m ∧ m.length ≤ 70000 ∧ mine < 2 ^ 32 ∧
  RetE A H p k (tkF t (Sd16.readFirst t m) (fun theirs p c h => Sd16.reply t theirs p c h e mine)) Q
theorem ret0 {A : Ad} {H H1 : Hp} {p dx i : Addr} {st hs fr cu fo : V} {pf gf pc gc po go : Addr} {k : Nat} {t : Sd16.End} {Q : VK} {z : Nat} (q : RetE A H p k (t, (z : Int), []) Q) (s : Same H H1) (hp : H p = some (.ins A.c_End dx (enF (.ref i) st hs fr cu fo))) (F : EndF A H k i st hs fr cu fo pf gf pc gc po go t) :
    ∃ l : List Nat, [V.int (z : Int)] = bs l ∧ l.length ≤ 1000000 ∧ RetL H1 l Q :=
  ⟨[z], rfl, by show 1 ≤ 1000000; decide, fun r H' _ s' l => q r H' ((s.trans s').fr 1) ⟨dx, i, st, hs, fr, cu, fo, pf, gf, pc, gc, po, go, s' _ _ (s _ _ hp), F.same (s.trans s')⟩ l⟩
theorem reply_len {m b mine theirs q z : List Nat} (hm : m = little 4 2 ++ mine ++ theirs ++ q ++ z) (h1 : mine.length = 4) (h2 : theirs.length = 4) (h3 : q.length = 32) (h4 : z.length = 16) : (m ++ (Sd16.mac1 b m ++ List.replicate 16 0)).length = 92 := by
  simp only [List.length_append, mac1_len, List.length_replicate]
  rw [hm]
  simp only [List.length_append, little_length]
  omega
theorem sc_End_take_first : FnScope ["self", "mine", "moment", "m", "greeting", "met", "message"] ["self", "mine", "moment", "m"] (defScope s_End_take_first) := ⟨by kernel_rfl, by kernel_rfl, by kernel_rfl, by decide +kernel, by kernel_rfl, by decide +kernel, by decide +kernel⟩
theorem ok_End_take_first {P : Program} {w : World} {K : PySem.W.Frag} {mg : Str → Option Value} {base : Heap} {A : Ad} (T : Tx K mg A) : FnOk P w K mg base CX0 11 A.f_End_take_first A.d_End_take_first ["self", "mine", "moment", "m"] (sp_End_take_first K A) := by
  have G_read_first := ok_read_first (P := P) (w := w) (base := base) T
  have G_End_is_later := ok_End_is_later (P := P) (w := w) (base := base) T
  have G_agreed := ok_agreed (P := P) (w := w) (base := base) T
  have G_worth_nothing := ok_worth_nothing (P := P) (w := w) (base := base) T
  have G_second_message := ok_second_message (P := P) (w := w) (base := base) T
  have G_answering_session := ok_answering_session (P := P) (w := w) (base := base) T
  have nd := sc_End_take_first.nd
  refine T.F_End_take_first.fn.ok sc_End_take_first (fun vs H Q E h => ?_) (fun cdv A' outer s H vs Q E hr h => ?_)
  · obtain ⟨p, mo, a, k, mine, t, e, m, rfl, _⟩ := h
    rfl
  · obtain ⟨p, mo, a, k, mine, t, e, m, rfl, ⟨dx, i, st, hs, fr, cu, fo, pf, gf, pc, gc, po, go, hp, F⟩, hE, hM, bE, bM, lM, hmi, q⟩ := h
    refine ⟨_, (pss_cons (ps_set (i := 4) nd (by rfl) (Or.inl (by rfl)) (pe_call G_read_first (hr.mono (by decide)) (gl_of (by kernel_rfl)) T.F_read_first.mg T.F_read_first.kp T.F_read_first.bd .nil pass0 (pa_cons (pe_fldA (pv 0) (by rfl) T.C_End.cl (T.C_End.na _ (.head _))) (pa_cons (pv 3) pa_nil))))
      (pss_cons (ps_if ((pw_or (pt_cmp (pc_isN (pv 4))) (pw_or1 (pt_not (pt_val (pe_meth (pv 0) T.C_End.cl T.F_End_is_later.mt G_End_is_later (hr.mono (by decide)) T.F_End_is_later.bd .nil pass0 (pa_cons (pe_fldA (pv 4) (by rfl) T.C_Greeting.cl (T.C_Greeting.na _ (.tail _ (.tail _ (.head _))))) pa_nil)) (by intro _; rfl)))))).pt (pss_one (ps_ret (pe_lstN (pa_cons (pe_const (gl_of (by kernel_rfl)) T.M_NOT_RIGHT) pa_nil)))) pss_nil)
      (pss_cons (ps_set (i := 5) nd (by rfl) (Or.inl (by rfl)) (pe_call G_agreed (hr.mono (by decide)) (gl_of (by kernel_rfl)) T.F_agreed.mg T.F_agreed.kp T.F_agreed.bd .nil pass0 (pa_cons (pv 2) (pa_cons (pe_fldA (pv 4) (by rfl) T.C_Greeting.cl (T.C_Greeting.na _ (.tail _ (.head _)))) pa_nil))))
      (pss_cons (ps_if (pt_val (pe_call G_worth_nothing (hr.mono (by decide)) (gl_of (by kernel_rfl)) T.F_worth_nothing.mg T.F_worth_nothing.kp T.F_worth_nothing.bd .nil pass0 (pa_cons (pv 5) pa_nil)) (by intro _; rfl)) (pss_one (ps_ret (pe_lstN (pa_cons (pe_const (gl_of (by kernel_rfl)) T.M_NOT_RIGHT) pa_nil)))) pss_nil)
      (pss_cons (ps_set (i := 6) nd (by rfl) (Or.inl (by rfl)) (pe_call G_second_message (hr.mono (by decide)) (gl_of (by kernel_rfl)) T.F_second_message.mg T.F_second_message.kp T.F_second_message.bd .nil pass0 (pa_cons (pe_fldA (pv 0) (by rfl) T.C_End.cl (T.C_End.na _ (.head _))) (pa_cons (pv 4) (pa_cons (pv 1) (pa_cons (pv 2) (pa_cons (pv 5) pa_nil)))))))
      (pss_cons (ps_fldA (pv 0) (pe_fldA (pv 4) (by rfl) T.C_Greeting.cl (T.C_Greeting.na _ (.tail _ (.tail _ (.head _))))) (by rfl) T.C_End.cl (T.C_End.na _ (.tail _ (.head _))))
      (pss_cons (ps_fldA (pv 0) (pe_call G_answering_session (hr.mono (by decide)) (gl_of (by kernel_rfl)) T.F_answering_session.mg T.F_answering_session.kp T.F_answering_session.bd .nil pass0 (pa_cons (pv 4) (pa_cons (pv 1) pa_nil))) (by rfl) T.C_End.cl (T.C_End.na _ (.tail _ (.tail _ (.tail _ (.head _))))))
      (pss_one (ps_ret (pe_op op_catN (pe_lstN (pa_cons (pe_const (gl_of (by kernel_rfl)) T.M_FIRST) pa_nil)) (pv 6))))))))))), ?_⟩
    walk_at "tw nf"
    obtain ⟨R, hR⟩ : ∃ R : Nat → List Nat → List Nat → List Nat → Option (List Nat × Sd16.Session), R = fun theirs p c h => Sd16.reply t theirs p c h e mine := ⟨_, rfl⟩
    rw [readFirst_stamp, ← hR] at q
    refine ⟨_, rfl, p, dx, _, _, rfl, hp, en_identity _ _ _ _ _ _, _, rfl, i, a, t, m, rfl, F.xi, hM, bM, lM, ?_⟩
    cases ho : Sd16.readFirst (noStamp t) m with
    | none =>
      rw [ho] at q
      intro H1 s1
      walk_at "tw nf"
      exact ⟨_, rfl, _, rfl, iteT (iteT (ret0 q s1 hp F))⟩
    | some x =>
      obtain ⟨theirs, pt, stamp, c, h⟩ := x
      rw [ho] at q
      intro g mx H1 hg hmx s1 G
      walk_at "tw nf"
      obtain ⟨pa, sa, dg, eg, lpa, lsa, m1, bp, l12, bst, ht⟩ := id G
      refine ⟨_, rfl, _, rfl, iteF ?_⟩
      refine ⟨_, rfl, p, dx, _, rfl, s1 _ _ hp, (by kernel_rfl), _, rfl, g, dg, _, _, rfl, eg, gr_stamp _ _ _ _, p, dx, i, sa, st, hs, fr, cu, fo, t.stamp, stamp, rfl, s1 _ _ hp, F.xs.fr (s1.fr 0), lsa, l12, fun H2 s2 => ⟨_, rfl, ?_⟩⟩
      have S2 := s1.trans s2
      have q1 : RetE A H p k (tkF t (if later t.stamp stamp = false then none else some (theirs, pt, stamp, c, h)) R) Q := q
      cases hl : later t.stamp stamp with
      | false =>
        rw [if_pos hl] at q1
        exact iteT (ret0 q1 S2 hp F)
      | true =>
        rw [if_neg (by rw [hl]; decide)] at q1
        refine iteF ?_
        obtain ⟨pu, hpu⟩ : ∃ pu, pu = Sd16.publicOf e := ⟨_, rfl⟩
        obtain ⟨d, hd⟩ : ∃ d, d = Sd16.agree e pt := ⟨_, rfl⟩
        obtain ⟨f, hf⟩ : ∃ f, f = Sd16.agree e t.peer := ⟨_, rfl⟩
        obtain ⟨ks, hks⟩ : ∃ ks, ks = ks2 c pu d f t.psk := ⟨_, rfl⟩
        obtain ⟨k0, hk0⟩ : ∃ k0, k0 = ks.getD 0 [] := ⟨_, rfl⟩
        obtain ⟨k2, hk2⟩ : ∃ k2, k2 = ks.getD 2 [] := ⟨_, rfl⟩
        obtain ⟨hh, hhh⟩ : ∃ hh, hh = hs2 c h pu d f t.psk := ⟨_, rfl⟩
        obtain ⟨z, hz⟩ : ∃ z, z = Sd16.sealed k2 0 [] hh := ⟨_, rfl⟩
        obtain ⟨w, hw⟩ : ∃ w, w = little 4 2 ++ u32 mine ++ u32 theirs ++ pu ++ z := ⟨_, rfl⟩
        have bd : B32 d := by rw [hd]; exact agree_b32 _ _
        have dl := bd.1
        have bpu : B32 pu := by rw [hpu]; exact public_b32 _
        have bk2 : B32 k2 := by rw [hk2, hks]; exact ks2_b32 _ _ _ _ _ (by decide)
        have zl : z.length = 16 := by rw [hz, sealed_len bk2.2 bk2.1 (by decide)]; rfl
        have wl := reply_len (b := t.peer) hw (little_length _ _) (little_length _ _) bpu.1 zl
        have er := reply_eq t theirs pt c h e mine hpu hd hf hks hk0 hk2 hhh hz hw
        refine ⟨_, rfl, _, rfl, g, dg, _, _, rfl, s2 _ _ eg, gr_point _ _ _ _, mo, pa, e, pt, rfl, S2 _ _ hE, s2 _ _ lpa, bE.2, bp.2, bE.1, bp.1, fun me H3 hme s3 lme => ?_⟩
        rw [← hd] at lme
        walk_at "tw nf"
        have S3 := S2.trans s3
        refine ⟨_, rfl, me, d, rfl, lme, (by omega), fun H4 s4 => ⟨_, rfl, ?_⟩⟩
        have S4 := S3.trans s4
        cases hn : Sd16.nothing d with
        | true =>
          rw [if_pos hn] at er
          have er2 : R theirs pt c h = none := by rw [hR]; exact er
          rw [tkF_bad er2] at q1
          exact iteT (ret0 q1 S4 hp F)
        | false =>
          rw [if_neg (by rw [hn]; decide)] at er
          have er2 : R theirs pt c h = some (w ++ (Sd16.mac1 t.peer w ++ List.replicate 16 0), ⟨mine, theirs, (Sd16.two k0 []).2, (Sd16.two k0 []).1, 0, 0, fun _ => false⟩) := by rw [hR]; exact er
          rw [tkF_good er2] at q1
          clear er er2
          refine iteF ?_
          have s24 : Same H1 H4 := s2.trans (s3.trans s4)
          have G4 : GrAt A H4 g mx theirs pt stamp c h := ⟨pa, sa, dg, s24 _ _ eg, s24 _ _ lpa, s24 _ _ lsa, m1.same s24, bp, l12, bst, ht⟩
          refine ⟨_, rfl, p, dx, _, _, rfl, S4 _ _ hp, en_identity _ _ _ _ _ _, _, rfl, _, rfl, _, rfl, _, rfl, i, g, mx, mo, me, t, theirs, mine, pt, stamp, c, h, e, d, f, rfl, F.xi.same S4, G4, S4 _ _ hE, s4 _ _ lme, bE, bd, hf, fun m' z' hz' hm' => ?_⟩
          rw [← hpu, ← hks, ← hk2, ← hhh, ← hz] at hz'
          rw [hz', ← hpu, ← hw] at hm'
          rw [hm', ← hpu, ← hks, ← hk0, ← hhh]
          clear hm' hz'
          generalize w ++ (Sd16.mac1 t.peer w ++ List.replicate 16 0) = msg at q1 wl ⊢
          intro r H5 u5 G5 lr
          walk_at "tw nf"
          have S5 : Same H H5 := SameBut.new S4 hmx u5
          obtain ⟨pa5, sa5, dg5, eg5, lpa5, lsa5, m5, bp5, l125, bst5, ht5⟩ := id G5
          have hp5 := S5 _ _ hp
          refine ⟨_, rfl, g, dg5, _, _, rfl, eg5, gr_stamp _ _ _ _, _, rfl, p, dx, _, rfl, hp5, (by show 6 < 1000; decide), ?_⟩
          rw [en_put_stamp]
          have u6 : SameBut p H5 (upd H5 p (.ins A.c_End dx (enF (.ref i) (.ref sa5) hs fr cu fo))) := but_upd fun _ _ _ h => h
          have hp6 : upd H5 p (.ins A.c_End dx (enF (.ref i) (.ref sa5) hs fr cu fo)) p = some (.ins A.c_End dx (enF (.ref i) (.ref sa5) hs fr cu fo)) := upd_same
          generalize upd H5 p (.ins A.c_End dx (enF (.ref i) (.ref sa5) hs fr cu fo)) = H6 at u6 hp6
          have f6 : Fr 1 H5 H6 := end_fr u6 hp5 rfl
          have F6 := (F.same S5).but u6 hp5 (.inl rfl)
          have G6 : GrAt A H6 g mx theirs pt stamp k0 hh := ⟨pa5, sa5, dg5, f6 _ _ (.inr ⟨_, _, _, rfl, (by show 1 ≤ 4; decide), by show 4 ≤ 5; decide⟩) eg5, f6.lst lpa5, f6.lst lsa5, m5.fr f6 (by decide), bp5, l125, bst5, ht5⟩
          refine ⟨_, rfl, _, rfl, g, mx, theirs, mine, pt, stamp, k0, hh, rfl, G6, hmi, fun x gx H7 hx hgx s7 X7 => ?_⟩
          generalize Sd16.two k0 [] = ts at q1 X7
          have hp7 := s7 _ _ hp6
          refine ⟨_, rfl, p, dx, _, rfl, hp7, (by show 6 < 1000; decide), ?_⟩
          rw [en_put_fresh]
          have u8 : SameBut p H7 (upd H7 p (.ins A.c_End dx (enF (.ref i) (.ref sa5) hs (.ref x) cu fo))) := but_upd fun _ _ _ h => h
          have hp8 : upd H7 p (.ins A.c_End dx (enF (.ref i) (.ref sa5) hs (.ref x) cu fo)) p = some (.ins A.c_End dx (enF (.ref i) (.ref sa5) hs (.ref x) cu fo)) := upd_same
          generalize upd H7 p (.ins A.c_End dx (enF (.ref i) (.ref sa5) hs (.ref x) cu fo)) = H8 at u8 hp8
          have f8 : Fr 1 H7 H8 := end_fr u8 hp7 rfl
          have F8 := (F6.same s7).but u8 hp7 (.inl rfl)
          have f58 : Fr 1 H5 H8 := (f6.trans (s7.fr 1)).trans f8
          have lr8 := f58.lst lr
          have X8 : SesO A H8 (.ref x) x gx k (some (newSes mine theirs ts.2 ts.1)) := SesO.but (o := some _) ⟨rfl, X7.mono (Nat.zero_le k)⟩ u8 hp7 (by show 6 ≤ 6; decide)
          have sep : ∀ {v : V} {p' g' : Addr} {o : Option Sd16.Session}, SesO A H6 v p' g' k o → Sep (.ref x) x gx v p' g' := fun {v p' g' o} y _ hv => by
            cases o with
            | none => exact absurd y hv
            | some s =>
              obtain ⟨_, Y⟩ := y
              obtain ⟨dy, ay, by_, ey, _⟩ := Y.ob
              obtain ⟨kvs, gy, _⟩ := Y.di
              exact ⟨(ne_of_none ey hx).symm, (ne_of_none gy hgx).symm⟩
          refine ⟨[1], rfl, (by show 1 ≤ 1000000; decide), fun o1 H9 ho1 s9 lo1 => ⟨_, rfl, o1, r, _, _, rfl, rfl, lo1, s9 _ _ lr8, (by rw [wl]; decide), fun r2 H10 hr2 s10 l10 => ?_⟩⟩
          have s910 := s9.trans s10
          have F10 := F8.same s910
          refine q1 r2 H10 (((S5.fr 1).trans f58).trans (s910.fr 1)) ⟨dx, i, .ref sa5, hs, .ref x, cu, fo, x, gx, pc, gc, po, go, s910 _ _ hp8, F10.xi, ⟨sa5, rfl, s910 _ _ (f58.lst lsa5), l12⟩, F10.xh, ?_, F10.xc, F10.xo, sep F6.xc, sep F6.xo, F.s3⟩ l10
          exact X8.keep fun _ b o h _ => s910 b o h
end Tw
namespace Tw
open PySem L2
open Sd16 (number little u32)
theorem EndAt.mono {A : Ad} {H : Hp} {p : Addr} {k k' : Nat} {t : Sd16.End} (x : EndAt A H p k t) (h : k ≤ k') : EndAt A H p k' t := by
  obtain ⟨dx, i, st, hs, fr, cu, fo, pf, gf, pc, gc, po, go, hp, F⟩ := x
  exact ⟨dx, i, st, hs, fr, cu, fo, pf, gf, pc, gc, po, go, hp, F.mono h⟩
theorem RetE.mono {A : Ad} {H : Hp} {p : Addr} {k k' : Nat} {x : Sd16.End × Int × List Nat} {Q : VK} (q : RetE A H p k' x Q) (h : k ≤ k') : RetE A H p k x Q := fun r H' f e l => q r H' f (e.mono h) l
def tkS (t : Sd16.End) (o : Option Sd16.Session) : Sd16.End × Int × List Nat := match o with
  | some s => ({ t with waiting := none, former := t.current, current := some s, fresh := none }, 2, [])
  | none => (t, 0, [])
def sp_End_take_second (K : PySem.W.Frag) (A : Ad) : Sp := fun vs H Q _ => ∃ (p a : Addr) (k : Nat) (t : Sd16.End) (m : List Nat), vs = [.ref p, .ref a] ∧ EndAt A H p k t ∧ LH H a m ∧ Byt m ∧ m.length ≤ 70000 ∧
  RetE A H p k (tkS t (t.waiting.bind fun w => Sd16.readSecond t w m)) Q
theorem sc_End_take_second : FnScope ["self", "m", "session"] ["self", "m"] (defScope s_End_take_second) := ⟨by kernel_rfl, by kernel_rfl, by kernel_rfl, by decide +kernel, by kernel_rfl, by decide +kernel, by decide +kernel⟩
theorem ok_End_take_second {P : Program} {w : World} {K : PySem.W.Frag} {mg : Str → Option Value} {base : Heap} {A : Ad} (T : Tx K mg A) : FnOk P w K mg base CX0 11 A.f_End_take_second A.d_End_take_second ["self", "m"] (sp_End_take_second K A) := by
  have G_read_second := ok_read_second (P := P) (w := w) (base := base) T
  have G_End_make_current := ok_End_make_current (P := P) (w := w) (base := base) T
  have nd := sc_End_take_second.nd
  refine T.F_End_take_second.fn.ok sc_End_take_second (fun vs H Q E h => ?_) (fun cdv A' outer s H vs Q E hr h => ?_)
  · obtain ⟨p, a, k, t, m, rfl, _⟩ := h
    rfl
  · obtain ⟨p, a, k, t, m, rfl, ⟨dx, i, st, hs, fr, cu, fo, pf, gf, pc, gc, po, go, hp, F⟩, hM, bM, lM, q⟩ := h
    refine ⟨_, (pss_cons (ps_if (pt_cmp (pc_isN (pe_fldA (pv 0) (by rfl) T.C_End.cl (T.C_End.na _ (.tail _ (.tail _ (.head _))))))) (pss_one (ps_ret (pe_lstN (pa_cons (pe_const (gl_of (by kernel_rfl)) T.M_NOT_RIGHT) pa_nil)))) pss_nil)
      (pss_cons (ps_set (i := 2) nd (by rfl) (Or.inl (by rfl)) (pe_call G_read_second (hr.mono (by decide)) (gl_of (by kernel_rfl)) T.F_read_second.mg T.F_read_second.kp T.F_read_second.bd .nil pass0 (pa_cons (pe_fldA (pv 0) (by rfl) T.C_End.cl (T.C_End.na _ (.head _))) (pa_cons (pe_fldA (pv 0) (by rfl) T.C_End.cl (T.C_End.na _ (.tail _ (.tail _ (.head _))))) (pa_cons (pv 1) pa_nil)))))
      (pss_cons (ps_if (pt_cmp (pc_isN (pv 2))) (pss_one (ps_ret (pe_lstN (pa_cons (pe_const (gl_of (by kernel_rfl)) T.M_NOT_RIGHT) pa_nil)))) pss_nil)
      (pss_cons (ps_expr (pe_meth (pv 0) T.C_End.cl T.F_End_make_current.mt G_End_make_current (hr.mono (by decide)) T.F_End_make_current.bd .nil pass0 (pa_cons (pv 2) pa_nil)))
      (pss_cons (ps_fldA (pv 0) pe_non (by rfl) T.C_End.cl (T.C_End.na _ (.tail _ (.tail _ (.head _)))))
      (pss_one (ps_ret (pe_lstN (pa_cons (pe_const (gl_of (by kernel_rfl)) T.M_SECOND) pa_nil))))))))), ?_⟩
    walk_at "tw nf"
    have xh := F.xh
    refine ⟨_, rfl, p, dx, _, _, rfl, hp, en_hs _ _ _ _ _ _, ?_⟩
    cases hw : t.waiting with
    | none =>
      rw [hw] at q xh
      have xh' : hs = .non := xh
      subst xh'
      exact ⟨_, rfl, iteT (ret0 (z := 0) q (Same.refl _) hp F)⟩
    | some w =>
      rw [hw, Option.bind_some] at q
      rw [hw] at xh
      obtain ⟨h, mx, rfl, X⟩ := xh
      refine ⟨_, rfl, iteF ?_⟩
      refine ⟨_, rfl, p, dx, _, _, rfl, hp, en_identity _ _ _ _ _ _, _, rfl, p, dx, _, _, rfl, hp, en_hs _ _ _ _ _ _, _, rfl, i, h, mx, a, t, w, m, rfl, F.xi, X, hM, bM, lM, ?_⟩
      cases ho : Sd16.readSecond t w m with
      | none =>
        rw [ho] at q
        intro H1 s1
        walk_at "tw nf"
        exact ⟨_, rfl, _, rfl, iteT (ret0 (z := 0) q s1 hp F)⟩
      | some s =>
        rw [ho] at q
        intro x gx H1 hx hgx s1 X1
        walk_at "tw nf"
        refine ⟨_, rfl, _, rfl, iteF ?_⟩
        have hp1 := s1 _ _ hp
        refine ⟨_, rfl, p, dx, _, rfl, hp1, (by kernel_rfl), _, rfl, p, dx, i, st, _, fr, cu, fo, _, rfl, hp1, ?_⟩
        refine ⟨_, rfl, p, dx, _, rfl, upd_same, (by show 6 < 1000; decide), ?_⟩
        rw [en_put_hs, upd_upd]
        have u2 : SameBut p H1 (upd H1 p (.ins A.c_End dx (enF (.ref i) st .non .non (.ref x) cu))) := but_upd fun _ _ _ h => h
        have hp2 : upd H1 p (.ins A.c_End dx (enF (.ref i) st .non .non (.ref x) cu)) p = some (.ins A.c_End dx (enF (.ref i) st .non .non (.ref x) cu)) := upd_same
        generalize upd H1 p (.ins A.c_End dx (enF (.ref i) st .non .non (.ref x) cu)) = H2 at u2 hp2
        have f2 : Fr 1 H1 H2 := end_fr u2 hp1 rfl
        have F2 := (F.same s1).but u2 hp1 (.inl rfl)
        have X2 : SesO A H2 (.ref x) x gx k (some s) := SesO.but (o := some _) ⟨rfl, X1.mono (Nat.zero_le k)⟩ u2 hp1 (by show 6 ≤ 6; decide)
        refine ⟨[2], rfl, (by show 1 ≤ 1000000; decide), fun r H3 hr3 s3 lr => ?_⟩
        have F3 := F2.same s3
        refine q r H3 (((s1.fr 1).trans f2).trans (s3.fr 1)) ⟨dx, i, st, .non, .non, .ref x, cu, p, p, x, gx, pc, gc, s3 _ _ hp2, F3.xi, F3.xs, rfl, rfl, X2.keep fun _ b o h _ => s3 b o h, F3.xc, fun h => absurd rfl h, fun h => absurd rfl h, fun _ hv => ?_⟩ lr
        have xc := F.xc
        cases hc : t.current with
        | none => rw [hc] at xc; exact absurd xc hv
        | some s' =>
          rw [hc] at xc
          obtain ⟨_, Y⟩ := xc
          obtain ⟨dy, ay, by_, ey, _⟩ := Y.ob
          obtain ⟨kvs, gy, _⟩ := Y.di
          exact ⟨(ne_of_none ey hx).symm, (ne_of_none gy hgx).symm⟩
def tkP (t : Sd16.End) (f c o : Option (Sd16.Session × Nat × List Nat)) : Sd16.End × Int × List Nat := match f with
  | some (s, n, b) => ({ t with former := t.current, current := some (s.got n), fresh := none }, 4, b)
  | none => match c with
    | some (s, n, b) => ({ t with current := some (s.got n) }, 4, b)
    | none => match o with
      | some (s, n, b) => ({ t with former := some (s.got n) }, 4, b)
      | none => (t, 0, [])
theorem readPacket_form {s : Sd16.Session} {m : List Nat} (h : ¬ pform m) : Sd16.readPacket s m = none := by
  have e : little 4 4 = [4, 0, 0, 0] := by decide
  unfold pform at h
  rw [e] at h
  unfold Sd16.readPacket
  dsimp only
  rw [if_pos]
  by_cases h1 : m.length < 32
  · exact .inl h1
  · by_cases h2 : m.length % 16 = 0
    · exact .inr (.inr (.inl fun h3 => h ⟨by omega, h2, h3⟩))
    · exact .inr (.inl h2)
theorem readO_form {o : Option Sd16.Session} {m : List Nat} (h : ¬ pform m) : readO o m = none := by
  cases o with
  | none => rfl
  | some s =>
    show (Sd16.readPacket s m).map _ = none
    rw [readPacket_form h]; rfl
theorem readO_some {o : Option Sd16.Session} {m b : List Nat} {s : Sd16.Session} {n : Nat} (h : readO o m = some (s, n, b)) : o = some s ∧ Sd16.readPacket s m = some (n, b) := by
  cases o with
  | none => cases h
  | some s' =>
    have h' : (Sd16.readPacket s' m).map (fun x => (s', x)) = some (s, n, b) := h
    cases hp : Sd16.readPacket s' m with
    | none => rw [hp] at h'; cases h'
    | some x =>
      rw [hp] at h'
      injection h' with h'
      injection h' with h1 h2
      subst h1 h2
      exact ⟨rfl, hp⟩
theorem packet_plain {s : Sd16.Session} {m b : List Nat} {n : Nat} (h : Sd16.readPacket s m = some (n, b)) (hf : pform m) (bi : B32 s.in_) (bM : Byt m) (lM : m.length ≤ 70000) : b.length ≤ 70000 := by
  rw [readPacket_eq hf rfl] at h
  split at h
  · cases h
  · split at h
    · cases h
    · cases ho : Sd16.open_ s.in_ (number ((m.drop 8).take 8)) (m.drop 16) [] with
      | none => rw [ho] at h; cases h
      | some b' =>
        rw [ho] at h
        injection h with h
        injection h with _ h
        subst h
        have := (open_len bi.2 bi.1 (by rw [List.length_drop]; omega) (bM.drop 16) ho).1
        rw [List.length_drop] at this
        omega
def sp_End_take_packet (K : PySem.W.Frag) (A : Ad) : Sp := fun vs H Q _ => ∃ (p a : Addr) (k : Nat) (t : Sd16.End) (m : List Nat), vs = [.ref p, .ref a] ∧ EndAt A H p k t ∧ LH H a m ∧ Byt m ∧ m.length ≤ 70000 ∧ k < 1000 ∧
  RetE A H p (k + 1) (tkP t (readO t.fresh m) (readO t.current m) (readO t.former m)) Q
theorem ret4 {A : Ad} {H H1 : Hp} {p dx i pa : Addr} {st hs fr cu fo : V} {pf gf pc gc po go : Addr} {k : Nat} {t : Sd16.End} {Q : VK} {b : List Nat} (q : RetE A H p k (t, 4, b) Q) (s : Fr 1 H H1) (hp : H1 p = some (.ins A.c_End dx (enF (.ref i) st hs fr cu fo))) (F : EndF A H1 k i st hs fr cu fo pf gf pc gc po go t) (lb : LH H1 pa b) (hb : b.length ≤ 70000) :
    ∃ l : List Nat, [V.int ((4 : Nat) : Int)] = bs l ∧ l.length ≤ 1000000 ∧ RetL H1 l fun x H2 => ∃ v, some (some (V.ref pa)) = some (some v) ∧ rCatN x v H2 Q :=
  ⟨[4], rfl, by show 1 ≤ 1000000; decide, fun o H2 _ s2 lo => ⟨_, rfl, o, pa, _, _, rfl, rfl, lo, s2 _ _ lb, (by show 1 + b.length ≤ 1000000; omega), fun r H3 _ s3 l3 =>
    q r H3 (s.trans ((s2.trans s3).fr 1)) ⟨dx, i, st, hs, fr, cu, fo, pf, gf, pc, gc, po, go, s3 _ _ (s2 _ _ hp), F.same (s2.trans s3)⟩ l3⟩⟩
theorem end_b2 {A : Ad} {H H' : Hp} {p g q dx : Addr} {k : Nat} {s : Sd16.Session} {fs : List (Str × V)} (u : SameB2 p g H H') (X : SesAt A H p g k s) (hq : H q = some (.ins A.c_End dx fs)) (hl : fs.length = 6) : H' q = some (.ins A.c_End dx fs) := by
  obtain ⟨dy, ay, by_, ey, _⟩ := X.ob
  obtain ⟨kvs, gy, _⟩ := X.di
  refine u _ _ (ne_len hq ey ?_) (ne_of hq gy (by intro z; cases z)) hq
  rw [hl]; show 6 ≠ 7; decide
theorem sc_End_take_packet : FnScope ["self", "m", "plain"] ["self", "m"] (defScope s_End_take_packet) := ⟨by kernel_rfl, by kernel_rfl, by kernel_rfl, by decide +kernel, by kernel_rfl, by decide +kernel, by decide +kernel⟩
theorem ok_End_take_packet {P : Program} {w : World} {K : PySem.W.Frag} {mg : Str → Option Value} {base : Heap} {A : Ad} (T : Tx K mg A) : FnOk P w K mg base CX0 8 A.f_End_take_packet A.d_End_take_packet ["self", "m"] (sp_End_take_packet K A) := by
  have G_has_packet_form := ok_has_packet_form (P := P) (w := w) (base := base) T
  have G_accepted := ok_accepted (P := P) (w := w) (base := base) T
  have G_End_make_current := ok_End_make_current (P := P) (w := w) (base := base) T
  have nd := sc_End_take_packet.nd
  refine T.F_End_take_packet.fn.ok sc_End_take_packet (fun vs H Q E h => ?_) (fun cdv A' outer s H vs Q E hr h => ?_)
  · obtain ⟨p, a, k, t, m, rfl, _⟩ := h
    rfl
  · obtain ⟨p, a, k, t, m, rfl, ⟨dx, i, st, hs, fr, cu, fo, pf, gf, pc, gc, po, go, hp, F⟩, hM, bM, lM, hk, q⟩ := h
    refine ⟨_, (pss_cons (ps_if (pt_not (pt_val (pe_call G_has_packet_form (hr.mono (by decide)) (gl_of (by kernel_rfl)) T.F_has_packet_form.mg T.F_has_packet_form.kp T.F_has_packet_form.bd .nil pass0 (pa_cons (pv 1) pa_nil)) (by intro _; rfl))) (pss_one (ps_ret (pe_lstN (pa_cons (pe_const (gl_of (by kernel_rfl)) T.M_NOT_RIGHT) pa_nil)))) pss_nil)
      (pss_cons (ps_set (i := 2) nd (by rfl) (Or.inl (by rfl)) (pe_call G_accepted (hr.mono (by decide)) (gl_of (by kernel_rfl)) T.F_accepted.mg T.F_accepted.kp T.F_accepted.bd .nil pass0 (pa_cons (pe_fldA (pv 0) (by rfl) T.C_End.cl (T.C_End.na _ (.tail _ (.tail _ (.tail _ (.head _)))))) (pa_cons (pv 1) pa_nil))))
      (pss_cons (ps_if (pt_cmp (pc_notN (pv 2))) (pss_cons (ps_expr (pe_meth (pv 0) T.C_End.cl T.F_End_make_current.mt G_End_make_current (hr.mono (by decide)) T.F_End_make_current.bd .nil pass0 (pa_cons (pe_fldA (pv 0) (by rfl) T.C_End.cl (T.C_End.na _ (.tail _ (.tail _ (.tail _ (.head _)))))) pa_nil)))
      (pss_one (ps_ret (pe_op op_catN (pe_lstN (pa_cons (pe_const (gl_of (by kernel_rfl)) T.M_PACKET) pa_nil)) (pv 2))))) pss_nil)
      (pss_cons (ps_set (i := 2) nd (by rfl) (Or.inl (by rfl)) (pe_call G_accepted (hr.mono (by decide)) (gl_of (by kernel_rfl)) T.F_accepted.mg T.F_accepted.kp T.F_accepted.bd .nil pass0 (pa_cons (pe_fldA (pv 0) (by rfl) T.C_End.cl (T.C_End.na _ (.tail _ (.tail _ (.tail _ (.tail _ (.head _))))))) (pa_cons (pv 1) pa_nil))))
      (pss_cons (ps_if (pt_cmp (pc_isN (pv 2))) (pss_one (ps_set (i := 2) nd (by rfl) (Or.inl (by rfl)) (pe_call G_accepted (hr.mono (by decide)) (gl_of (by kernel_rfl)) T.F_accepted.mg T.F_accepted.kp T.F_accepted.bd .nil pass0 (pa_cons (pe_fldA (pv 0) (by rfl) T.C_End.cl (T.C_End.na _ (.tail _ (.tail _ (.tail _ (.tail _ (.tail _ (.head _)))))))) (pa_cons (pv 1) pa_nil))))) pss_nil)
      (pss_cons (ps_if (pt_cmp (pc_isN (pv 2))) (pss_one (ps_ret (pe_lstN (pa_cons (pe_const (gl_of (by kernel_rfl)) T.M_NOT_RIGHT) pa_nil)))) pss_nil)
      (pss_one (ps_ret (pe_op op_catN (pe_lstN (pa_cons (pe_const (gl_of (by kernel_rfl)) T.M_PACKET) pa_nil)) (pv 2)))))))))), ?_⟩
    walk_at "tw nf"
    refine ⟨_, rfl, a, m, rfl, hM, (by omega), fun H1 s1 => ⟨_, rfl, ?_⟩⟩
    by_cases hf : pform m
    · rw [decide_eq_true hf]
      refine iteF ?_
      have hp1 := s1 _ _ hp
      have F1 := F.same s1
      refine ⟨_, rfl, p, dx, _, _, rfl, hp1, en_fresh _ _ _ _ _ _, _, rfl, pf, gf, a, k, fr, t.fresh, m, rfl, F1.xf, hk, s1 _ _ hM, bM, lM, hf, ?_⟩
      cases ho : readO t.fresh m with
      | some x =>
        obtain ⟨s, n, b⟩ := x
        rw [ho] at q
        intro hv X r H2 u2 X2 l2
        walk_at "tw nf"
        obtain ⟨_, hrp⟩ := readO_some ho
        have bl := packet_plain hrp hf X.b2 bM lM
        refine ⟨_, rfl, _, rfl, iteT ?_⟩
        have hp2 := end_b2 u2 X hp1 rfl
        have f2 : Fr 1 H1 H2 := u2.fr X 1
        refine ⟨_, rfl, p, dx, _, rfl, hp2, (by kernel_rfl), _, rfl, p, dx, _, _, rfl, hp2, en_fresh _ _ _ _ _ _, p, dx, i, st, hs, fr, cu, fo, _, rfl, hp2, ?_⟩
        have u3 : SameBut p H2 (upd H2 p (.ins A.c_End dx (enF (.ref i) st hs .non fr cu))) := but_upd fun _ _ _ h => h
        have hp3 : upd H2 p (.ins A.c_End dx (enF (.ref i) st hs .non fr cu)) p = some (.ins A.c_End dx (enF (.ref i) st hs .non fr cu)) := upd_same
        generalize upd H2 p (.ins A.c_End dx (enF (.ref i) st hs .non fr cu)) = H3 at u3 hp3
        have f3 : Fr 1 H2 H3 := end_fr u3 hp2 rfl
        have f13 := f2.trans f3
        have frn : fr ≠ .non := by rw [hv]; intro z; cases z
        have xc2 := (F1.xc.b2 u2 X fun hc => ⟨(F.s1 frn hc).1.symm, (F.s1 frn hc).2.symm⟩).but u3 hp2 (by show 6 ≤ 6; decide)
        have xf2 : SesO A H3 fr pf gf (k + 1) (some (s.got n)) := SesO.but (o := some _) ⟨hv, X2⟩ u3 hp2 (by show 6 ≤ 6; decide)
        exact ret4 (pf := p) (gf := p) (pc := pf) (gc := gf) (po := pc) (go := gc) (t := { t with former := t.current, current := some (s.got n), fresh := none }) q ((s1.fr 1).trans f13) hp3 ⟨F1.xi.fr f13 (by decide), F1.xs.fr f13, F1.xh.fr f13 (by decide), rfl, xf2, xc2.mono (by omega), fun h => absurd rfl h, fun h => absurd rfl h, F.s1⟩ (f3.lst l2) bl
      | none =>
        rw [ho] at q
        intro H2 s2
        walk_at "tw nf"
        refine ⟨_, rfl, _, rfl, iteF ?_⟩
        have S2 := s1.trans s2
        have hp2 := S2 _ _ hp
        have F2 := F.same S2
        refine ⟨_, rfl, p, dx, _, _, rfl, hp2, en_current _ _ _ _ _ _, _, rfl, pc, gc, a, k, cu, t.current, m, rfl, F2.xc, hk, S2 _ _ hM, bM, lM, hf, ?_⟩
        cases ho2 : readO t.current m with
        | some x =>
          obtain ⟨s, n, b⟩ := x
          rw [ho2] at q
          intro hv X r H3 u3 X3 l3
          walk_at "tw nf"
          obtain ⟨_, hrp⟩ := readO_some ho2
          have bl := packet_plain hrp hf X.b2 bM lM
          have hp3 := end_b2 u3 X hp2 rfl
          have f3 : Fr 1 H2 H3 := u3.fr X 1
          have cun : cu ≠ .non := by rw [hv]; intro z; cases z
          have xf3 := F2.xf.b2 u3 X fun hc => F.s1 hc cun
          have xo3 := F2.xo.b2 u3 X fun hc => ⟨(F.s3 cun hc).1.symm, (F.s3 cun hc).2.symm⟩
          refine ⟨_, rfl, _, rfl, iteF ⟨_, rfl, _, rfl, iteF ?_⟩⟩
          exact ret4 (pf := pf) (gf := gf) (pc := pc) (gc := gc) (po := po) (go := go) (t := { t with current := some (s.got n) }) q ((S2.fr 1).trans f3) hp3 ⟨F2.xi.fr f3 (by decide), F2.xs.fr f3, F2.xh.fr f3 (by decide), xf3.mono (by omega), ⟨hv, X3⟩, xo3.mono (by omega), F.s1, F.s2, F.s3⟩ l3 bl
        | none =>
          rw [ho2] at q
          intro H3 s3
          walk_at "tw nf"
          refine ⟨_, rfl, _, rfl, iteT ?_⟩
          have S3 := S2.trans s3
          have hp3 := S3 _ _ hp
          have F3 := F.same S3
          refine ⟨_, rfl, p, dx, _, _, rfl, hp3, en_former _ _ _ _ _ _, _, rfl, po, go, a, k, fo, t.former, m, rfl, F3.xo, hk, S3 _ _ hM, bM, lM, hf, ?_⟩
          cases ho3 : readO t.former m with
          | some x =>
            obtain ⟨s, n, b⟩ := x
            rw [ho3] at q
            intro hv X r H4 u4 X4 l4
            walk_at "tw nf"
            obtain ⟨_, hrp⟩ := readO_some ho3
            have bl := packet_plain hrp hf X.b2 bM lM
            have hp4 := end_b2 u4 X hp3 rfl
            have f4 : Fr 1 H3 H4 := u4.fr X 1
            have fon : fo ≠ .non := by rw [hv]; intro z; cases z
            have xf4 := F3.xf.b2 u4 X fun hc => F.s2 hc fon
            have xc4 := F3.xc.b2 u4 X fun hc => F.s3 hc fon
            refine ⟨_, rfl, _, rfl, iteF ?_⟩
            exact ret4 (pf := pf) (gf := gf) (pc := pc) (gc := gc) (po := po) (go := go) (t := { t with former := some (s.got n) }) q ((S3.fr 1).trans f4) hp4 ⟨F3.xi.fr f4 (by decide), F3.xs.fr f4, F3.xh.fr f4 (by decide), xf4.mono (by omega), xc4.mono (by omega), ⟨hv, X4⟩, F.s1, F.s2, F.s3⟩ l4 bl
          | none =>
            rw [ho3] at q
            intro H4 s4
            walk_at "tw nf"
            exact ⟨_, rfl, _, rfl, iteT (ret0 (z := 0) (RetE.mono q (by omega)) (S3.trans s4) hp F)⟩
    · rw [decide_eq_false hf]
      rw [readO_form hf, readO_form hf, readO_form hf] at q
      exact iteT (ret0 (z := 0) (RetE.mono q (by omega)) s1 hp F)
end Tw
namespace Tw
open PySem L2
open Sd16 (number little u32)
def tkSend (t : Sd16.End) (d : List Nat) : Sd16.End × Int × List Nat := match t.current with
  | none => (t, -3, [])
  | some s => if 2 ^ 60 ≤ s.next then (t, -3, []) else ({ t with current := some { s with next := s.next + 1 } }, ((packetOf s d).length : Int), packetOf s d)
theorem packet_len {s : Sd16.Session} {d : List Nat} (bo : B32 s.out) (hd : d.length ≤ 70000) : (packetOf s d).length ≤ 70100 := by
  have fl : (d ++ List.replicate ((16 - d.length % 16) % 16) 0).length ≤ 70016 := by rw [List.length_append, List.length_replicate]; omega
  unfold packetOf
  generalize d ++ List.replicate ((16 - d.length % 16) % 16) 0 = pd at fl
  have sl : (Sd16.sealed s.out s.next pd []).length = pd.length + 16 := sealed_len bo.2 bo.1 (by omega)
  generalize Sd16.sealed s.out s.next pd [] = z at sl
  have ul : (u32 s.theirs).length = 4 := little_length _ _
  simp only [List.length_append, little_length, List.length_cons, List.length_nil]
  omega
def sp_End_send (K : PySem.W.Frag) (A : Ad) : Sp := fun vs H Q _ => ∃ (p a : Addr) (k : Nat) (t : Sd16.End) (d : List Nat), vs = [.ref p, .ref a] ∧ EndAt A H p k t ∧ LH H a d ∧ Byt d ∧ d.length ≤ 70000 ∧ RetE A H p k (tkSend t d) Q
theorem retN {A : Ad} {H H1 : Hp} {p : Addr} {k : Nat} {t : Sd16.End} {Q : VK} {z : Int} (q : RetE A H p k (t, z, []) Q) (s : Same H H1) (e : EndAt A H1 p k t) : [V.int z].length ≤ sizeLine ∧ ∀ r, H1 r = none → Q (.ref r) (upd H1 r (.lst [.int z])) :=
  ⟨sz_small (by show 1 ≤ 1000000; decide), fun r hr => by
    obtain ⟨dx, i, st, hs, fr, cu, fo, pf, gf, pc, gc, po, go, hp, F⟩ := e
    have s2 : Same H1 (upd H1 r (.lst [.int z])) := same_lay hr
    exact q r _ ((s.trans s2).fr 1) ⟨dx, i, st, hs, fr, cu, fo, pf, gf, pc, gc, po, go, s2 _ _ hp, F.same s2⟩ upd_same⟩
theorem EndAt.same {A : Ad} {H H' : Hp} {p : Addr} {k : Nat} {t : Sd16.End} (x : EndAt A H p k t) (s : Same H H') : EndAt A H' p k t := by
  obtain ⟨dx, i, st, hs, fr, cu, fo, pf, gf, pc, gc, po, go, hp, F⟩ := x
  exact ⟨dx, i, st, hs, fr, cu, fo, pf, gf, pc, gc, po, go, s _ _ hp, F.same s⟩
theorem sc_End_send : FnScope ["self", "d", "packet"] ["self", "d"] (defScope s_End_send) := ⟨by kernel_rfl, by kernel_rfl, by kernel_rfl, by decide +kernel, by kernel_rfl, by decide +kernel, by decide +kernel⟩
theorem ok_End_send {P : Program} {w : World} {K : PySem.W.Frag} {mg : Str → Option Value} {base : Heap} {A : Ad} (T : Tx K mg A) : FnOk P w K mg base CX0 7 A.f_End_send A.d_End_send ["self", "d"] (sp_End_send K A) := by
  have G_Session_is_used_up := ok_Session_is_used_up (P := P) (w := w) (base := base) T
  have G_Session_packet := ok_Session_packet (P := P) (w := w) (base := base) T
  have nd := sc_End_send.nd
  refine T.F_End_send.fn.ok sc_End_send (fun vs H Q E h => ?_) (fun cdv A' outer s H vs Q E hr h => ?_)
  · obtain ⟨p, a, k, t, d, rfl, _⟩ := h
    rfl
  · obtain ⟨p, a, k, t, d, rfl, EA, hD, bD, lD, q⟩ := h
    obtain ⟨dx, i, st, hs, fr, cu, fo, pf, gf, pc, gc, po, go, hp, F⟩ := id EA
    refine ⟨_, (pss_cons (ps_if ((pw_or (pt_cmp (pc_isN (pe_fldA (pv 0) (by rfl) T.C_End.cl (T.C_End.na _ (.tail _ (.tail _ (.tail _ (.tail _ (.head _))))))))) (pw_or1 (pt_val (pe_meth0 (pe_fldA (pv 0) (by rfl) T.C_End.cl (T.C_End.na _ (.tail _ (.tail _ (.tail _ (.tail _ (.head _))))))) T.C_Session.cl T.F_Session_is_used_up.mt G_Session_is_used_up (hr.mono (by decide)) T.F_Session_is_used_up.bd .nil pass0) (by intro _; rfl))))).pt (pss_one (ps_ret (pe_lst (pa_cons (pe_const (gl_of (by kernel_rfl)) T.M_NOT_NOW) pa_nil)))) pss_nil)
      (pss_cons (ps_set (i := 2) nd (by rfl) (Or.inl (by rfl)) (pe_meth (pe_fldA (pv 0) (by rfl) T.C_End.cl (T.C_End.na _ (.tail _ (.tail _ (.tail _ (.tail _ (.head _))))))) T.C_Session.cl T.F_Session_packet.mt G_Session_packet (hr.mono (by decide)) T.F_Session_packet.bd .nil pass0 (pa_cons (pv 1) pa_nil)))
      (pss_one (ps_ret (pe_op op_catN (pe_lstN (pa_cons (pe_callB call_lenN (gl_of (by kernel_rfl)) T.N_len PySem.boot_len (pa_cons (pv 2) pa_nil)) pa_nil)) (pv 2)))))), ?_⟩
    walk_at "tw nf"
    have xc := F.xc
    unfold tkSend at q
    refine ⟨_, rfl, p, dx, _, _, rfl, hp, en_current _ _ _ _ _ _, ?_⟩
    cases hc : t.current with
    | none =>
      rw [hc] at q xc
      have xc' : cu = .non := xc
      subst xc'
      exact ⟨_, rfl, iteT (iteT (retN q (Same.refl _) EA))⟩
    | some s =>
      rw [hc] at q xc
      obtain ⟨rfl, X⟩ := xc
      refine ⟨_, rfl, iteF ?_⟩
      obtain ⟨dy, ay, by_, ey, _⟩ := X.ob
      refine ⟨_, rfl, p, dx, _, _, rfl, hp, en_current _ _ _ _ _ _, pc, dy, _, rfl, ey, (by kernel_rfl), pc, gc, k, s, rfl, X, fun H1 s1 => ⟨_, rfl, ?_⟩⟩
      have nx := X.nx
      have q' : RetE A H p k (if 2 ^ 60 ≤ s.next then (t, -3, []) else ({ t with current := some { s with next := s.next + 1 } }, ((packetOf s d).length : Int), packetOf s d)) Q := q
      by_cases hu : s.next = 2 ^ 60
      · rw [if_pos (by omega)] at q'
        rw [decide_eq_true hu]
        exact iteT (retN q' s1 (EA.same s1))
      · rw [if_neg (by omega)] at q'
        rw [decide_eq_false hu]
        refine iteF ?_
        have hp1 := s1 _ _ hp
        have F1 := F.same s1
        refine ⟨_, rfl, p, dx, _, _, rfl, hp1, en_current _ _ _ _ _ _, pc, dy, _, rfl, s1 _ _ ey, (by kernel_rfl), _, rfl, pc, gc, a, k, s, d, rfl, X.same s1, s1 _ _ hD, bD, lD, (by omega), fun r H2 u2 X2 lr => ?_⟩
        walk_at "tw nf"
        have pl := packet_len (d := d) X.b1 lD
        generalize packetOf s d = P at q' lr pl
        have u2' : SameB2 pc gc H1 H2 := fun b o h _ e => u2 b o h e
        have X1 := X.same s1
        have hp2 := end_b2 u2' X1 hp1 rfl
        have f2 : Fr 1 H1 H2 := u2'.fr X1 1
        have cun : (V.ref pc) ≠ .non := by intro z; cases z
        have xf2 := F1.xf.b2 u2' X1 fun hc => F.s1 hc cun
        have xo2 := F1.xo.b2 u2' X1 fun hc => ⟨(F.s3 cun hc).1.symm, (F.s3 cun hc).2.symm⟩
        refine ⟨_, rfl, r, _, rfl, lr, [P.length], rfl, (by show 1 ≤ 1000000; decide), fun x H4 hx s4 lx => ⟨_, rfl, x, r, _, _, rfl, rfl, lx, s4 _ _ lr, (by show 1 + P.length ≤ 1000000; omega), fun r2 H5 hr2 s5 l5 => ?_⟩⟩
        have s45 := s4.trans s5
        have F2 : EndF A H2 k i st hs fr (.ref pc) fo pf gf pc gc po go { t with current := some { s with next := s.next + 1 } } := ⟨F1.xi.fr f2 (by decide), F1.xs.fr f2, F1.xh.fr f2 (by decide), xf2, ⟨rfl, X2⟩, xo2, F.s1, F.s2, F.s3⟩
        exact q' r2 H5 (((s1.fr 1).trans f2).trans (s45.fr 1)) ⟨dx, i, st, hs, fr, .ref pc, fo, pf, gf, pc, gc, po, go, s45 _ _ hp2, F2.same s45⟩ l5
def tkAll (t : Sd16.End) (m e : List Nat) (mine : Nat) : Sd16.End × Int × List Nat :=
  if m.head? = some 1 then tkF t (Sd16.readFirst t m) (fun theirs p c h => Sd16.reply t theirs p c h e mine)
  else if m.head? = some 2 then tkS t (t.waiting.bind fun w => Sd16.readSecond t w m)
  else tkP t (readO t.fresh m) (readO t.current m) (readO t.former m)
def sp_End_take (K : PySem.W.Frag) (A : Ad) : Sp := fun vs H Q _ => ∃ (p mo a : Addr) (k mine : Nat) (t : Sd16.End) (e m : List Nat), vs = [.ref p, .int mine, .ref mo, .ref a] ∧ EndAt A H p k t ∧ LH H mo e ∧ LH H a m ∧ B32 e ∧ Byt m ∧ m.length ≤ 70000 ∧ mine < 2 ^ 32 ∧ k < 1000 ∧
  RetE A H p (k + 1) (tkAll t m e mine) Q
theorem sc_End_take : FnScope ["self", "mine", "moment", "m", "kind"] ["self", "mine", "moment", "m"] (defScope s_End_take) := ⟨by kernel_rfl, by kernel_rfl, by kernel_rfl, by decide +kernel, by kernel_rfl, by decide +kernel, by decide +kernel⟩
theorem ok_End_take {P : Program} {w : World} {K : PySem.W.Frag} {mg : Str → Option Value} {base : Heap} {A : Ad} (T : Tx K mg A) : FnOk P w K mg base CX0 12 A.f_End_take A.d_End_take ["self", "mine", "moment", "m"] (sp_End_take K A) := by
  have G_End_take_first := ok_End_take_first (P := P) (w := w) (base := base) T
  have G_End_take_second := ok_End_take_second (P := P) (w := w) (base := base) T
  have G_End_take_packet := ok_End_take_packet (P := P) (w := w) (base := base) T
  have nd := sc_End_take.nd
  refine T.F_End_take.fn.ok sc_End_take (fun vs H Q E h => ?_) (fun cdv A' outer s H vs Q E hr h => ?_)
  · obtain ⟨p, mo, a, k, mine, t, e, m, rfl, _⟩ := h
    rfl
  · obtain ⟨p, mo, a, k, mine, t, e, m, rfl, EA, hE, hM, bE, bM, lM, hmi, hk, q⟩ := h
    obtain ⟨dx, i, st, hs, fr, cu, fo, pf, gf, pc, gc, po, go, hp, F⟩ := id EA
    refine ⟨_, (pss_cons (ps_set (i := 4) nd (by rfl) (Or.inl (by rfl)) (pe_ifExp (pt_cmpR op_gtP (pe_callB call_lenN (gl_of (by kernel_rfl)) T.N_len PySem.boot_len (pa_cons (pv 3) pa_nil)) (pe_nat 0) (nomark _)) (pe_ix ix_listN (pv 3) (pe_nat 0) (fun _ _ => rfl)) (pe_const (gl_of (by kernel_rfl)) T.M_PACKET)))
      (pss_cons (ps_if (pt_cmpR op_eqP (pv 4) (pe_const (gl_of (by kernel_rfl)) T.M_FIRST) (nomark _)) (pss_one (ps_ret (pe_meth (pv 0) T.C_End.cl T.F_End_take_first.mt G_End_take_first (hr.mono (by decide)) T.F_End_take_first.bd .nil pass0 (pa_cons (pv 1) (pa_cons (pv 2) (pa_cons (pv 3) pa_nil)))))) pss_nil)
      (pss_cons (ps_if (pt_cmpR op_eqP (pv 4) (pe_const (gl_of (by kernel_rfl)) T.M_SECOND) (nomark _)) (pss_one (ps_ret (pe_meth (pv 0) T.C_End.cl T.F_End_take_second.mt G_End_take_second (hr.mono (by decide)) T.F_End_take_second.bd .nil pass0 (pa_cons (pv 3) pa_nil)))) pss_nil)
      (pss_one (ps_ret (pe_meth (pv 0) T.C_End.cl T.F_End_take_packet.mt G_End_take_packet (hr.mono (by decide)) T.F_End_take_packet.bd .nil pass0 (pa_cons (pv 3) pa_nil))))))), ?_⟩
    walk_at "tw nf"
    unfold tkAll at q
    refine ⟨_, rfl, a, m, rfl, hM, _, _, rfl, rfl, _, rfl, ?_⟩
    obtain ⟨f1, hf1⟩ : ∃ f1, f1 = tkF t (Sd16.readFirst t m) (fun theirs p c h => Sd16.reply t theirs p c h e mine) := ⟨_, rfl⟩
    obtain ⟨f2, hf2⟩ : ∃ f2, f2 = tkS t (t.waiting.bind fun w => Sd16.readSecond t w m) := ⟨_, rfl⟩
    rw [← hf1, ← hf2] at q
    cases m with
    | nil =>
      refine iteF ?_
      walk_at "tw nf"
      rw [if_neg (by decide), if_neg (by decide)] at q
      refine ⟨_, rfl, _, _, rfl, rfl, _, rfl, iteF ⟨_, rfl, _, _, rfl, rfl, _, rfl, iteF ?_⟩⟩
      exact ⟨_, rfl, p, dx, _, rfl, hp, (by kernel_rfl), _, rfl, p, a, k, t, [], rfl, EA, hM, bM, lM, hk, q⟩
    | cons x m =>
      rw [decide_eq_true (show 0 < (x :: m).length from Nat.succ_pos _)]
      refine iteT ⟨_, rfl, a, x :: m, 0, x, rfl, rfl, hM, rfl, ?_⟩
      walk_at "tw nf"
      refine ⟨_, rfl, _, _, rfl, rfl, _, rfl, ?_⟩
      by_cases c1 : x = 1
      · rw [decide_eq_true c1]
        rw [if_pos (by rw [c1]; rfl), hf1] at q
        refine iteT ?_
        exact ⟨_, rfl, p, dx, _, rfl, hp, (by kernel_rfl), _, rfl, _, rfl, _, rfl, p, mo, a, k, mine, t, e, x :: m, rfl, EA, hE, hM, bE, bM, lM, hmi, RetE.mono q (by omega)⟩
      · rw [decide_eq_false c1]
        rw [if_neg (fun h => c1 (by injection h))] at q
        refine iteF ⟨_, rfl, _, _, rfl, rfl, _, rfl, ?_⟩
        by_cases c2 : x = 2
        · rw [decide_eq_true c2]
          rw [if_pos (by rw [c2]; rfl), hf2] at q
          refine iteT ?_
          exact ⟨_, rfl, p, dx, _, rfl, hp, (by kernel_rfl), _, rfl, p, a, k, t, x :: m, rfl, EA, hM, bM, lM, RetE.mono q (by omega)⟩
        · rw [decide_eq_false c2]
          rw [if_neg (fun h => c2 (by injection h))] at q
          refine iteF ?_
          exact ⟨_, rfl, p, dx, _, rfl, hp, (by kernel_rfl), _, rfl, p, a, k, t, x :: m, rfl, EA, hM, bM, lM, hk, q⟩
end Tw
namespace Tw
open PySem L2
open Sd16 (number little u32)
def liF (a : V) : List (Str × V) := [("end", a)]
theorem li_end (a : V) : (liF a).lookup ("end" : Str) = some a := by kernel_rfl
theorem li_put (a v : V) : putF "end" v (liF a) = liF v := by kernel_rfl
def LineAt (A : Ad) (H : Hp) (p : Addr) (k : Nat) : Option Sd16.End → Prop
  | none => ∃ dx, H p = some (.ins A.c_Line dx (liF .non))
  | some t => ∃ dx e, H p = some (.ins A.c_Line dx (liF (.ref e))) ∧ EndAt A H e k t
def RetN (A : Ad) (H : Hp) (p : Addr) (k : Nat) (x : Option Sd16.End × Int × List Nat) (Q : VK) : Prop := ∀ r H', Fr 2 H H' → LineAt A H' p k x.1 → H' r = some (.lst (.int x.2.1 :: bs x.2.2)) → Q (.ref r) H'
theorem LineAt.ob {A : Ad} {H : Hp} {p : Addr} {k : Nat} {o : Option Sd16.End} (x : LineAt A H p k o) : ∃ dx v, H p = some (.ins A.c_Line dx (liF v)) := by
  cases o with
  | none =>
    obtain ⟨dx, e⟩ := x
    exact ⟨dx, _, e⟩
  | some t =>
    obtain ⟨dx, e, h, _⟩ := x
    exact ⟨dx, _, h⟩
theorem EndAt.fr2 {A : Ad} {H H' : Hp} {p q C dx : Addr} {fs : List (Str × V)} {k : Nat} {t : Sd16.End} (x : EndAt A H p k t) (u : SameBut q H H') (hq : H q = some (.ins C dx fs)) (hl : fs.length = 1) : EndAt A H' p k t := by
  obtain ⟨dx, i, st, hs, fr, cu, fo, pf, gf, pc, gc, po, go, hp, F⟩ := x
  exact ⟨dx, i, st, hs, fr, cu, fo, pf, gf, pc, gc, po, go, u _ _ (ne_len hp hq (by rw [hl]; show 6 ≠ 1; decide)) hp, F.but u hq (.inr hl)⟩
theorem LineAt.same {A : Ad} {H H' : Hp} {p : Addr} {k : Nat} {o : Option Sd16.End} (x : LineAt A H p k o) (s : Same H H') : LineAt A H' p k o := by
  cases o with
  | none =>
    obtain ⟨dx, e⟩ := x
    exact ⟨dx, s _ _ e⟩
  | some t =>
    obtain ⟨dx, e, h, E⟩ := x
    exact ⟨dx, e, s _ _ h, E.same s⟩
theorem LineAt.mono {A : Ad} {H : Hp} {p : Addr} {k k' : Nat} {o : Option Sd16.End} (x : LineAt A H p k o) (h : k ≤ k') : LineAt A H p k' o := by
  cases o with
  | none => exact x
  | some t =>
    obtain ⟨dx, e, h', E⟩ := x
    exact ⟨dx, e, h', E.mono h⟩
theorem retZ {A : Ad} {H H1 : Hp} {p : Addr} {k : Nat} {o : Option Sd16.End} {Q : VK} {z : Int} (q : RetN A H p k (o, z, []) Q) (s : Fr 2 H H1) (e : LineAt A H1 p k o) : [V.int z].length ≤ sizeLine ∧ ∀ r, H1 r = none → Q (.ref r) (upd H1 r (.lst [.int z])) :=
  ⟨sz_small (by show 1 ≤ 1000000; decide), fun r hr => by
    have s2 : Same H1 (upd H1 r (.lst [.int z])) := same_lay hr
    exact q r _ (s.trans (s2.fr 2)) (e.same s2) upd_same⟩
def stOpen (s p k : List Nat) : Option Sd16.End × Int × List Nat := if Sd16.nothing (Sd16.agree s p) = true then (none, -2, []) else (some ⟨s, p, k, none, none, none, none, none⟩, 0, [])
def stBegin (o : Option Sd16.End) (e : List Nat) (mine : Nat) (stamp : List Nat) : Option Sd16.End × Int × List Nat := match o with
  | none => (o, -3, [])
  | some t => (some { t with waiting := some (Sd16.begin_ t e mine stamp).2 }, 148, (Sd16.begin_ t e mine stamp).1)
def stTake (o : Option Sd16.End) (m e : List Nat) (mine : Nat) : Option Sd16.End × Int × List Nat := match o with
  | none => (o, -3, [])
  | some t => (some (tkAll t m e mine).1, (tkAll t m e mine).2)
def stSend (o : Option Sd16.End) (d : List Nat) : Option Sd16.End × Int × List Nat := match o with
  | none => (o, -3, [])
  | some t => (some (tkSend t d).1, (tkSend t d).2)
def sp_Line___init__ (K : PySem.W.Frag) (A : Ad) : Sp := fun vs H Q _ => ∃ (p dx : Addr), vs = [.ref p] ∧ H p = some (.ins A.c_Line dx []) ∧ Q .non (upd H p (.ins A.c_Line dx (liF .non)))
def sp_Line_set_up (K : PySem.W.Frag) (A : Ad) : Sp := fun vs H Q _ => ∃ (p sa pa ka dx : Addr) (v : V) (s pe k : List Nat), vs = [.ref p, .ref sa, .ref pa, .ref ka] ∧ H p = some (.ins A.c_Line dx (liF v)) ∧ LH H sa s ∧ LH H pa pe ∧ LH H ka k ∧ B32 s ∧ B32 pe ∧ B32 k ∧ RetN A H p 0 (stOpen s pe k) Q
def sp_Line_begin (K : PySem.W.Frag) (A : Ad) : Sp := fun vs H Q _ => ∃ (p ma sa : Addr) (k mine : Nat) (o : Option Sd16.End) (e stamp : List Nat), vs = [.ref p, .int mine, .ref ma, .ref sa] ∧ LineAt A H p k o ∧ LH H ma e ∧ LH H sa stamp ∧ B32 e ∧ Byt stamp ∧ stamp.length = 12 ∧ mine < 2 ^ 32 ∧ RetN A H p k (stBegin o e mine stamp) Q
def sp_Line_take (K : PySem.W.Frag) (A : Ad) : Sp := fun vs H Q _ => ∃ (p mo a : Addr) (k mine : Nat) (o : Option Sd16.End) (e m : List Nat), vs = [.ref p, .int mine, .ref mo, .ref a] ∧ LineAt A H p k o ∧ LH H mo e ∧ LH H a m ∧ B32 e ∧ Byt m ∧ m.length ≤ 65568 ∧ mine < 2 ^ 32 ∧ k < 1000 ∧ RetN A H p (k + 1) (stTake o m e mine) Q
def sp_Line_send (K : PySem.W.Frag) (A : Ad) : Sp := fun vs H Q _ => ∃ (p a : Addr) (k : Nat) (o : Option Sd16.End) (d : List Nat), vs = [.ref p, .ref a] ∧ LineAt A H p k o ∧ LH H a d ∧ Byt d ∧ d.length ≤ 65536 ∧ RetN A H p k (stSend o d) Q
theorem sc_Line___init__ : FnScope ["self"] ["self"] (defScope s_Line___init__) := ⟨by kernel_rfl, by kernel_rfl, by kernel_rfl, by decide +kernel, by kernel_rfl, by decide +kernel, by decide +kernel⟩
theorem ok_Line___init__ {P : Program} {w : World} {K : PySem.W.Frag} {mg : Str → Option Value} {base : Heap} {A : Ad} (T : Tx K mg A) : FnOk P w K mg base CX0 1 A.f_Line___init__ A.d_Line___init__ ["self"] (sp_Line___init__ K A) := by
  have nd := sc_Line___init__.nd
  refine T.F_Line___init__.fn.ok sc_Line___init__ (fun vs H Q E h => ?_) (fun cdv A' outer s H vs Q E hr h => ?_)
  · obtain ⟨p, dx, rfl, _⟩ := h
    rfl
  · obtain ⟨p, dx, rfl, hp, q⟩ := h
    refine ⟨_, (pss_one (ps_fldA (pv 0) pe_non (by rfl) T.C_Line.cl (T.C_Line.na _ (.head _)))), ?_⟩
    exact ⟨_, rfl, p, dx, _, rfl, hp, (by decide), q⟩
theorem sc_Line_set_up : FnScope ["self", "secret", "peer", "psk", "identity"] ["self", "secret", "peer", "psk"] (defScope s_Line_set_up) := ⟨by kernel_rfl, by kernel_rfl, by kernel_rfl, by decide +kernel, by kernel_rfl, by decide +kernel, by decide +kernel⟩
theorem ok_Line_set_up {P : Program} {w : World} {K : PySem.W.Frag} {mg : Str → Option Value} {base : Heap} {A : Ad} (T : Tx K mg A) : FnOk P w K mg base CX0 8 A.f_Line_set_up A.d_Line_set_up ["self", "secret", "peer", "psk"] (sp_Line_set_up K A) := by
  have G_identity_with := ok_identity_with (P := P) (w := w) (base := base) T
  have G_End___init__ := ok_End___init__ (P := P) (w := w) (base := base) T
  have nd := sc_Line_set_up.nd
  refine T.F_Line_set_up.fn.ok sc_Line_set_up (fun vs H Q E h => ?_) (fun cdv A' outer s H vs Q E hr h => ?_)
  · obtain ⟨p, sa, pa, ka, dx, v, s, pe, k, rfl, _⟩ := h
    rfl
  · obtain ⟨p, sa, pa, ka, dx, v, s, pe, k, rfl, hp, hS, hP, hK, bS, bP, bK, q⟩ := h
    refine ⟨_, (pss_cons (ps_set (i := 4) nd (by rfl) (Or.inl (by rfl)) (pe_call G_identity_with (hr.mono (by decide)) (gl_of (by kernel_rfl)) T.F_identity_with.mg T.F_identity_with.kp T.F_identity_with.bd .nil pass0 (pa_cons (pv 1) (pa_cons (pv 2) (pa_cons (pv 3) pa_nil)))))
      (pss_cons (ps_if (pt_cmp (pc_isN (pv 4))) (pss_cons (ps_fldA (pv 0) pe_non (by rfl) T.C_Line.cl (T.C_Line.na _ (.head _)))
      (pss_one (ps_ret (pe_lst (pa_cons (pe_const (gl_of (by kernel_rfl)) T.M_WORTHLESS) pa_nil))))) pss_nil)
      (pss_cons (ps_fldA (pv 0) (pe_make T.C_End.mkc G_End___init__ (hr.mono (by decide)) (gl_of (by kernel_rfl)) T.C_End.mg T.F_End___init__.bd .nil pass0 (pa_cons (pv 4) pa_nil)) (by rfl) T.C_Line.cl (T.C_Line.na _ (.head _)))
      (pss_one (ps_ret (pe_lstN (pa_cons (pe_const (gl_of (by kernel_rfl)) T.M_DONE) pa_nil))))))), ?_⟩
    walk_at "tw nf"
    unfold stOpen at q
    refine ⟨_, rfl, _, rfl, _, rfl, sa, pa, ka, s, pe, k, rfl, hS, hP, hK, bS, bP, bK, fun nb hnb => ?_⟩
    rw [← hnb] at q
    clear hnb
    cases nb with
    | true =>
      rw [if_pos rfl] at q ⊢
      intro H1 s1
      walk_at "tw nf"
      have hp1 := s1 _ _ hp
      refine ⟨_, rfl, _, rfl, iteT ⟨_, rfl, p, dx, _, rfl, hp1, (by show 1 < 1000; decide), ?_⟩⟩
      rw [li_put]
      have u2 : SameBut p H1 (upd H1 p (.ins A.c_Line dx (liF .non))) := but_upd fun _ _ _ h => h
      exact retZ q ((s1.fr 2).trans (u2.fr hp1 (by show 1 < 2 ∨ _; exact .inl (by decide)))) ⟨dx, upd_same⟩
    | false =>
      rw [if_neg (by decide)] at q ⊢
      intro i H1 hi s1 I
      walk_at "tw nf"
      refine ⟨_, rfl, _, rfl, iteF ⟨_, rfl, ?_⟩⟩
      intro x dy hx hd hne
      refine ⟨x, dy, _, rfl, upd_same, rfl, ?_⟩
      rw [upd_upd]
      have sm := made_same (C := A.c_End) (fs := enF (.ref i) .non .non .non .non .non) hx hd
      have hx2 : upd (upd H1 dy (.own x)) x (.ins A.c_End dy (enF (.ref i) .non .non .non .non .non)) x = some (.ins A.c_End dy (enF (.ref i) .non .non .non .non .non)) := upd_same
      generalize upd (upd H1 dy (.own x)) x (.ins A.c_End dy (enF (.ref i) .non .non .non .non .non)) = H2 at sm hx2
      have hp2 := sm _ _ (s1 _ _ hp)
      refine ⟨_, rfl, p, dx, _, rfl, hp2, (by show 1 < 1000; decide), ?_⟩
      rw [li_put]
      have u3 : SameBut p H2 (upd H2 p (.ins A.c_Line dx (liF (.ref x)))) := but_upd fun _ _ _ h => h
      have hp3 : upd H2 p (.ins A.c_Line dx (liF (.ref x))) p = some (.ins A.c_Line dx (liF (.ref x))) := upd_same
      generalize upd H2 p (.ins A.c_Line dx (liF (.ref x))) = H3 at u3 hp3
      have f3 : Fr 2 H2 H3 := u3.fr hp2 (.inl (by show 1 < 2; decide))
      have E2 : EndAt A H2 x 0 ⟨s, pe, k, none, none, none, none, none⟩ := ⟨dy, i, .non, .non, .non, .non, .non, x, x, x, x, x, x, hx2, I.same sm, rfl, rfl, rfl, rfl, rfl, fun h => absurd rfl h, fun h => absurd rfl h, fun h => absurd rfl h⟩
      have E3 := E2.fr2 u3 hp2 rfl
      refine ⟨[0], rfl, (by show 1 ≤ 1000000; decide), fun r H4 hr4 s4 lr => ?_⟩
      exact q r H4 ((((s1.trans sm).fr 2).trans f3).trans (s4.fr 2)) ⟨dx, x, s4 _ _ hp3, E3.same s4⟩ lr
theorem line_kept {H H' : Hp} {p C dx : Addr} {v : V} (f : Fr 1 H H') (h : H p = some (.ins C dx (liF v))) : H' p = some (.ins C dx (liF v)) := f _ _ (.inr ⟨_, _, _, rfl, by show 1 ≤ 1; decide, by show 1 ≤ 5; decide⟩) h
theorem sc_Line_begin : FnScope ["self", "mine", "moment", "stamp"] ["self", "mine", "moment", "stamp"] (defScope s_Line_begin) := ⟨by kernel_rfl, by kernel_rfl, by kernel_rfl, by decide +kernel, by kernel_rfl, by decide +kernel, by decide +kernel⟩
theorem ok_Line_begin {P : Program} {w : World} {K : PySem.W.Frag} {mg : Str → Option Value} {base : Heap} {A : Ad} (T : Tx K mg A) : FnOk P w K mg base CX0 11 A.f_Line_begin A.d_Line_begin ["self", "mine", "moment", "stamp"] (sp_Line_begin K A) := by
  have G_End_begin := ok_End_begin (P := P) (w := w) (base := base) T
  have nd := sc_Line_begin.nd
  refine T.F_Line_begin.fn.ok sc_Line_begin (fun vs H Q E h => ?_) (fun cdv A' outer s H vs Q E hr h => ?_)
  · obtain ⟨p, ma, sa, k, mine, o, e, stamp, rfl, _⟩ := h
    rfl
  · obtain ⟨p, ma, sa, k, mine, o, e, stamp, rfl, L, hE, hS, bE, bS, l12, hmi, q⟩ := h
    refine ⟨_, (pss_cons (ps_if (pt_cmp (pc_isN (pe_fldA (pv 0) (by rfl) T.C_Line.cl (T.C_Line.na _ (.head _))))) (pss_one (ps_ret (pe_lst (pa_cons (pe_const (gl_of (by kernel_rfl)) T.M_NOT_NOW) pa_nil)))) pss_nil)
      (pss_one (ps_ret (pe_meth (pe_fldA (pv 0) (by rfl) T.C_Line.cl (T.C_Line.na _ (.head _))) T.C_End.cl T.F_End_begin.mt G_End_begin (hr.mono (by decide)) T.F_End_begin.bd .nil pass0 (pa_cons (pv 1) (pa_cons (pv 2) (pa_cons (pv 3) pa_nil))))))), ?_⟩
    cases o with
    | none =>
      obtain ⟨dx, hp⟩ := id L
      exact ⟨_, rfl, p, dx, _, _, rfl, hp, li_end _, _, rfl, iteT (retZ q ((Same.refl _).fr 2) L)⟩
    | some t =>
      obtain ⟨dx, x, hp, EA⟩ := id L
      obtain ⟨dy, i, st, hs, fr, cu, fo, pf, gf, pc, gc, po, go, hx, F⟩ := id EA
      refine ⟨_, rfl, p, dx, _, _, rfl, hp, li_end _, _, rfl, iteF ?_⟩
      exact ⟨_, rfl, p, dx, _, _, rfl, hp, li_end _, x, dy, _, rfl, hx, (by kernel_rfl), _, rfl, _, rfl, _, rfl, x, ma, sa, k, mine, t, e, stamp, rfl, EA, hE, hS, bE, bS, l12, hmi, fun r H' f e' l => q r H' (f.mono (by decide)) ⟨dx, x, line_kept f hp, e'⟩ l⟩
theorem sc_Line_take : FnScope ["self", "mine", "moment", "m"] ["self", "mine", "moment", "m"] (defScope s_Line_take) := ⟨by kernel_rfl, by kernel_rfl, by kernel_rfl, by decide +kernel, by kernel_rfl, by decide +kernel, by decide +kernel⟩
theorem ok_Line_take {P : Program} {w : World} {K : PySem.W.Frag} {mg : Str → Option Value} {base : Heap} {A : Ad} (T : Tx K mg A) : FnOk P w K mg base CX0 13 A.f_Line_take A.d_Line_take ["self", "mine", "moment", "m"] (sp_Line_take K A) := by
  have G_End_take := ok_End_take (P := P) (w := w) (base := base) T
  have nd := sc_Line_take.nd
  refine T.F_Line_take.fn.ok sc_Line_take (fun vs H Q E h => ?_) (fun cdv A' outer s H vs Q E hr h => ?_)
  · obtain ⟨p, mo, a, k, mine, o, e, m, rfl, _⟩ := h
    rfl
  · obtain ⟨p, mo, a, k, mine, o, e, m, rfl, L, hE, hM, bE, bM, lM, hmi, hk, q⟩ := h
    refine ⟨_, (pss_cons (ps_if (pt_cmpR op_gtP (pe_callB call_lenN (gl_of (by kernel_rfl)) T.N_len PySem.boot_len (pa_cons (pv 3) pa_nil)) (pe_const (gl_of (by kernel_rfl)) T.M_MOST_TAKEN) (nomark _)) (pss_one (ps_ret (pe_lst (pa_cons (pe_const (gl_of (by kernel_rfl)) T.M_TOO_LONG) pa_nil)))) pss_nil)
      (pss_cons (ps_if (pt_cmp (pc_isN (pe_fldA (pv 0) (by rfl) T.C_Line.cl (T.C_Line.na _ (.head _))))) (pss_one (ps_ret (pe_lst (pa_cons (pe_const (gl_of (by kernel_rfl)) T.M_NOT_NOW) pa_nil)))) pss_nil)
      (pss_one (ps_ret (pe_meth (pe_fldA (pv 0) (by rfl) T.C_Line.cl (T.C_Line.na _ (.head _))) T.C_End.cl T.F_End_take.mt G_End_take (hr.mono (by decide)) T.F_End_take.bd .nil pass0 (pa_cons (pv 1) (pa_cons (pv 2) (pa_cons (pv 3) pa_nil)))))))), ?_⟩
    refine ⟨_, rfl, a, m, rfl, hM, _, _, rfl, rfl, _, rfl, ?_⟩
    rw [decide_eq_false (show ¬ 65568 < m.length by omega)]
    refine iteF ?_
    cases o with
    | none =>
      obtain ⟨dx, hp⟩ := id L
      exact ⟨_, rfl, p, dx, _, _, rfl, hp, li_end _, _, rfl, iteT (retZ q ((Same.refl _).fr 2) (L.mono (by omega)))⟩
    | some t =>
      obtain ⟨dx, x, hp, EA⟩ := id L
      obtain ⟨dy, i, st, hs, fr, cu, fo, pf, gf, pc, gc, po, go, hx, F⟩ := id EA
      have q' : RetN A H p (k + 1) (some (tkAll t m e mine).1, (tkAll t m e mine).2) Q := q
      generalize tkAll t m e mine = y at q'
      refine ⟨_, rfl, p, dx, _, _, rfl, hp, li_end _, _, rfl, iteF ?_⟩
      exact ⟨_, rfl, p, dx, _, _, rfl, hp, li_end _, x, dy, _, rfl, hx, (by kernel_rfl), _, rfl, _, rfl, _, rfl, x, mo, a, k, mine, t, e, m, rfl, EA, hE, hM, bE, bM, by omega, hmi, hk, fun r H' f e' l => q r H' (f.mono (by decide)) ⟨dx, x, line_kept f hp, e'⟩ l⟩
theorem sc_Line_send : FnScope ["self", "d"] ["self", "d"] (defScope s_Line_send) := ⟨by kernel_rfl, by kernel_rfl, by kernel_rfl, by decide +kernel, by kernel_rfl, by decide +kernel, by decide +kernel⟩
theorem ok_Line_send {P : Program} {w : World} {K : PySem.W.Frag} {mg : Str → Option Value} {base : Heap} {A : Ad} (T : Tx K mg A) : FnOk P w K mg base CX0 8 A.f_Line_send A.d_Line_send ["self", "d"] (sp_Line_send K A) := by
  have G_End_send := ok_End_send (P := P) (w := w) (base := base) T
  have nd := sc_Line_send.nd
  refine T.F_Line_send.fn.ok sc_Line_send (fun vs H Q E h => ?_) (fun cdv A' outer s H vs Q E hr h => ?_)
  · obtain ⟨p, a, k, o, d, rfl, _⟩ := h
    rfl
  · obtain ⟨p, a, k, o, d, rfl, L, hD, bD, lD, q⟩ := h
    refine ⟨_, (pss_cons (ps_if (pt_cmpR op_gtP (pe_callB call_lenN (gl_of (by kernel_rfl)) T.N_len PySem.boot_len (pa_cons (pv 1) pa_nil)) (pe_const (gl_of (by kernel_rfl)) T.M_MOST_SENT) (nomark _)) (pss_one (ps_ret (pe_lst (pa_cons (pe_const (gl_of (by kernel_rfl)) T.M_TOO_LONG) pa_nil)))) pss_nil)
      (pss_cons (ps_if (pt_cmp (pc_isN (pe_fldA (pv 0) (by rfl) T.C_Line.cl (T.C_Line.na _ (.head _))))) (pss_one (ps_ret (pe_lst (pa_cons (pe_const (gl_of (by kernel_rfl)) T.M_NOT_NOW) pa_nil)))) pss_nil)
      (pss_one (ps_ret (pe_meth (pe_fldA (pv 0) (by rfl) T.C_Line.cl (T.C_Line.na _ (.head _))) T.C_End.cl T.F_End_send.mt G_End_send (hr.mono (by decide)) T.F_End_send.bd .nil pass0 (pa_cons (pv 1) pa_nil)))))), ?_⟩
    refine ⟨_, rfl, a, d, rfl, hD, _, _, rfl, rfl, _, rfl, ?_⟩
    rw [decide_eq_false (show ¬ 65536 < d.length by omega)]
    refine iteF ?_
    cases o with
    | none =>
      obtain ⟨dx, hp⟩ := id L
      exact ⟨_, rfl, p, dx, _, _, rfl, hp, li_end _, _, rfl, iteT (retZ q ((Same.refl _).fr 2) L)⟩
    | some t =>
      obtain ⟨dx, x, hp, EA⟩ := id L
      obtain ⟨dy, i, st, hs, fr, cu, fo, pf, gf, pc, gc, po, go, hx, F⟩ := id EA
      refine ⟨_, rfl, p, dx, _, _, rfl, hp, li_end _, _, rfl, iteF ?_⟩
      exact ⟨_, rfl, p, dx, _, _, rfl, hp, li_end _, x, dy, _, rfl, hx, (by kernel_rfl), _, rfl, x, a, k, t, d, rfl, EA, hD, bD, by omega, fun r H' f e' l => q r H' (f.mono (by decide)) ⟨dx, x, line_kept f hp, e'⟩ l⟩
end Tw
namespace Tw
open PySem L2
open Sd16 (number little u32)
def rdF (a b : V) : List (Str × V) := [("numbers", a), ("at", b)]
theorem rd_numbers (a b : V) : (rdF a b).lookup ("numbers" : Str) = some a := by kernel_rfl
theorem rd_at (a b : V) : (rdF a b).lookup ("at" : Str) = some b := by kernel_rfl
theorem rd_put (a b v : V) : putF "at" v (rdF a b) = rdF a v := by kernel_rfl
def RdAt (A : Ad) (H : Hp) (p a : Addr) (n : Nat) : Prop := ∃ dx, H p = some (.ins A.c_Reader dx (rdF (.ref a) (.int (n : Int))))
def iv (l : List Int) : List V := l.map V.int
theorem RdAt.same {A : Ad} {H H' : Hp} {p a : Addr} {n : Nat} (x : RdAt A H p a n) (s : Same H H') : RdAt A H' p a n := by
  obtain ⟨dx, e⟩ := x
  exact ⟨dx, s _ _ e⟩
theorem RdAt.ins {A : Ad} {H : Hp} {p a : Addr} {n : Nat} (x : RdAt A H p a n) : InsAt H p := by
  obtain ⟨dx, e⟩ := x
  exact ⟨_, _, _, e⟩
def Cal (K : PySem.W.Frag) (H : Hp) (a : Addr) (l : List Int) : Prop := (∃ o, H a = some (.frz o (.lst (iv l)))) ∨ ∀ H', SqL K H' a (iv l)
theorem Cal.sq {K : PySem.W.Frag} {H : Hp} {a : Addr} {l : List Int} (x : Cal K H a l) : SqL K H a (iv l) := by
  rcases x with ⟨o, e⟩ | h
  · exact .inl (.inr ⟨o, e⟩)
  · exact h H
theorem Cal.same {K : PySem.W.Frag} {H H' : Hp} {a : Addr} {l : List Int} (x : Cal K H a l) (s : Same H H') : Cal K H' a l := x.imp (fun ⟨o, e⟩ => ⟨o, s _ _ e⟩) id
theorem Cal.but {K : PySem.W.Frag} {H H' : Hp} {a p : Addr} {l : List Int} (x : Cal K H a l) (s : SameBut p H H') (i : InsAt H p) : Cal K H' a l := x.imp (fun ⟨o, e⟩ => ⟨o, s _ _ (by
  obtain ⟨C, dx, fs, e'⟩ := i
  exact ne_of e e' (by intro z; cases z)) e⟩) id
theorem Cal.fr {K : PySem.W.Frag} {H H' : Hp} {a : Addr} {l : List Int} {lo : Nat} (x : Cal K H a l) (s : Fr lo H H') : Cal K H' a l := x.imp (fun ⟨o, e⟩ => ⟨o, s _ _ (.inl (.inr ⟨_, _, rfl⟩)) e⟩) id
theorem cutV_nn (l : List V) (i j : Nat) : cutV l (some (i : Int)) (some (j : Int)) = (l.drop i).take (j - i) := by
  simp only [cutV, HT.sIx_nat]
  by_cases h : i ≤ l.length
  · rw [Nat.min_eq_left h]
    by_cases h2 : j ≤ l.length
    · rw [Nat.min_eq_left h2]
    · rw [Nat.min_eq_right (by omega), List.take_of_length_le (by rw [List.length_drop]; omega), List.take_of_length_le (by rw [List.length_drop]; omega)]
  · have e1 : l.drop (min i l.length) = [] := List.drop_of_length_le (by omega)
    have e2 : l.drop i = [] := List.drop_of_length_le (by omega)
    rw [e1, e2]
    simp
def sp_Reader___init__ (K : PySem.W.Frag) (A : Ad) : Sp := fun vs H Q _ => ∃ (p dx : Addr) (v : V), vs = [.ref p, v] ∧ H p = some (.ins A.c_Reader dx []) ∧ Q .non (upd H p (.ins A.c_Reader dx (rdF v (.int ((0 : Nat) : Int)))))
def sp_Reader_has_more (K : PySem.W.Frag) (A : Ad) : Sp := fun vs H Q _ => ∃ (p a : Addr) (n : Nat) (l : List Int), vs = [.ref p] ∧ Cal K H a l ∧ RdAt A H p a n ∧ RetV H (.bl (decide (n < l.length))) Q
def sp_Reader_number (K : PySem.W.Frag) (A : Ad) : Sp := fun vs H Q _ => ∃ (p a : Addr) (n : Nat) (l : List Int) (z : Int), vs = [.ref p] ∧ Cal K H a l ∧ RdAt A H p a n ∧ l[n]? = some z ∧ ∀ H', SameBut p H H' → RdAt A H' p a (n + 1) → Q (.int z) H'
def sp_Reader_row (K : PySem.W.Frag) (A : Ad) : Sp := fun vs H Q _ => ∃ (p a : Addr) (n k : Nat) (l : List Int), vs = [.ref p] ∧ Cal K H a l ∧ RdAt A H p a n ∧ l[n]? = some (k : Int) ∧ ∀ r H', H r = none → SameBut p H H' → RdAt A H' p a (n + 1 + k) → H' r = some (.lst (iv ((l.drop (n + 1)).take k))) → Q (.ref r) H'
theorem sc_Reader___init__ : FnScope ["self", "numbers"] ["self", "numbers"] (defScope s_Reader___init__) := ⟨by kernel_rfl, by kernel_rfl, by kernel_rfl, by decide +kernel, by kernel_rfl, by decide +kernel, by decide +kernel⟩
theorem ok_Reader___init__ {P : Program} {w : World} {K : PySem.W.Frag} {mg : Str → Option Value} {base : Heap} {A : Ad} (T : Tx K mg A) : FnOk P w K mg base CX0 1 A.f_Reader___init__ A.d_Reader___init__ ["self", "numbers"] (sp_Reader___init__ K A) := by
  have nd := sc_Reader___init__.nd
  refine T.F_Reader___init__.fn.ok sc_Reader___init__ (fun vs H Q E h => ?_) (fun cdv A' outer s H vs Q E hr h => ?_)
  · obtain ⟨p, dx, v, rfl, _⟩ := h
    rfl
  · obtain ⟨p, dx, v, rfl, hp, q⟩ := h
    refine ⟨_, (pss_cons (ps_fldA (pv 0) (pv 1) (by rfl) T.C_Reader.cl (T.C_Reader.na _ (.head _)))
      (pss_one (ps_fldA (pv 0) (pe_nat 0) (by rfl) T.C_Reader.cl (T.C_Reader.na _ (.tail _ (.head _)))))), ?_⟩
    refine ⟨_, rfl, _, rfl, p, dx, _, rfl, hp, (by decide), ?_⟩
    refine ⟨_, rfl, p, dx, _, rfl, upd_same, (by show 1 < 1000; decide), ?_⟩
    rw [upd_upd]
    exact q
theorem sc_Reader_has_more : FnScope ["self"] ["self"] (defScope s_Reader_has_more) := ⟨by kernel_rfl, by kernel_rfl, by kernel_rfl, by decide +kernel, by kernel_rfl, by decide +kernel, by decide +kernel⟩
theorem ok_Reader_has_more {P : Program} {w : World} {K : PySem.W.Frag} {mg : Str → Option Value} {base : Heap} {A : Ad} (T : Tx K mg A) : FnOk P w K mg base CX0 1 A.f_Reader_has_more A.d_Reader_has_more ["self"] (sp_Reader_has_more K A) := by
  have nd := sc_Reader_has_more.nd
  refine T.F_Reader_has_more.fn.ok sc_Reader_has_more (fun vs H Q E h => ?_) (fun cdv A' outer s H vs Q E hr h => ?_)
  · obtain ⟨p, a, n, l, rfl, _⟩ := h
    rfl
  · obtain ⟨p, a, n, l, rfl, hl, ⟨dx, hp⟩, q⟩ := h
    refine ⟨_, (pss_one (ps_ret (pe_cmpR op_ltP (pe_fldA (pv 0) (by rfl) T.C_Reader.cl (T.C_Reader.na _ (.tail _ (.head _)))) (pe_callB call_len_seq (gl_of (by kernel_rfl)) T.N_len PySem.boot_len (pa_cons (pe_fldA (pv 0) (by rfl) T.C_Reader.cl (T.C_Reader.na _ (.head _))) pa_nil)) (nomark _)))), ?_⟩
    refine ⟨_, rfl, p, dx, _, _, rfl, hp, rd_at _ _, _, rfl, p, dx, _, _, rfl, hp, rd_numbers _ _, a, iv l, rfl, .inl hl.sq, n, (iv l).length, rfl, rfl, ?_⟩
    have e : (iv l).length = l.length := List.length_map _
    rw [e]
    exact q _ (Same.refl _)
theorem sc_Reader_number : FnScope ["self", "number"] ["self"] (defScope s_Reader_number) := ⟨by kernel_rfl, by kernel_rfl, by kernel_rfl, by decide +kernel, by kernel_rfl, by decide +kernel, by decide +kernel⟩
theorem ok_Reader_number {P : Program} {w : World} {K : PySem.W.Frag} {mg : Str → Option Value} {base : Heap} {A : Ad} (T : Tx K mg A) : FnOk P w K mg base CX0 1 A.f_Reader_number A.d_Reader_number ["self"] (sp_Reader_number K A) := by
  have nd := sc_Reader_number.nd
  refine T.F_Reader_number.fn.ok sc_Reader_number (fun vs H Q E h => ?_) (fun cdv A' outer s H vs Q E hr h => ?_)
  · obtain ⟨p, a, n, l, z, rfl, _⟩ := h
    rfl
  · obtain ⟨p, a, n, l, z, rfl, hl, ⟨dx, hp⟩, hz, q⟩ := h
    refine ⟨_, (pss_cons (ps_set (i := 1) nd (by rfl) (Or.inl (by rfl)) (pe_ix ix_list (pe_fldA (pv 0) (by rfl) T.C_Reader.cl (T.C_Reader.na _ (.head _))) (pe_fldA (pv 0) (by rfl) T.C_Reader.cl (T.C_Reader.na _ (.tail _ (.head _)))) (fun _ _ => rfl)))
      (pss_cons (ps_fldA (pv 0) (pe_op op_addP (pe_fldA (pv 0) (by rfl) T.C_Reader.cl (T.C_Reader.na _ (.tail _ (.head _)))) (pe_nat 1)) (by rfl) T.C_Reader.cl (T.C_Reader.na _ (.tail _ (.head _))))
      (pss_one (ps_ret (pv 1))))), ?_⟩
    walk_at "tw nf"
    have hz' : (iv l)[n]? = some (.int z) := by simp [iv, hz]
    refine ⟨_, rfl, p, dx, _, _, rfl, hp, rd_numbers _ _, _, rfl, p, dx, _, _, rfl, hp, rd_at _ _, a, iv l, _, _, rfl, rfl, hl.sq, atI_nat hz', ?_⟩
    walk_at "tw nf"
    refine ⟨_, rfl, p, dx, _, _, rfl, hp, rd_at _ _, _, _, rfl, rfl, _, rfl, p, dx, _, rfl, hp, (by show 2 < 1000; decide), ?_⟩
    rw [rd_put]
    exact ⟨_, rfl, q _ (but_upd fun _ _ _ h => h) ⟨dx, upd_same⟩⟩
theorem sc_Reader_row : FnScope ["self", "size", "row"] ["self"] (defScope s_Reader_row) := ⟨by kernel_rfl, by kernel_rfl, by kernel_rfl, by decide +kernel, by kernel_rfl, by decide +kernel, by decide +kernel⟩
theorem ok_Reader_row {P : Program} {w : World} {K : PySem.W.Frag} {mg : Str → Option Value} {base : Heap} {A : Ad} (T : Tx K mg A) : FnOk P w K mg base CX0 2 A.f_Reader_row A.d_Reader_row ["self"] (sp_Reader_row K A) := by
  have G_Reader_number := ok_Reader_number (P := P) (w := w) (base := base) T
  have nd := sc_Reader_row.nd
  refine T.F_Reader_row.fn.ok sc_Reader_row (fun vs H Q E h => ?_) (fun cdv A' outer s H vs Q E hr h => ?_)
  · obtain ⟨p, a, n, k, l, rfl, _⟩ := h
    rfl
  · obtain ⟨p, a, n, k, l, rfl, hl, R, hz, q⟩ := h
    obtain ⟨dx, hp⟩ := id R
    refine ⟨_, (pss_cons (ps_set (i := 1) nd (by rfl) (Or.inl (by rfl)) (pe_meth0 (pv 0) T.C_Reader.cl T.F_Reader_number.mt G_Reader_number (hr.mono (by decide)) T.F_Reader_number.bd .nil pass0))
      (pss_cons (ps_set (i := 2) nd (by rfl) (Or.inl (by rfl)) (pe_slice sl_list (pe_fldA (pv 0) (by rfl) T.C_Reader.cl (T.C_Reader.na _ (.head _))) (po_some (pe_fldA (pv 0) (by rfl) T.C_Reader.cl (T.C_Reader.na _ (.tail _ (.head _))))) (po_some (pe_op op_addP (pe_fldA (pv 0) (by rfl) T.C_Reader.cl (T.C_Reader.na _ (.tail _ (.head _)))) (pv 1)))))
      (pss_cons (ps_fldA (pv 0) (pe_op op_addP (pe_fldA (pv 0) (by rfl) T.C_Reader.cl (T.C_Reader.na _ (.tail _ (.head _)))) (pv 1)) (by rfl) T.C_Reader.cl (T.C_Reader.na _ (.tail _ (.head _))))
      (pss_one (ps_ret (pv 2)))))), ?_⟩
    walk_at "tw nf"
    refine ⟨_, rfl, p, dx, _, rfl, hp, (by kernel_rfl), p, a, n, l, (k : Int), rfl, hl, R, hz, fun H1 u1 R1 => ?_⟩
    walk_at "tw nf"
    obtain ⟨dx1, hp1⟩ := id R1
    refine ⟨_, rfl, p, dx1, _, _, rfl, hp1, rd_numbers _ _, _, rfl, p, dx1, _, _, rfl, hp1, rd_at _ _, _, rfl, _, rfl, p, dx1, _, _, rfl, hp1, rd_at _ _, _, rfl, _, _, rfl, rfl, _, rfl, a, iv l, rfl, (hl.but u1 R.ins).sq, fun r hr1 => ?_⟩
    walk_at "tw nf"
    have hc : cutV (iv l) (some ((n + 1 : Nat) : Int)) (some ((n + 1 + k : Nat) : Int)) = iv ((l.drop (n + 1)).take k) := by
      rw [cutV_nn, show n + 1 + k - (n + 1) = k by omega]
      simp [iv, List.map_drop, List.map_take]
    rw [hc]
    have s2 : Same H1 (upd H1 r (.lst (iv ((l.drop (n + 1)).take k)))) := same_lay hr1
    have hr2 : upd H1 r (.lst (iv ((l.drop (n + 1)).take k))) r = some (.lst (iv ((l.drop (n + 1)).take k))) := upd_same
    generalize upd H1 r (.lst (iv ((l.drop (n + 1)).take k))) = H2 at s2 hr2
    have hp2 := s2 _ _ hp1
    refine ⟨_, rfl, p, dx1, _, _, rfl, hp2, rd_at _ _, _, rfl, _, _, rfl, rfl, _, rfl, p, dx1, _, rfl, hp2, (by show 2 < 1000; decide), ?_⟩
    rw [rd_put]
    have u3 : SameBut p H2 (upd H2 p (.ins A.c_Reader dx1 (rdF (.ref a) (.int ((n + 1 + k : Nat) : Int))))) := but_upd fun _ _ _ h => h
    refine ⟨_, rfl, q r _ ?_ (u1.trans ((s2.but p).trans u3)) ⟨dx1, upd_same⟩ (u3.lst ⟨_, _, _, hp2⟩ hr2)⟩
    exact u1.free ⟨_, hp⟩ hr1 ⟨_, hp1⟩
def LIs (H : Hp) : List Addr → List (List Int) → Prop
  | [], [] => True
  | a :: ps, x :: rs => H a = some (.lst (iv x)) ∧ LIs H ps rs
  | _, _ => False
theorem LIs.keep {H H' : Hp} : ∀ {ps : List Addr} {rs : List (List Int)}, LIs H ps rs → (∀ b ∈ ps, ∀ l, H b = some (.lst l) → H' b = some (.lst l)) → LIs H' ps rs
  | [], [], _, _ => trivial
  | a :: ps, x :: rs, h, k => ⟨k a (.head _) _ h.1, h.2.keep fun b hb => k b (.tail _ hb)⟩
theorem LIs.snoc {H : Hp} {a : Addr} {x : List Int} (ha : H a = some (.lst (iv x))) : ∀ {ps : List Addr} {rs : List (List Int)}, LIs H ps rs → LIs H (ps ++ [a]) (rs ++ [x])
  | [], [], _ => ⟨ha, trivial⟩
  | a :: ps, y :: rs, h => ⟨h.1, h.2.snoc ha⟩
def enc (x : List Int) : List Int := (x.length : Int) :: x
def sp_parts_of (K : PySem.W.Frag) (A : Ad) : Sp := fun vs H Q _ => ∃ (p a : Addr) (n c : Nat) (l ns rest : List Int) (rs : List (List Int)), vs = [.ref p, .int (c : Int)] ∧ Cal K H a l ∧ RdAt A H p a n ∧ l.drop n = ns ++ (rs.flatMap enc ++ rest) ∧ L_SHAPES[c]? = some [ns.length, rs.length] ∧ ns.length ≤ 10 ∧ rs.length ≤ 10 ∧
  ∀ r ps H', SameBut p H H' → RdAt A H' p a (n + ns.length + (rs.flatMap enc).length) → H' r = some (.lst (iv ns ++ ps.map V.ref)) → LIs H' ps rs → Q (.ref r) H'
theorem drop_at {l m : List Int} {n : Nat} {z : Int} (h : l.drop n = z :: m) : l[n]? = some z ∧ l.drop (n + 1) = m := by
  constructor
  · have := congrArg (fun x => x[0]?) h
    simpa using this
  · rw [← List.drop_drop, h]; rfl
theorem drop_app {l x m : List Int} {n : Nat} (h : l.drop n = x ++ m) : l.drop (n + x.length) = m := by
  rw [← List.drop_drop, h]; simp
theorem sc_parts_of : FnScope ["reader", "call", "shape", "parts", "turn"] ["reader", "call"] (defScope s_parts_of) := ⟨by kernel_rfl, by kernel_rfl, by kernel_rfl, by decide +kernel, by kernel_rfl, by decide +kernel, by decide +kernel⟩
theorem ok_parts_of {P : Program} {w : World} {K : PySem.W.Frag} {mg : Str → Option Value} {base : Heap} {A : Ad} (T : Tx K mg A) : FnOk P w K mg base CX0 3 A.f_parts_of A.d_parts_of ["reader", "call"] (sp_parts_of K A) := by
  have G_Reader_number := ok_Reader_number (P := P) (w := w) (base := base) T
  have G_Reader_row := ok_Reader_row (P := P) (w := w) (base := base) T
  have nd := sc_parts_of.nd
  refine T.F_parts_of.fn.ok sc_parts_of (fun vs H Q E h => ?_) (fun cdv A' outer s H vs Q E hr h => ?_)
  · obtain ⟨p, a, n, c, l, ns, rest, rs, rfl, _⟩ := h
    rfl
  · obtain ⟨p, a, n, c, l, ns, rest, rs, rfl, hl, R, hd, hsh, hn1, hn2, q⟩ := h
    refine ⟨_, (pss_cons (ps_set (i := 2) nd (by rfl) (Or.inl (by rfl)) (pe_ix ix_tup (pe_const (gl_of (by kernel_rfl)) T.M_SHAPES) (pv 1) (fun _ _ => rfl)))
      (pss_cons (ps_set (i := 3) nd (by rfl) (Or.inl (by rfl)) (pe_lstN pa_nil))
      (pss_cons (ps_for PassesOwn.never rfl (pi_range1 (gl_of (by kernel_rfl)) T.N_range (pa_cons (pe_ix ix_tupN (pv 2) (pe_nat 0) (fun _ _ => rfl)) pa_nil)) (pg_name (i := 4) nd (by rfl) (Or.inl (by rfl))) (pss_one (ps_expr (pe_bm PySem.F.plainAttrs_list PySem.F.slot_list_append PySem.F.type_list_append mt_append (pv 3) (pa_cons (pe_meth0 (pv 0) T.C_Reader.cl T.F_Reader_number.mt G_Reader_number (hr.mono (by decide)) T.F_Reader_number.bd .nil pass0) pa_nil)))))
      (pss_cons (ps_for PassesOwn.never rfl (pi_range1 (gl_of (by kernel_rfl)) T.N_range (pa_cons (pe_ix ix_tupN (pv 2) (pe_nat 1) (fun _ _ => rfl)) pa_nil)) (pg_name (i := 4) nd (by rfl) (Or.inl (by rfl))) (pss_one (ps_expr (pe_bm PySem.F.plainAttrs_list PySem.F.slot_list_append PySem.F.type_list_append mt_append (pv 3) (pa_cons (pe_meth0 (pv 0) T.C_Reader.cl T.F_Reader_row.mt G_Reader_row (hr.mono (by decide)) T.F_Reader_row.bd .nil pass0) pa_nil)))))
      (pss_one (ps_ret (pv 3))))))), ?_⟩
    walk_at "tw nf"
    obtain ⟨ts, hts, tlen, tq⟩ := T.Q_SHAPES
    obtain ⟨ta, hta⟩ := at_len tlen.symm hsh
    have htq := tq c ta _ hta hsh
    refine ⟨_, rfl, A.t_SHAPES, ts.map V.ref, (c : Int), .ref ta, rfl, rfl, hts _, atI_nat (by simp [hta]), ?_⟩
    walk_at "tw nf"
    refine ⟨[], rfl, (by decide), fun b H1 hb s1 lb => ?_⟩
    walk_at "tw nf"
    have nb : H b = none := hb
    have R1 := R.same s1
    have nbp : b ≠ p := ne_ins R1.ins lb
    refine ⟨_, rfl, ta, [ns.length, rs.length], 0, ns.length, rfl, rfl, htq _, rfl, (ns.length : Int), rfl, (by omega), (by omega), ?_⟩
    rw [show ((ns.length : Int)).toNat = ns.length from Int.toNat_natCast _]
    refine for_rangeP (lo := 0) (n := ns.length) (fun i σ H' => ∃ v4, σ = [some (.ref p), some (.int c), some (.ref ta), some (.ref b), v4] ∧ SameBut p H H' ∧ RdAt A H' p a (n + i) ∧ H' b = some (.lst (iv (ns.take i))))
      ⟨none, rfl, s1.but p, R1, lb⟩ ?_ ?_
    · rintro i σ H2 hi ⟨v4, rfl, u2, R2, lb2⟩
      walk_at "tw nf"
      obtain ⟨dx2, hp2⟩ := id R2
      have hz : l[n + i]? = some ns[i] := by
        rw [← List.getElem?_drop, hd, List.getElem?_append_left hi, List.getElem?_eq_getElem hi]
      refine ⟨_, rfl, .inl ⟨rfl, _, SqL.of lb2⟩, _, rfl, p, dx2, _, rfl, hp2, (by kernel_rfl), p, a, n + i, l, ns[i], rfl, hl.but u2 R.ins, R2, hz, fun H3 u3 R3 => ?_⟩
      have lb3 := u3.lst R2.ins lb2
      refine ⟨b, _, _, rfl, rfl, lb3, (by rw [iv, List.length_map, List.length_take, PySem.sizeLine_eq]; omega), ?_⟩
      obtain ⟨dx3, hp3⟩ := id R3
      refine ⟨_, rfl, fun x o hx ho => ?_, ⟨dx3, by rw [upd_ne nbp.symm]; exact hp3⟩, ?_⟩
      · rw [upd_ne (ne_of_none ho nb)]
        exact u3 _ _ hx (u2 _ _ hx ho)
      · rw [upd_same, List.take_succ_eq_append_getElem hi]
        unfold iv
        rw [List.map_append]
        rfl
    · rintro σ H2 ⟨v4, rfl, u2, R2, lb2⟩
      rw [List.take_length] at lb2
      walk_at "tw nf"
      refine ⟨_, rfl, ta, [ns.length, rs.length], 1, rs.length, rfl, rfl, htq _, rfl, (rs.length : Int), rfl, (by omega), (by omega), ?_⟩
      rw [show ((rs.length : Int)).toNat = rs.length from Int.toNat_natCast _]
      refine for_rangeP (lo := 0) (n := rs.length) (fun j σ H' => ∃ v4 ps, σ = [some (.ref p), some (.int c), some (.ref ta), some (.ref b), v4] ∧ SameBut p H H' ∧ RdAt A H' p a (n + ns.length + ((rs.take j).flatMap enc).length) ∧ H' b = some (.lst (iv ns ++ ps.map V.ref)) ∧ LIs H' ps (rs.take j) ∧ (∀ x ∈ ps, x ≠ b) ∧ ps.length = j)
        ⟨v4, [], rfl, u2, R2, (by simpa using lb2), trivial, (fun x h => by simp at h), rfl⟩ ?_ ?_
      · rintro j σ H3 hj ⟨v5, ps, rfl, u3, R3, lb3, ls3, nps, plen⟩
        walk_at "tw nf"
        obtain ⟨dx3, hp3⟩ := id R3
        have ers : rs = rs.take j ++ rs[j] :: rs.drop (j + 1) := by
          rw [List.getElem_cons_drop, List.take_append_drop]
        have hd2 : l.drop (n + ns.length + ((rs.take j).flatMap enc).length) = (rs[j].length : Int) :: (rs[j] ++ ((rs.drop (j + 1)).flatMap enc ++ rest)) := by
          refine drop_app (x := (rs.take j).flatMap enc) ?_
          rw [drop_app hd]
          have : rs.flatMap enc = (rs.take j).flatMap enc ++ (enc rs[j] ++ (rs.drop (j + 1)).flatMap enc) := by
            refine (congrArg (fun x => x.flatMap enc) ers).trans ?_
            show List.flatMap enc (_ ++ _ :: _) = _
            rw [List.flatMap_append, List.flatMap_cons]
          rw [this]
          simp [enc]
        obtain ⟨hz, hd3⟩ := drop_at hd2
        refine ⟨_, rfl, .inl ⟨rfl, _, SqL.of lb3⟩, _, rfl, p, dx3, _, rfl, hp3, (by kernel_rfl), p, a, _, rs[j].length, l, rfl, hl.but u3 R.ins, R3, hz, fun r H4 hr4 u4 R4 lr4 => ?_⟩
        rw [hd3, List.take_left] at lr4
        have lb4 := u4.lst R3.ins lb3
        have nrb : r ≠ b := fun e => by
          subst e
          rw [lb3] at hr4; cases hr4
        refine ⟨b, _, _, rfl, rfl, lb4, (by rw [List.length_append, iv, List.length_map, List.length_map, PySem.sizeLine_eq]; omega), ?_⟩
        obtain ⟨dx4, hp4⟩ := id R4
        have etk : rs.take (j + 1) = rs.take j ++ [rs[j]] := List.take_succ_eq_append_getElem hj
        refine ⟨_, ps ++ [r], rfl, fun x o hx ho => ?_, ⟨dx4, ?_⟩, ?_, ?_, ?_, ?_⟩
        · rw [upd_ne (ne_of_none ho nb)]
          exact u4 _ _ hx (u3 _ _ hx ho)
        · rw [upd_ne nbp.symm, hp4, etk]
          have e : n + ns.length + ((rs.take j).flatMap enc).length + 1 + rs[j].length = n + ns.length + ((rs.take j ++ [rs[j]]).flatMap enc).length := by
            rw [List.flatMap_append, List.length_append]
            have e2 : (List.flatMap enc [rs[j]]).length = rs[j].length + 1 := by
              rw [List.flatMap_cons, List.flatMap_nil, List.append_nil]; rfl
            rw [e2]; omega
          rw [e]
        · rw [upd_same]; simp
        · rw [etk]
          refine LIs.snoc (by rw [upd_ne nrb]; exact lr4) (ls3.keep fun x hx y hy => ?_)
          rw [upd_ne (nps x hx)]
          exact u4.lst R3.ins hy
        · intro x hx
          rcases List.mem_append.mp hx with h | h
          · exact nps x h
          · rw [List.mem_singleton.mp h]; exact nrb
        · rw [List.length_append, plen]; rfl
      · rintro σ H3 ⟨v5, ps, rfl, u3, R3, lb3, ls3, nps, plen⟩
        rw [List.take_length] at R3 ls3
        exact ⟨_, rfl, q b ps H3 u3 R3 lb3 ls3⟩
end Tw
namespace Tw
open PySem L2
open Sd16 (number little u32)
theorem gen_first (t : Sd16.End) (rf : Option (Nat × List Nat × List Nat × List Nat × List Nat)) (R : Nat → List Nat → List Nat → List Nat → Option (List Nat × Sd16.Session)) :
    Sd16.step.match_5 (fun _ => Option Sd16.End × Sd16.Ans) rf (fun theirs p stamp c h => Sd16.step.match_3 (fun _ => Option Sd16.End × Sd16.Ans) (R theirs p c h) (fun x => (some { t with stamp := some stamp, fresh := some x.2 }, (1, x.1))) fun _ => (some t, (0, []))) (fun _ => (some t, (0, []))) = (some (tkF t rf R).1, (tkF t rf R).2) := by
  cases rf with
  | none => rfl
  | some x =>
    obtain ⟨theirs, p, stamp, c, h⟩ := x
    cases e : R theirs p c h with
    | none =>
      rw [tkF_bad e]
      show Sd16.step.match_3 (fun _ => Option Sd16.End × Sd16.Ans) (R theirs p c h) _ _ = _
      rw [e]
    | some y =>
      rw [tkF_good e]
      show Sd16.step.match_3 (fun _ => Option Sd16.End × Sd16.Ans) (R theirs p c h) _ _ = _
      rw [e]
theorem in_firstR {t : Sd16.End} {m e : List Nat} {mine : Nat} (c1 : m.head? = some 1) (R : Nat → List Nat → List Nat → List Nat → Option (List Nat × Sd16.Session)) (hR : ∀ theirs p c h, R theirs p c h = Sd16.reply t theirs p c h e mine) : Sd16.step (some t) (.in_ (some m) e mine) = (some (tkF t (Sd16.readFirst t m) R).1, (tkF t (Sd16.readFirst t m) R).2) := by
  have g := gen_first t (Sd16.readFirst t m) R
  simp only [hR] at g
  rw [Sd16.step, if_pos c1]
  exact g
theorem in_first {t : Sd16.End} {m e : List Nat} {mine : Nat} (c1 : m.head? = some 1) : Sd16.step (some t) (.in_ (some m) e mine) = (some (tkF t (Sd16.readFirst t m) fun theirs p c h => Sd16.reply t theirs p c h e mine).1, (tkF t (Sd16.readFirst t m) fun theirs p c h => Sd16.reply t theirs p c h e mine).2) :=
  in_firstR c1 (fun theirs p c h => Sd16.reply t theirs p c h e mine) fun _ _ _ _ => rfl
theorem in_second {t : Sd16.End} {m e : List Nat} {mine : Nat} (c1 : ¬ m.head? = some 1) (c2 : m.head? = some 2) : Sd16.step (some t) (.in_ (some m) e mine) = (some (tkS t (t.waiting.bind fun w => Sd16.readSecond t w m)).1, (tkS t (t.waiting.bind fun w => Sd16.readSecond t w m)).2) := by
  rw [Sd16.step, if_neg c1, if_pos c2]
  cases h : (t.waiting.bind fun w => Sd16.readSecond t w m) with
  | none => rfl
  | some s => rfl
theorem in_packet {t : Sd16.End} {m e : List Nat} {mine : Nat} (c1 : ¬ m.head? = some 1) (c2 : ¬ m.head? = some 2) : Sd16.step (some t) (.in_ (some m) e mine) = (some (tkP t (readO t.fresh m) (readO t.current m) (readO t.former m)).1, (tkP t (readO t.fresh m) (readO t.current m) (readO t.former m)).2) := by
  rw [Sd16.step, if_neg c1, if_neg c2, readO, readO, readO]
  cases h : (t.fresh.bind fun s => Option.map (fun x => (s, x)) (Sd16.readPacket s m)) with
  | some x =>
    obtain ⟨s, n, b⟩ := x
    rfl
  | none =>
    cases h2 : (t.current.bind fun s => Option.map (fun x => (s, x)) (Sd16.readPacket s m)) with
    | some x =>
      obtain ⟨s, n, b⟩ := x
      rfl
    | none =>
      cases h3 : (t.former.bind fun s => Option.map (fun x => (s, x)) (Sd16.readPacket s m)) with
      | some x =>
        obtain ⟨s, n, b⟩ := x
        rfl
      | none => rfl
theorem step_in (o : Option Sd16.End) (m e : List Nat) (mine : Nat) : Sd16.step o (.in_ (some m) e mine) = stTake o m e mine := by
  cases o with
  | none => rfl
  | some t =>
    have e1 : stTake (some t) m e mine = (some (tkAll t m e mine).1, (tkAll t m e mine).2) := by rw [stTake]
    rw [e1, tkAll]
    by_cases c1 : m.head? = some 1
    · rw [if_pos c1]
      exact in_first c1
    · rw [if_neg c1]
      by_cases c2 : m.head? = some 2
      · rw [if_pos c2]
        exact in_second c1 c2
      · rw [if_neg c2]
        exact in_packet c1 c2
theorem step_open (o : Option Sd16.End) (s p k : List Nat) : Sd16.step o (.open_ s p k) = stOpen s p k := by
  unfold stOpen Sd16.step
  rfl
theorem step_begin (o : Option Sd16.End) (e : List Nat) (mine : Nat) (stamp : List Nat) : Sd16.step o (.begin_ e mine stamp) = stBegin o e mine stamp := by
  cases o with
  | none => rfl
  | some t =>
    unfold stBegin Sd16.step
    rfl
theorem step_send (o : Option Sd16.End) (d : List Nat) : Sd16.step o (.send (some d)) = stSend o d := by
  cases o with
  | none => rfl
  | some t =>
    show _ = (some (tkSend t d).1, (tkSend t d).2)
    unfold tkSend Sd16.step
    cases hc : t.current with
    | none => simp only [hc]
    | some s =>
      simp only [hc]
      by_cases hu : 2 ^ 60 ≤ s.next
      · simp only [if_pos hu]
      · simp only [if_neg hu]
        rfl
end Tw
namespace Tw
open PySem L2
open Sd16 (number little u32)
theorem nat8 {z : Int} (h : Sd16Neutral.natural z 8 = true) : 0 ≤ z ∧ z < 256 := by
  unfold Sd16Neutral.natural at h
  rw [Bool.and_eq_true] at h
  have h1 := of_decide_eq_true h.1
  have h2 := of_decide_eq_true h.2
  exact ⟨h1, by simpa using h2⟩
theorem row_bytes : ∀ {x : List Int}, x.all (fun (z : Int) => Sd16Neutral.natural z 8) = true → iv x = bs (Sd16Neutral.nats x) ∧ Byt (Sd16Neutral.nats x) ∧ (Sd16Neutral.nats x).length = x.length
  | [], _ => ⟨rfl, Byt.nil, rfl⟩
  | z :: x, h => by
    rw [List.all_cons, Bool.and_eq_true] at h
    obtain ⟨h1, h2⟩ := nat8 h.1
    obtain ⟨r1, r2, r3⟩ := row_bytes h.2
    refine ⟨?_, Byt.cons (by show z.toNat < 256; omega) r2, by show (Sd16Neutral.nats x).length + 1 = x.length + 1; rw [r3]⟩
    show V.int z :: iv x = V.int ((z.toNat : Nat) : Int) :: bs (Sd16Neutral.nats x)
    rw [r1, Int.toNat_of_nonneg h1]
theorem long32 {x : List Int} {n : Nat} (h : Sd16Neutral.long x n n n = true) : x.length = n := by
  have := of_decide_eq_true h
  rw [if_pos ⟨Int.le_refl _, Int.le_refl _⟩] at this
  omega
theorem longM {x : List Int} {n : Nat} (h : Sd16Neutral.long x (x.length : Int) 0 n = true) : x.length ≤ n := by
  have := of_decide_eq_true h
  split at this <;> omega
theorem row32 {x : List Int} (h : (x.all (fun (z : Int) => Sd16Neutral.natural z 8) && Sd16Neutral.long x 32 32 32) = true) : iv x = bs (Sd16Neutral.nats x) ∧ B32 (Sd16Neutral.nats x) := by
  rw [Bool.and_eq_true] at h
  obtain ⟨r1, r2, r3⟩ := row_bytes h.1
  have := long32 (n := 32) h.2
  exact ⟨r1, by omega, r2⟩
theorem nat32 {z : Int} (h : Sd16Neutral.natural z 32 = true) : 0 ≤ z ∧ z < 2 ^ 32 := by
  unfold Sd16Neutral.natural at h
  rw [Bool.and_eq_true] at h
  exact ⟨of_decide_eq_true h.1, by simpa using of_decide_eq_true h.2⟩
theorem sh_cases {c n k : Nat} (h : L_SHAPES[c]? = some [n, k]) : (c = 0 ∧ n = 0 ∧ k = 3) ∨ (c = 1 ∧ n = 1 ∧ k = 2) ∨ (c = 2 ∧ n = 1 ∧ k = 2) ∨ (c = 3 ∧ n = 0 ∧ k = 1) := by
  match c, h with
  | 0, h => injection h with h; injection h with h1 h; injection h with h2; exact .inl ⟨rfl, h1.symm, h2.symm⟩
  | 1, h => injection h with h; injection h with h1 h; injection h with h2; exact .inr (.inl ⟨rfl, h1.symm, h2.symm⟩)
  | 2, h => injection h with h; injection h with h1 h; injection h with h2; exact .inr (.inr (.inl ⟨rfl, h1.symm, h2.symm⟩))
  | 3, h => injection h with h; injection h with h1 h; injection h with h2; exact .inr (.inr (.inr ⟨rfl, h1.symm, h2.symm⟩))
  | c + 4, h => cases h
theorem nstep {o : Option Sd16.End} {c : List (List Int)} {q : Sd16.Call} (h : Sd16Neutral.callOf c = some q) : Sd16Neutral.step o c = ((Sd16.step o q).1, (Sd16.step o q).2.1 :: Sd16Neutral.ints (Sd16.step o q).2.2) := by
  unfold Sd16Neutral.step
  rw [h]
theorem iv_ints (l : List Nat) : iv (Sd16Neutral.ints l) = bs l := by
  unfold iv Sd16Neutral.ints
  rw [List.map_map]
  rfl
def RetI (A : Ad) (H : Hp) (p : Addr) (k : Nat) (x : Option Sd16.End × List Int) (Q : VK) : Prop := ∀ r H', Fr 2 H H' → LineAt A H' p k x.1 → H' r = some (.lst (iv x.2)) → Q (.ref r) H'
def sp_answer_of (K : PySem.W.Frag) (A : Ad) : Sp := fun vs H Q _ => ∃ (p b : Addr) (k c : Nat) (o : Option Sd16.End) (ns : List Int) (rs : List (List Int)) (ps : List Addr), vs = [.ref p, .int (c : Int), .ref b] ∧ LineAt A H p k o ∧ H b = some (.lst (iv ns ++ ps.map V.ref)) ∧ LIs H ps rs ∧ L_SHAPES[c]? = some [ns.length, rs.length] ∧ k < 1000 ∧
  Sd16Neutral.asked1 (PySd16.whole (((c : Int) :: ns) :: rs)) = true ∧ RetI A H p (k + 1) (Sd16Neutral.step o (PySd16.whole (((c : Int) :: ns) :: rs))) Q
theorem RetI.ofN {A : Ad} {H : Hp} {p : Addr} {k k' : Nat} {o : Option Sd16.End} {c : List (List Int)} {q : Sd16.Call} {x : Option Sd16.End × Int × List Nat} {Q : VK} (h : Sd16Neutral.callOf c = some q) (e : Sd16.step o q = x) (hk : k' ≤ k) (r : RetI A H p k (Sd16Neutral.step o c) Q) : RetN A H p k' x Q := by
  rw [nstep h, e] at r
  exact fun a H' f L l => r a H' f (L.mono hk) (by rw [l, ← iv_ints]; rfl)
theorem and2 {a b : Bool} (h : (a && b) = true) : a = true ∧ b = true := by simpa using h
theorem len1 {α : Type} {l : List α} (h : l.length = 1) : ∃ a, l = [a] := by
  match l, h with
  | [a], _ => exact ⟨a, rfl⟩
theorem len2 {α : Type} {l : List α} (h : l.length = 2) : ∃ a b, l = [a, b] := by
  match l, h with
  | [a, b], _ => exact ⟨a, b, rfl⟩
theorem len3 {α : Type} {l : List α} (h : l.length = 3) : ∃ a b c, l = [a, b, c] := by
  match l, h with
  | [a, b, c], _ => exact ⟨a, b, c, rfl⟩
theorem lis1 {H : Hp} {ps : List Addr} {x : List Int} (h : LIs H ps [x]) : ∃ a, ps = [a] ∧ H a = some (.lst (iv x)) := by
  match ps, h with
  | [a], ⟨l, _⟩ => exact ⟨a, rfl, l⟩
theorem lis2 {H : Hp} {ps : List Addr} {x y : List Int} (h : LIs H ps [x, y]) : ∃ a b, ps = [a, b] ∧ H a = some (.lst (iv x)) ∧ H b = some (.lst (iv y)) := by
  match ps, h with
  | [a, b], ⟨l, m, _⟩ => exact ⟨a, b, rfl, l, m⟩
theorem lis3 {H : Hp} {ps : List Addr} {x y z : List Int} (h : LIs H ps [x, y, z]) : ∃ a b c, ps = [a, b, c] ∧ H a = some (.lst (iv x)) ∧ H b = some (.lst (iv y)) ∧ H c = some (.lst (iv z)) := by
  match ps, h with
  | [a, b, c], ⟨l, m, n, _⟩ => exact ⟨a, b, c, rfl, l, m, n⟩
theorem sc_answer_of : FnScope ["line", "call", "parts"] ["line", "call", "parts"] (defScope s_answer_of) := ⟨by kernel_rfl, by kernel_rfl, by kernel_rfl, by decide +kernel, by kernel_rfl, by decide +kernel, by decide +kernel⟩
theorem ok_answer_of {P : Program} {w : World} {K : PySem.W.Frag} {mg : Str → Option Value} {base : Heap} {A : Ad} (T : Tx K mg A) : FnOk P w K mg base CX0 14 A.f_answer_of A.d_answer_of ["line", "call", "parts"] (sp_answer_of K A) := by
  have G_Line_set_up := ok_Line_set_up (P := P) (w := w) (base := base) T
  have G_Line_begin := ok_Line_begin (P := P) (w := w) (base := base) T
  have G_Line_take := ok_Line_take (P := P) (w := w) (base := base) T
  have G_Line_send := ok_Line_send (P := P) (w := w) (base := base) T
  have nd := sc_answer_of.nd
  refine T.F_answer_of.fn.ok sc_answer_of (fun vs H Q E h => ?_) (fun cdv A' outer s H vs Q E hr h => ?_)
  · obtain ⟨p, b, k, c, o, ns, rs, ps, rfl, _⟩ := h
    rfl
  · obtain ⟨p, b, k, c, o, ns, rs, ps, rfl, L, hb, ls, hsh, hk, ha, q⟩ := h
    refine ⟨_, (pss_cons (ps_if (pt_cmpR op_eqP (pv 1) (pe_const (gl_of (by kernel_rfl)) T.M_SET_UP) (nomark _)) (pss_one (ps_ret (pe_meth (pv 0) T.C_Line.cl T.F_Line_set_up.mt G_Line_set_up (hr.mono (by decide)) T.F_Line_set_up.bd .nil pass0 (pa_cons (pe_ix ix_list (pv 2) (pe_nat 0) (fun _ _ => rfl)) (pa_cons (pe_ix ix_list (pv 2) (pe_nat 1) (fun _ _ => rfl)) (pa_cons (pe_ix ix_list (pv 2) (pe_nat 2) (fun _ _ => rfl)) pa_nil)))))) pss_nil)
      (pss_cons (ps_if (pt_cmpR op_eqP (pv 1) (pe_const (gl_of (by kernel_rfl)) T.M_BEGIN) (nomark _)) (pss_one (ps_ret (pe_meth (pv 0) T.C_Line.cl T.F_Line_begin.mt G_Line_begin (hr.mono (by decide)) T.F_Line_begin.bd .nil pass0 (pa_cons (pe_ix ix_list (pv 2) (pe_nat 0) (fun _ _ => rfl)) (pa_cons (pe_ix ix_list (pv 2) (pe_nat 1) (fun _ _ => rfl)) (pa_cons (pe_ix ix_list (pv 2) (pe_nat 2) (fun _ _ => rfl)) pa_nil)))))) pss_nil)
      (pss_cons (ps_if (pt_cmpR op_eqP (pv 1) (pe_const (gl_of (by kernel_rfl)) T.M_TAKE) (nomark _)) (pss_one (ps_ret (pe_meth (pv 0) T.C_Line.cl T.F_Line_take.mt G_Line_take (hr.mono (by decide)) T.F_Line_take.bd .nil pass0 (pa_cons (pe_ix ix_list (pv 2) (pe_nat 0) (fun _ _ => rfl)) (pa_cons (pe_ix ix_list (pv 2) (pe_nat 1) (fun _ _ => rfl)) (pa_cons (pe_ix ix_list (pv 2) (pe_nat 2) (fun _ _ => rfl)) pa_nil)))))) pss_nil)
      (pss_one (ps_ret (pe_meth (pv 0) T.C_Line.cl T.F_Line_send.mt G_Line_send (hr.mono (by decide)) T.F_Line_send.bd .nil pass0 (pa_cons (pe_ix ix_list (pv 2) (pe_nat 0) (fun _ _ => rfl)) pa_nil))))))), ?_⟩
    walk_at "tw nf"
    obtain ⟨dx, v, hp⟩ := L.ob
    refine ⟨_, rfl, _, _, rfl, rfl, _, rfl, ?_⟩
    rcases sh_cases hsh with ⟨rfl, h1, h2⟩ | ⟨rfl, h1, h2⟩ | ⟨rfl, h1, h2⟩ | ⟨rfl, h1, h2⟩
    ·
      obtain rfl := List.eq_nil_of_length_eq_zero h1
      obtain ⟨r0, r1, r2, rfl⟩ := len3 h2
      obtain ⟨p0, p1, p2, rfl, l0, l1, l2⟩ := lis3 ls
      have ew : PySd16.whole ((((0 : Nat) : Int) :: []) :: [r0, r1, r2]) = [[0], r0, r1, r2] := rfl
      rw [ew] at q ha
      have ha' : ((r0.all (fun (z : Int) => Sd16Neutral.natural z 8) && Sd16Neutral.long r0 32 32 32) && ((r1.all (fun (z : Int) => Sd16Neutral.natural z 8) && Sd16Neutral.long r1 32 32 32) && ((r2.all (fun (z : Int) => Sd16Neutral.natural z 8) && Sd16Neutral.long r2 32 32 32)))) = true := ha
      obtain ⟨g0, g1⟩ := and2 ha'
      obtain ⟨g1, g2⟩ := and2 g1
      obtain ⟨e0, b0⟩ := row32 g0
      obtain ⟨e1, b1⟩ := row32 g1
      obtain ⟨e2, b2⟩ := row32 g2
      rw [e0] at l0
      rw [e1] at l1
      rw [e2] at l2
      have q' := RetI.ofN (c := [[0], r0, r1, r2]) (q := .open_ (Sd16Neutral.nats r0) (Sd16Neutral.nats r1) (Sd16Neutral.nats r2)) rfl (step_open o _ _ _) (Nat.zero_le _) q
      clear q
      generalize Sd16Neutral.nats r0 = x0 at l0 b0 q'
      generalize Sd16Neutral.nats r1 = x1 at l1 b1 q'
      generalize Sd16Neutral.nats r2 = x2 at l2 b2 q'
      refine iteT ?_
      exact ⟨_, rfl, p, dx, _, rfl, hp, (by kernel_rfl), _, rfl, b, _, 0, _, rfl, rfl, SqL.of hb, rfl, _, rfl, b, _, 1, _, rfl, rfl, SqL.of hb, rfl, _, rfl, b, _, 2, _, rfl, rfl, SqL.of hb, rfl, p, p0, p1, p2, dx, v, _, _, _, rfl, hp, l0, l1, l2, b0, b1, b2, q'⟩
    ·
      obtain ⟨x0, rfl⟩ := len1 h1
      obtain ⟨r0, r1, rfl⟩ := len2 h2
      obtain ⟨p0, p1, rfl, l0, l1⟩ := lis2 ls
      have ew : PySd16.whole ((((1 : Nat) : Int) :: [x0]) :: [r0, r1]) = [[1, x0], r0, r1] := rfl
      rw [ew] at q ha
      have ha' : (Sd16Neutral.natural x0 32 && ((r0.all (fun (z : Int) => Sd16Neutral.natural z 8) && Sd16Neutral.long r0 32 32 32) && ((r1.all (fun (z : Int) => Sd16Neutral.natural z 8) && Sd16Neutral.long r1 12 12 12)))) = true := ha
      obtain ⟨g0, g1⟩ := and2 ha'
      obtain ⟨g1, g2⟩ := and2 g1
      obtain ⟨z0, z1⟩ := nat32 g0
      obtain ⟨mine, rfl⟩ := Int.eq_ofNat_of_zero_le z0
      obtain ⟨e0, b0⟩ := row32 g1
      obtain ⟨g2, g3⟩ := and2 g2
      obtain ⟨e1, b1, n1⟩ := row_bytes g2
      have n2 := long32 (n := 12) g3
      rw [e0] at l0
      rw [e1] at l1
      have q' := RetI.ofN (c := [[1, (mine : Int)], r0, r1]) (q := .begin_ (Sd16Neutral.nats r0) ((mine : Int).toNat) (Sd16Neutral.nats r1)) rfl (step_begin o _ _ _) (Nat.le_succ _) q
      rw [Int.toNat_natCast] at q'
      clear q
      generalize Sd16Neutral.nats r0 = x0 at l0 b0 q'
      generalize Sd16Neutral.nats r1 = x1 at l1 b1 n1 q'
      refine iteF ⟨_, rfl, _, _, rfl, rfl, _, rfl, iteT ?_⟩
      exact ⟨_, rfl, p, dx, _, rfl, hp, (by kernel_rfl), _, rfl, b, _, 0, _, rfl, rfl, SqL.of hb, rfl, _, rfl, b, _, 1, _, rfl, rfl, SqL.of hb, rfl, _, rfl, b, _, 2, _, rfl, rfl, SqL.of hb, rfl, p, p0, p1, k, mine, o, _, _, rfl, L, l0, l1, b0, b1, by omega, by omega, q'⟩
    ·
      obtain ⟨x0, rfl⟩ := len1 h1
      obtain ⟨r0, r1, rfl⟩ := len2 h2
      obtain ⟨p0, p1, rfl, l0, l1⟩ := lis2 ls
      have ew : PySd16.whole ((((2 : Nat) : Int) :: [x0]) :: [r0, r1]) = [[2, (r1.length : Int), x0], r0, r1] := rfl
      rw [ew] at q ha
      have ha' : (Sd16Neutral.whole32 (r1.length : Int) && (Sd16Neutral.natural x0 32 && ((r0.all (fun (z : Int) => Sd16Neutral.natural z 8) && Sd16Neutral.long r0 32 32 32) && ((r1.all (fun (z : Int) => Sd16Neutral.natural z 8) && Sd16Neutral.long r1 (r1.length : Int) 0 65568))))) = true := ha
      obtain ⟨_, g0⟩ := and2 ha'
      obtain ⟨g0, g1⟩ := and2 g0
      obtain ⟨g1, g2⟩ := and2 g1
      obtain ⟨z0, z1⟩ := nat32 g0
      obtain ⟨mine, rfl⟩ := Int.eq_ofNat_of_zero_le z0
      obtain ⟨e0, b0⟩ := row32 g1
      obtain ⟨g2, g3⟩ := and2 g2
      obtain ⟨e1, b1, n1⟩ := row_bytes g2
      have n2 := longM (n := 65568) g3
      rw [e0] at l0
      rw [e1] at l1
      have hc : Sd16Neutral.callOf [[2, (r1.length : Int), (mine : Int)], r0, r1] = some (.in_ (some (Sd16Neutral.nats r1)) (Sd16Neutral.nats r0) mine) := by
        show some (Sd16.Call.in_ (Sd16Neutral.rowOf (r1.length : Int) r1 65568) (Sd16Neutral.nats r0) ((mine : Int).toNat)) = _
        rw [Sd16Neutral.rowOf, if_pos ⟨by omega, by omega⟩, Int.toNat_natCast]
      have q' := RetI.ofN hc (step_in o _ _ _) (Nat.le_refl _) q
      clear q
      generalize Sd16Neutral.nats r0 = x0 at l0 b0 q'
      generalize Sd16Neutral.nats r1 = x1 at l1 b1 n1 q'
      refine iteF ⟨_, rfl, _, _, rfl, rfl, _, rfl, iteF ⟨_, rfl, _, _, rfl, rfl, _, rfl, iteT ?_⟩⟩
      exact ⟨_, rfl, p, dx, _, rfl, hp, (by kernel_rfl), _, rfl, b, _, 0, _, rfl, rfl, SqL.of hb, rfl, _, rfl, b, _, 1, _, rfl, rfl, SqL.of hb, rfl, _, rfl, b, _, 2, _, rfl, rfl, SqL.of hb, rfl, p, p0, p1, k, mine, o, _, _, rfl, L, l0, l1, b0, b1, by omega, by omega, hk, q'⟩
    ·
      obtain rfl := List.eq_nil_of_length_eq_zero h1
      obtain ⟨r0, rfl⟩ := len1 h2
      obtain ⟨p0, rfl, l0⟩ := lis1 ls
      have ew : PySd16.whole ((((3 : Nat) : Int) :: []) :: [r0]) = [[3, (r0.length : Int)], r0] := rfl
      rw [ew] at q ha
      have ha' : (Sd16Neutral.whole32 (r0.length : Int) && ((r0.all (fun (z : Int) => Sd16Neutral.natural z 8) && Sd16Neutral.long r0 (r0.length : Int) 0 65536))) = true := ha
      obtain ⟨_, g0⟩ := and2 ha'
      obtain ⟨g2, g3⟩ := and2 g0
      obtain ⟨e1, b1, n1⟩ := row_bytes g2
      have n2 := longM (n := 65536) g3
      rw [e1] at l0
      have hc : Sd16Neutral.callOf [[3, (r0.length : Int)], r0] = some (.send (some (Sd16Neutral.nats r0))) := by
        show some (Sd16.Call.send (Sd16Neutral.rowOf (r0.length : Int) r0 65536)) = _
        rw [Sd16Neutral.rowOf, if_pos ⟨by omega, by omega⟩]
      have q' := RetI.ofN hc (step_send o _) (Nat.le_succ _) q
      clear q
      generalize Sd16Neutral.nats r0 = x0 at l0 b1 n1 q'
      refine iteF ⟨_, rfl, _, _, rfl, rfl, _, rfl, iteF ⟨_, rfl, _, _, rfl, rfl, _, rfl, iteF ?_⟩⟩
      exact ⟨_, rfl, p, dx, _, rfl, hp, (by kernel_rfl), _, rfl, b, _, 0, _, rfl, rfl, SqL.of hb, rfl, p, p0, k, o, _, rfl, L, l0, b1, by omega, q'⟩
end Tw
namespace Tw
open PySem L2
open Sd16 (number little u32)
theorem row_enc {r x s : List Int} (h : PyFlat.row r = some (x, s)) : r = enc x ++ s := by
  cases r with
  | nil => cases h
  | cons n r =>
    unfold PyFlat.row at h
    dsimp only at h
    split at h
    · rename_i c
      injection h with h
      injection h with h1 h2
      subst h1 h2
      show n :: r = ((r.take n.toNat).length : Int) :: (r.take n.toNat ++ r.drop n.toNat)
      rw [List.take_append_drop, List.length_take, Nat.min_eq_left c.2, Int.toNat_of_nonneg c.1]
    · cases h
theorem rows_enc : ∀ {k : Nat} {r t : List Int} {xs : List (List Int)}, PyFlat.rows k r = some (xs, t) → xs.length = k ∧ r = xs.flatMap enc ++ t
  | 0, r, t, xs, h => by
    unfold PyFlat.rows at h
    injection h with h
    injection h with h1 h2
    subst h1 h2
    exact ⟨rfl, rfl⟩
  | k + 1, r, t, xs, h => by
    unfold PyFlat.rows at h
    cases h1 : PyFlat.row r with
    | none => rw [h1] at h; cases h
    | some p =>
      obtain ⟨x, s⟩ := p
      rw [h1] at h
      dsimp only at h
      cases h2 : PyFlat.rows k s with
      | none => rw [h2] at h; cases h
      | some q =>
        obtain ⟨ys, u⟩ := q
        rw [h2] at h
        injection h with h
        injection h with e1 e2
        subst e1 e2
        obtain ⟨l1, l2⟩ := rows_enc h2
        refine ⟨by rw [List.length_cons, l1], ?_⟩
        rw [row_enc h1, l2, List.flatMap_cons, List.append_assoc]
theorem shape_enc {p : Int} {n k : Nat} (h : PySd16.shape p = some (n, k)) : ∃ c : Nat, p = (c : Int) ∧ L_SHAPES[c]? = some [n, k] ∧ n ≤ 10 ∧ k ≤ 10 := by
  unfold PySd16.shape at h
  split at h
  · rename_i e; injection h with h; injection h with h1 h2; subst h1 h2 e; exact ⟨0, rfl, rfl, by decide, by decide⟩
  · split at h
    · rename_i e; injection h with h; injection h with h1 h2; subst h1 h2 e; exact ⟨1, rfl, rfl, by decide, by decide⟩
    · split at h
      · rename_i e; injection h with h; injection h with h1 h2; subst h1 h2 e; exact ⟨2, rfl, rfl, by decide, by decide⟩
      · split at h
        · rename_i e; injection h with h; injection h with h1 h2; subst h1 h2 e; exact ⟨3, rfl, rfl, by decide, by decide⟩
        · cases h
theorem call_enc {p : Int} {r t : List Int} {c : List (List Int)} (h : PyFlat.call PySd16.shape (p :: r) = some (c, t)) : ∃ (cn : Nat) (ns : List Int) (rs : List (List Int)), p = (cn : Int) ∧ c = ((cn : Int) :: ns) :: rs ∧ r = ns ++ (rs.flatMap enc ++ t) ∧ L_SHAPES[cn]? = some [ns.length, rs.length] ∧ ns.length ≤ 10 ∧ rs.length ≤ 10 := by
  unfold PyFlat.call at h
  dsimp only at h
  cases h1 : PySd16.shape p with
  | none => rw [h1] at h; cases h
  | some q =>
    obtain ⟨n, k⟩ := q
    rw [h1] at h
    dsimp only at h
    split at h
    · cases h
    · rename_i hn
      cases h2 : PyFlat.rows k (r.drop n) with
      | none => rw [h2] at h; cases h
      | some q =>
        obtain ⟨xs, u⟩ := q
        rw [h2] at h
        injection h with h
        injection h with e1 e2
        subst e1 e2
        obtain ⟨cn, rfl, s1, s2, s3⟩ := shape_enc h1
        obtain ⟨l1, l2⟩ := rows_enc h2
        have ln : (r.take n).length = n := by rw [List.length_take]; omega
        exact ⟨cn, r.take n, xs, rfl, rfl, by rw [← l2, List.take_append_drop], by rw [ln, l1]; exact s1, by rw [ln]; exact s2, by rw [l1]; exact s3⟩
theorem calls_cons {f : Nat} {rem : List Int} {cs : List (List (List Int))} (h : PyFlat.calls PySd16.shape f rem = some cs) : (rem = [] ∧ cs = []) ∨ ∃ (cn : Nat) (ns : List Int) (rs : List (List Int)) (t : List Int) (f' : Nat) (cs' : List (List (List Int))), rem = (cn : Int) :: (ns ++ (rs.flatMap enc ++ t)) ∧ L_SHAPES[cn]? = some [ns.length, rs.length] ∧ ns.length ≤ 10 ∧ rs.length ≤ 10 ∧ cs = (((cn : Int) :: ns) :: rs) :: cs' ∧ PyFlat.calls PySd16.shape f' t = some cs' := by
  cases rem with
  | nil =>
    left
    cases f <;> (unfold PyFlat.calls at h; injection h with h; exact ⟨rfl, h.symm⟩)
  | cons p r =>
    right
    cases f with
    | zero => unfold PyFlat.calls at h; cases h
    | succ f =>
      unfold PyFlat.calls at h
      cases h1 : PyFlat.call PySd16.shape (p :: r) with
      | none => rw [h1] at h; cases h
      | some q =>
        obtain ⟨c, t⟩ := q
        rw [h1] at h
        dsimp only at h
        cases h2 : PyFlat.calls PySd16.shape f t with
        | none => rw [h2] at h; cases h
        | some cs' =>
          rw [h2] at h
          injection h with h
          subst h
          obtain ⟨cn, ns, rs, rfl, rfl, e, s1, s2, s3⟩ := call_enc h1
          exact ⟨cn, ns, rs, t, f, cs', by rw [e], s1, s2, s3, rfl, h2⟩
theorem mix_rd {A : Ad} {H : Hp} {p q C dx : Addr} {c h : List Nat} {a b : V} (m : MixAt A H p c h) (hq : H q = some (.ins C dx (rdF a b))) : p ≠ q := by
  obtain ⟨dy, ca, ha, e, _⟩ := m
  refine ne_of e hq fun z => ?_
  injection z with _ _ z
  injection z with z _
  injection z with z _
  exact absurd z (by decide)
theorem LineAt.rd {A : Ad} {H H' : Hp} {p q C dx : Addr} {a b : V} {k : Nat} {o : Option Sd16.End} (x : LineAt A H p k o) (u : SameBut q H H') (hq : H q = some (.ins C dx (rdF a b))) : LineAt A H' p k o := by
  have iq : InsAt H q := ⟨_, _, _, hq⟩
  cases o with
  | none =>
    obtain ⟨dx', e⟩ := x
    exact ⟨dx', u _ _ (ne_len e hq (by show 1 ≠ 2; decide)) e⟩
  | some t =>
    obtain ⟨dx', e, h, dy, i, st, hs, fr, cu, fo, pf, gf, pc, gc, po, go, hp, F⟩ := x
    refine ⟨dx', e, u _ _ (ne_len h hq (by show 1 ≠ 2; decide)) h, dy, i, st, hs, fr, cu, fo, pf, gf, pc, gc, po, go, u _ _ (ne_len hp hq (by show 6 ≠ 2; decide)) hp, ?_, ?_, ?_, F.xf.but u hq (by show 2 ≤ 6; decide), F.xc.but u hq (by show 2 ≤ 6; decide), F.xo.but u hq (by show 2 ≤ 6; decide), F.s1, F.s2, F.s3⟩
    · obtain ⟨di, a1, a2, a3, a4, a5, ei, _⟩ := F.xi.ob
      exact F.xi.but u iq (ne_len ei hq (by show 5 ≠ 2; decide))
    · have xs := F.xs
      cases hst : t.stamp with
      | none => rw [hst] at xs; exact xs
      | some l =>
        rw [hst] at xs
        obtain ⟨a, e1, e2, e3⟩ := xs
        exact ⟨a, e1, u.lst iq e2, e3⟩
    · have xh := F.xh
      cases hst : t.waiting with
      | none => rw [hst] at xh; exact xh
      | some w =>
        rw [hst] at xh
        obtain ⟨h', mx, e1, dh, ma, e2, e3, e4, e5⟩ := xh
        exact ⟨h', mx, e1, dh, ma, u _ _ (ne_len e2 hq (by show 3 ≠ 2; decide)) e2, u.lst iq e3, e4.but u iq (mix_rd e4 hq), e5⟩
end Tw
namespace Tw
open PySem L2
open Sd16 (number little u32)
def sp_answers (K : PySem.W.Frag) (A : Ad) : Sp := fun vs H Q _ => ∃ (ca : Addr) (l fin : List Int) (f : Nat) (cs : List (List (List Int))), vs = [.ref ca] ∧ Cal K H ca l ∧ PyFlat.calls PySd16.shape f l = some cs ∧ (∀ c ∈ cs, Sd16Neutral.asked1 (PySd16.whole c) = true) ∧ cs.length ≤ 300 ∧
  PyFlat.told (PyFlat.played Sd16Neutral.step none (cs.map PySd16.whole)) = fin ∧ fin.length ≤ 2000000 ∧ ∀ r H', H' r = some (.lst (iv fin)) → Q (.ref r) H'
def Jn (K : PySem.W.Frag) (A : Ad) (ca rd ln res : Addr) (l fin : List Int) (m : Nat) (σ : St) (H : Hp) : Prop := ∃ (n f k : Nat) (cs : List (List (List Int))) (o : Option Sd16.End) (done : List Int) (v4 v5 : Option V),
  σ = [some (.ref ca), some (.ref rd), some (.ref ln), some (.ref res), v4, v5] ∧ Cal K (er H res) ca l ∧ RdAt A H rd ca n ∧ PyFlat.calls PySd16.shape f (l.drop n) = some cs ∧ (∀ c ∈ cs, Sd16Neutral.asked1 (PySd16.whole c) = true) ∧ LineAt A (er H res) ln k o ∧ H res = some (.lst (iv done)) ∧
  done ++ PyFlat.told (PyFlat.played Sd16Neutral.step o (cs.map PySd16.whole)) = fin ∧ k + cs.length ≤ 300 ∧ cs.length = m
theorem er_but {p a : Addr} {H H' : Hp} (u : SameBut p H H') : SameBut p (er H a) (er H' a) := fun b o n h => by
  obtain ⟨h1, h2⟩ := er_some h
  rw [er_ne h1]; exact u _ _ n h2
theorem Cal.er_up {K : PySem.W.Frag} {H : Hp} {a b : Addr} {l : List Int} (x : Cal K (er H b) a l) : Cal K H a l := x.imp (fun ⟨o, e⟩ => ⟨o, (er_some e).2⟩) id
theorem drop_len {l : List Int} {n : Nat} (h : l.drop n = []) : ¬ n < l.length := fun c => by
  have := congrArg List.length h
  rw [List.length_drop, List.length_nil] at this
  omega
theorem told_cons (a : List Int) (r : List (List Int)) : PyFlat.told (a :: r) = ((a.length : Int) :: a) ++ PyFlat.told r := by
  unfold PyFlat.told
  rw [List.flatMap_cons]
theorem er_sm {a : Addr} {H H' : Hp} (u : Same H H') : Same (er H a) (er H' a) := fun b o h => by
  obtain ⟨h1, h2⟩ := er_some h
  rw [er_ne h1]; exact u _ _ h2
theorem iv_app (a b : List Int) : iv (a ++ b) = iv a ++ iv b := List.map_append
theorem iv_len (a : List Int) : (iv a).length = a.length := List.length_map _
theorem sc_answers : FnScope ["calls", "reader", "line", "result", "call", "answer"] ["calls"] (defScope s_answers) := ⟨by kernel_rfl, by kernel_rfl, by kernel_rfl, by decide +kernel, by kernel_rfl, by decide +kernel, by decide +kernel⟩
theorem ok_answers {P : Program} {w : World} {K : PySem.W.Frag} {mg : Str → Option Value} {base : Heap} {A : Ad} (T : Tx K mg A) : FnOk P w K mg base CX0 15 A.f_answers A.d_answers ["calls"] (sp_answers K A) := by
  have G_Reader___init__ := ok_Reader___init__ (P := P) (w := w) (base := base) T
  have G_Line___init__ := ok_Line___init__ (P := P) (w := w) (base := base) T
  have G_Reader_has_more := ok_Reader_has_more (P := P) (w := w) (base := base) T
  have G_Reader_number := ok_Reader_number (P := P) (w := w) (base := base) T
  have G_answer_of := ok_answer_of (P := P) (w := w) (base := base) T
  have G_parts_of := ok_parts_of (P := P) (w := w) (base := base) T
  have nd := sc_answers.nd
  refine T.F_answers.fn.ok sc_answers (fun vs H Q E h => ?_) (fun cdv A' outer s H vs Q E hr h => ?_)
  · obtain ⟨ca, l, fin, f, cs, rfl, _⟩ := h
    rfl
  · obtain ⟨ca, l, fin, f, cs, rfl, hl, hcs, has, hc3, hfin, hfl, q⟩ := h
    refine ⟨_, (pss_cons (ps_set (i := 1) nd (by rfl) (Or.inl (by rfl)) (pe_make T.C_Reader.mkc G_Reader___init__ (hr.mono (by decide)) (gl_of (by kernel_rfl)) T.C_Reader.mg T.F_Reader___init__.bd .nil pass0 (pa_cons (pv 0) pa_nil)))
      (pss_cons (ps_set (i := 2) nd (by rfl) (Or.inl (by rfl)) (pe_make0 T.C_Line.mkc G_Line___init__ (hr.mono (by decide)) (gl_of (by kernel_rfl)) T.C_Line.mg T.F_Line___init__.bd .nil pass0))
      (pss_cons (ps_set (i := 3) nd (by rfl) (Or.inl (by rfl)) (pe_lst pa_nil))
      (pss_cons (ps_while PassesOwn.never (pt_val (pe_meth0 (pv 1) T.C_Reader.cl T.F_Reader_has_more.mt G_Reader_has_more (hr.mono (by decide)) T.F_Reader_has_more.bd .nil pass0) (by intro _; rfl)) (pss_cons (ps_set (i := 4) nd (by rfl) (Or.inl (by rfl)) (pe_meth0 (pv 1) T.C_Reader.cl T.F_Reader_number.mt G_Reader_number (hr.mono (by decide)) T.F_Reader_number.bd .nil pass0))
      (pss_cons (ps_set (i := 5) nd (by rfl) (Or.inl (by rfl)) (pe_aside (pe_call G_answer_of (hr.mono (by decide)) (gl_of (by kernel_rfl)) T.F_answer_of.mg T.F_answer_of.kp T.F_answer_of.bd .nil pass0 (pa_cons (pv 2) (pa_cons (pv 4) (pa_cons (pe_call G_parts_of (hr.mono (by decide)) (gl_of (by kernel_rfl)) T.F_parts_of.mg T.F_parts_of.kp T.F_parts_of.bd .nil pass0 (pa_cons (pv 1) (pa_cons (pv 4) pa_nil))) pa_nil))))))
      (pss_cons (ps_expr (pe_bm PySem.F.plainAttrs_list PySem.F.slot_list_append PySem.F.type_list_append mt_append (pv 3) (pa_cons (pe_callB call_len_seq (gl_of (by kernel_rfl)) T.N_len PySem.boot_len (pa_cons (pv 5) pa_nil)) pa_nil)))
      (pss_one (ps_expr (pe_bm PySem.F.plainAttrs_list PySem.F.slot_list_extend PySem.F.type_list_extend mt_extend (pv 3) (pa_cons (pv 5) pa_nil))))))))
      (pss_one (ps_ret (pv 3))))))), ?_⟩
    walk_at "tw nf"
    refine ⟨_, rfl, ?_⟩
    intro rd dr hrd hdr hne
    have s1 := made_same (C := A.c_Reader) (fs := rdF (.ref ca) (.int ((0 : Nat) : Int))) hrd hdr
    refine ⟨rd, dr, _, rfl, upd_same, rfl, ?_⟩
    rw [upd_upd]
    walk_at "tw nf"
    have e1 : upd (upd H dr (.own rd)) rd (.ins A.c_Reader dr (rdF (.ref ca) (.int ((0 : Nat) : Int)))) rd = some (.ins A.c_Reader dr (rdF (.ref ca) (.int ((0 : Nat) : Int)))) := upd_same
    generalize upd (upd H dr (.own rd)) rd (.ins A.c_Reader dr (rdF (.ref ca) (.int ((0 : Nat) : Int)))) = H1 at e1 s1
    intro ln dl hln hdl hne2
    refine ⟨ln, dl, rfl, upd_same, rfl, ?_⟩
    rw [upd_upd]
    walk_at "tw nf"
    have s2 := made_same (C := A.c_Line) (fs := liF .non) hln hdl
    have e2 : upd (upd H1 dl (.own ln)) ln (.ins A.c_Line dl (liF .non)) ln = some (.ins A.c_Line dl (liF .non)) := upd_same
    generalize upd (upd H1 dl (.own ln)) ln (.ins A.c_Line dl (liF .non)) = H2 at s2 e2
    have e12 := s2 _ _ e1
    refine ⟨Nat.zero_le _, fun res hres => ?_⟩
    walk_at "tw nf"
    have nlr : ln ≠ res := ne_of_none e2 hres
    have nrr : rd ≠ res := ne_of_none e12 hres
    refine ⟨Jn K A ca rd ln res l fin, ⟨cs.length, 0, f, 0, cs, none, [], none, none, rfl, ?_, ⟨dr, ?_⟩, hcs, has, ?_, upd_same, hfin, ?_, rfl⟩, ?_⟩
    · rw [er_upd hres]; exact (hl.same s1).same s2
    · rw [upd_ne nrr]; exact e12
    · rw [er_upd hres]; exact ⟨dl, e2⟩
    · omega
    · rintro m σ H3 ⟨n, f, k, cs, o, done, v4, v5, rfl, hl3, R3, hcs, has, L3, hr3, hfin, hk, hm⟩
      walk_at "tw nf"
      obtain ⟨dr3, er3⟩ := id R3
      refine ⟨_, rfl, rd, dr3, _, rfl, er3, (by kernel_rfl), rd, ca, n, l, rfl, hl3.er_up, R3, fun H4 s4 => ⟨_, rfl, ?_⟩⟩
      rcases calls_cons hcs with ⟨d0, rfl⟩ | ⟨cn, ns, rs, t, f', cs', hd, hsh, hn1, hn2, rfl, hcs'⟩
      · rw [decide_eq_false (drop_len d0)]
        refine iteF ?_
        have e : fin = done := by rw [← hfin]; show done ++ [] = done; rw [List.append_nil]
        exact ⟨_, rfl, q res H4 (by rw [e]; exact s4 _ _ hr3)⟩
      · obtain ⟨hz, hd1⟩ := drop_at hd
        have hlt : n < l.length := (List.getElem?_eq_some_iff.mp hz).1
        rw [decide_eq_true hlt]
        refine iteT ⟨fun σ' H' => ∃ m', m' < m ∧ Jn K A ca rd ln res l fin m' σ' H', fun σ' H' h => h, ?_⟩
        have R4 := R3.same s4
        have hl4 := hl3.same (er_sm s4)
        obtain ⟨dr4, er4⟩ := id R4
        have L4 := L3.same (er_sm s4)
        have hr4 := s4 _ _ hr3
        rw [List.map_cons, PyFlat.played, told_cons] at hfin
        have hw := has _ (.head _)
        obtain ⟨x, hx⟩ : ∃ x, x = Sd16Neutral.step o (PySd16.whole (((cn : Int) :: ns) :: rs)) := ⟨_, rfl⟩
        rw [← hx] at hfin
        refine ⟨_, rfl, rd, dr4, _, rfl, er4, (by kernel_rfl), rd, ca, n, l, (cn : Int), rfl, hl4.er_up, R4, hz, fun H5 u5 R5 => ?_⟩
        walk_at "tw nf"
        have er4' : er H4 res rd = some (.ins A.c_Reader dr4 (rdF (.ref ca) (.int (n : Int)))) := by rw [er_ne nrr]; exact er4
        have hl5 := hl4.but (er_but u5) ⟨_, _, _, er4'⟩
        have L5 := L4.rd (er_but u5) (show er H4 res rd = some (.ins A.c_Reader dr4 (rdF (.ref ca) (.int (n : Int)))) by rw [er_ne nrr]; exact er4)
        have hr5 := u5.lst R4.ins hr4
        obtain ⟨dr5, er5⟩ := id R5
        have er5' : er H5 res rd = some (.ins A.c_Reader dr5 (rdF (.ref ca) (.int ((n + 1 : Nat) : Int)))) := by rw [er_ne nrr]; exact er5
        refine ⟨res, iv done, hr5, _, rfl, _, rfl, _, rfl, _, rfl, rd, ca, n + 1, cn, l, ns, t, rs, rfl, hl5, ⟨dr5, er5'⟩, hd1, hsh, hn1, hn2, fun b ps H6 u6 R6 lb ls => ?_⟩
        have L6 := L5.rd u6 er5'
        have hl6 := hl5.but u6 ⟨_, _, _, er5'⟩
        refine ⟨ln, b, k, cn, o, ns, rs, ps, rfl, L6, lb, ls, hsh, (by have := hk; rw [List.length_cons] at this; omega), hw, fun r H7 f7 L7 lr7 hn7 => ?_⟩
        rw [← hx] at L7 lr7
        walk_at "tw nf"
        have nres : r ≠ res := ne_of_none lr7 hn7
        have hlen := congrArg List.length hfin
        simp only [List.length_append, List.length_cons] at hlen
        refine ⟨_, rfl, .inl ⟨rfl, _, SqL.of upd_same⟩, _, rfl, r, iv x.2, rfl, .inl (SqL.of (by rw [upd_ne nres]; exact lr7)), res, _, _, rfl, rfl, upd_same, (by rw [iv_len, PySem.sizeLine_eq]; omega), ?_⟩
        rw [upd_upd]
        refine ⟨_, rfl, .inl ⟨rfl, _, SqL.of upd_same⟩, _, rfl, res, r, _, _, rfl, rfl, upd_same, (by rw [upd_ne nres]; exact lr7), (by rw [List.length_append, iv_len, iv_len, PySem.sizeLine_eq]; show _ + 1 + _ ≤ _; omega), ?_⟩
        rw [upd_upd]
        obtain ⟨dr6, er6⟩ := R6
        have er7 := f7 _ _ (.inr ⟨_, _, _, rfl, (by show 2 ≤ 2; decide), by show 2 ≤ 5; decide⟩) er6
        refine ⟨cs'.length, (by rw [← hm, List.length_cons]; omega), n + 1 + ns.length + (rs.flatMap enc).length, f', k + 1, cs', x.1, done ++ ((x.2.length : Int) :: x.2), _, _, rfl, (by rw [er_upd hn7]; exact hl6.fr f7), ⟨dr6, by rw [upd_ne nrr]; exact er7⟩, ?_, fun c hc => has c (.tail _ hc), ?_, ?_, ?_, ?_, rfl⟩
        · rw [drop_app (drop_app hd1)]; exact hcs'
        · rw [er_upd hn7]; exact L7
        · rw [upd_same, iv_app, iv_len, List.append_assoc]; rfl
        · rw [List.append_assoc]; exact hfin
        · have := hk
          rw [List.length_cons] at this
          omega
end Tw
namespace L2
open PySem PySem.Spec PyProof.Rows
theorem spec_call {fin : List Int} {P : Program} {w : World} {K : PySem.W.Frag} {mg mb : Str → Option Value} {CX : CXT} {k : Nat} {fa a : Addr} {fd : FuncData} {x : Str} {sp : Sp} {s₁ : Shared} {vs : List Value} {ns : List Int}
    (KX : K.In s₁.heap) (hns : s₁.heap.Ns mainGlobals mg) (hb : s₁.heap.Ns builtinsNs mb) (hbb : ∀ x : Str, x ≠ "__name__" → mb x = bootBuiltins x) (hlim : s₁.heap.NoLimit) (hg : s₁.gens = #[])
    (ha : s₁.heap.get? a = some { cls := .type "list", data := .seq vs.toArray }) (hi : IntsAre vs ns) (hl : ns.length ≤ sizeLine) (hr : Room k callerA)
    (F : ∀ base : Heap, K.In base → base.Ns mainGlobals mg → FnOk P w K mg base CX k fa fd [x] sp) (hbind : ∀ (s : Shared) (u : Value), BindsTo s fd ⟨[u], []⟩ [(x, u)])
    (hsp : ∀ H : Hp, Only H → SqL K H a (ns.map V.int) → sp [.ref a] H (fun v H' => ∃ r, v = .ref r ∧ H' r = some (.lst (fin.map V.int))) fun _ _ _ => False)
    (hCX : ∀ H e s', CX [] H s₁ (fun _ _ _ => False) e s' → False) :
    codeAny (model P w) callerA (.call (.ref fa) ⟨[.ref a], []⟩) (fun res s' => ∃ r its n, res = .ok (.ret (.ref r)) ∧ s'.heap.get? r = some { cls := .type "list", data := .seq its.toArray n } ∧ Vals (fin.map V.int) its ∧ OldK s₁.heap s'.heap ∧ s'.os = s₁.os ∧ AllBare s'.gens) s₁ := by
  have rv := vals_ints hi
  have lenV := hi.length
  have core : ∀ H : Hp, Only H → SqL K H a (ns.map V.int) → HOk P w H s₁.heap → (∀ b, H b ≠ none → b = a) → (H a ≠ none → K.lookup a = none) →
      codeAny (model P w) callerA (.call (.ref fa) ⟨[.ref a], []⟩) (fun res s' => ∃ r its n, res = .ok (.ret (.ref r)) ∧ s'.heap.get? r = some { cls := .type "list", data := .seq its.toArray n } ∧ Vals (fin.map V.int) its ∧ OldK s₁.heap s'.heap ∧ s'.os = s₁.os ∧ AllBare s'.gens) s₁ := by
    intro H hO hS hok hA hK
    have base_of : ∀ {b : Addr} {o : Obj}, s₁.heap.get? b = some o → H b = none → (hidT s₁.heap H).get? b = some o := fun e n => hidT_get e n
    have noA : ∀ {b : Addr} {o : Obj} {es : Array DictEntry} {ep : Nat}, s₁.heap.get? b = some o → o.data = .dict es ep → H b = none := fun {b o es ep} e d => by
      cases q : H b with
      | none => rfl
      | some u =>
        have e' : b = a := hA b (by rw [q]; simp)
        subst e'
        rw [ha] at e; cases e
        have d' : Data.seq vs.toArray _ = Data.dict es ep := d
        cases d'
    have nsK : ∀ {b : Addr} {m : Str → Option Value}, s₁.heap.Ns b m → (hidT s₁.heap H).Ns b m := fun {b m} ⟨o, es, ep, e, d, r⟩ => ⟨o, es, ep, base_of e (noA e d), d, r⟩
    have hKb : K.In (hidT s₁.heap H) := fun b o e => base_of (KX b o e) (by
      cases q : H b with
      | none => rfl
      | some u =>
        have e' : b = a := hA b (by rw [q]; simp)
        subst e'
        rw [hK (by rw [q]; simp)] at e; cases e)
    have hM : Mod K mg (hidT s₁.heap H) := ⟨hKb, nsK hns, ⟨mb, nsK hb, hbb⟩, let ⟨mc, h1, h2⟩ := hlim; ⟨mc, nsK h1, h2⟩⟩
    have e0 : Env0 P w K mg (hidT s₁.heap H) callerA [] s₁ H := ⟨rfl, hM, fun b o e => of_hidT e, Nat.le_of_eq (hidT_size _ _), trivial, fun b hb => absurd (show b ∈ ([] : List Addr) from hb) (by simp), hok, .of_eq hg⟩
    refine codeAny_mono ((F _ hKb (nsK hns)).run callerA [] s₁ H ⟨[.ref a], []⟩ [.ref a] [.ref a] _ _ hr e0 (hbind s₁ (.ref a)) (.cons rfl .nil) (hsp H hO hS)) fun r s' h => ?_
    cases r with
    | error e => exact (hCX H e s' h).elim
    | ok fl =>
      cases fl with
      | next => exact False.elim h
      | brk => exact False.elim h
      | cont => exact False.elim h
      | ret u =>
        obtain ⟨v, H', os, bare, un, hok', r', q⟩ := h
        obtain ⟨rr, rfl, hrr⟩ := q
        obtain rfl : u = Value.ref rr := r'
        obtain ⟨_, its, nn, rv', hg'⟩ := hok' rr _ hrr
        refine ⟨rr, its, nn, rfl, hg', rv', OldK.of_keep fun b o e => ?_, os, bare⟩
        cases q : H b with
        | none => exact un.keep b o e q (by intro z; exact absurd (show b ∈ ([] : List Addr) from z) (by simp)) (by simp)
        | some u =>
          rcases hO b with z | ⟨ob, xs, z⟩
          · rw [q] at z; cases z
          · have z2 := un.frzs b ob _ z
            obtain ⟨e1, _⟩ := hok b _ z
            obtain ⟨e2, _⟩ := hok' b _ z2
            rw [e] at e1; cases e1
            exact e2
  cases hk : K.lookup a with
  | some o =>
    have e := KX a o hk
    rw [ha] at e
    cases e
    refine core (fun _ => none) (fun _ => .inl rfl) (.inr ⟨_, vs.toArray, _, hk, rfl, rfl, rfl, by rw [List.size_toArray, lenV]; exact hl, by simpa using rv⟩) (fun b u z => by have z' : (none : Option HO) = some u := z; cases z') (fun b z => absurd rfl z) fun z => absurd rfl z
  | none =>
    refine core (fun b => if b = a then some (.frz { cls := .type "list", data := .seq vs.toArray } (.lst (ns.map V.int))) else none) (fun b => ?_) (.inl (.inr ⟨{ cls := .type "list", data := .seq vs.toArray }, if_pos rfl⟩)) (fun b u z => ?_) (fun b z => ?_) fun _ => hk
    · by_cases hb : b = a
      · exact .inr ⟨_, _, if_pos hb⟩
      · exact .inl (if_neg hb)
    · by_cases hb : b = a
      · have z' := (if_pos hb).symm.trans z
        cases z'
        subst hb
        exact ⟨ha, by rw [List.length_map]; exact hl, vs, _, rv, ha⟩
      · have z' := (if_neg hb).symm.trans z
        cases z'
    · by_cases hb : b = a
      · exact hb
      · exact absurd (if_neg hb) z
end L2
namespace Tw
open PySem PySem.W L2
section
variable {K : PySem.W.Frag} {h : Heap} {mg : Str → Option Value}
theorem fnt_mk (X : K.In h) (G : h.Ns mainGlobals mg) {x : Str} {st : Stmt} {ps : List Str} {f : Addr} {oc : Value} {od an : Option Addr} {osl : Array (Option Value)} {kV doc pm cdv ct : Value}
    (a : PySem.W.nsIn K mainGlobals x = some (some (.ref f))) (l : K.lookup f = some ⟨oc, od, .func (PySem.W.fnOf x x (defArgs st) (defBody st) (defScope st) .none kV doc pm an cdv ct), osl⟩) (c : PySem.W.codeIn K cdv x = true) (k : PySem.W.keepIn K (.ref f) = true)
    (hb : ∀ (kV doc pm : Value) (an : Option Addr) (cdv ct : Value) (us : List Value), us.length = ps.length → bindArgs (PySem.W.fnOf x x (defArgs st) (defBody st) (defScope st) .none kV doc pm an cdv ct) ⟨us, []⟩ = pure (ps.zip us)) : ∃ f fd, FnT K mg x st f fd ps :=
  ⟨f, _, fun_mk l c k, (fun_mk l c k).binds hb, PySem.W.mg_of X G a⟩
theorem met_mk {C : Addr} {x qual : Str} {st : Stmt} {ps : List Str} {f : Addr} {oc : Value} {od an : Option Addr} {osl : Array (Option Value)} {kV doc pm cdv ct : Value}
    (a : PySem.W.findIn K (.ref C) x = some (some (.ref f))) (i : PySem.W.isFn K (.ref f) = true) (l : K.lookup f = some ⟨oc, od, .func (PySem.W.fnOf x qual (defArgs st) (defBody st) (defScope st) .none kV doc pm an cdv ct), osl⟩) (c : PySem.W.codeIn K cdv qual = true) (k : PySem.W.keepIn K (.ref f) = true)
    (hb : ∀ (kV doc pm : Value) (an : Option Addr) (cdv ct : Value) (us : List Value), us.length = ps.length → bindArgs (PySem.W.fnOf x qual (defArgs st) (defBody st) (defScope st) .none kV doc pm an cdv ct) ⟨us, []⟩ = pure (ps.zip us)) : ∃ f fd, MeT K C x qual st f fd ps :=
  ⟨f, _, fun_mk l c k, (fun_mk l c k).binds hb, ⟨a, i, k⟩⟩
theorem cni_mk (X : K.In h) (G : h.Ns mainGlobals mg) {x : Str} {z : Int} {t : Tok} (a : PySem.W.nsIn K mainGlobals x = some (some (.int z t))) : CnT mg x (.int z) := ⟨_, PySem.W.mg_of X G a, ⟨t, rfl⟩⟩
theorem cnr_mk (X : K.In h) (G : h.Ns mainGlobals mg) {x : Str} {r : Addr} (a : PySem.W.nsIn K mainGlobals x = some (some (.ref r))) : CnT mg x (.ref r) := ⟨_, PySem.W.mg_of X G a, rfl⟩
theorem cns_mk (X : K.In h) (G : h.Ns mainGlobals mg) {x y : Str} {t : Tok} (a : PySem.W.nsIn K mainGlobals x = some (some (.str y t))) : CnT mg x (.str y) := ⟨_, PySem.W.mg_of X G a, ⟨t, rfl⟩⟩
end
end Tw
namespace Tw
open PySem PySem.W L2
section
variable {K : PySem.W.Frag} {h : Heap} {mg : Str → Option Value}
theorem clt_mk (X : K.In h) (G : h.Ns mainGlobals mg) {x : Str} {C f : Addr} {attrs : List Str} (a : PySem.W.nsIn K mainGlobals x = some (some (.ref C)))
    (pg : PySem.W.plainGet K C Str.empty = true) (hd : PySem.W.hasDictIn K C = true) (po : PySem.W.plainOver K C = true) (sa : PySem.W.findIn K (.ref C) "__setattr__" = some (some (.builtin "object.__setattr__")))
    (mk : PySem.W.makesIn K C = true) (it : PySem.W.findIn K (.ref C) "__init__" = some (some (.ref f))) (i : PySem.W.isFn K (.ref f) = true) (kc : PySem.W.keepIn K (.ref C) = true) (na : ∀ y ∈ attrs, NoAttr K C y) : ClT K mg x C f attrs :=
  ⟨⟨pg, hd, po, sa⟩, ⟨mk, it, i, kc⟩, PySem.W.mg_of X G a, na⟩
end
end Tw
namespace Tw
open PySem PySem.W L2
def vB : List Nat → List Value → Bool
  | [], [] => true
  | n :: l, .int z _ :: us => decide (z = (n : Int)) && vB l us
  | _, _ => false
theorem vB_ok : ∀ (l : List Nat) (us : List Value), vB l us = true → Vals (bs l) us
  | [], [], _ => .nil
  | [], _ :: _, h => by cases h
  | _ :: _, [], h => by cases h
  | n :: l, u :: us, h => by
    cases u <;> first | (cases h; done) | skip
    rename_i z t
    have h' : (decide (z = (n : Int)) && vB l us) = true := h
    rw [Bool.and_eq_true, decide_eq_true_eq] at h'
    obtain ⟨rfl, h2⟩ := h'
    exact .cons ⟨t, rfl⟩ (vB_ok l us h2)
def clsB : Value → Bool
  | .type s => decide (s = "tuple")
  | _ => false
theorem clsB_ok {v : Value} (h : clsB v = true) : v = .type "tuple" := by
  cases v <;> first | (cases h; done) | skip
  rename_i s
  have h' : decide (s = "tuple") = true := h
  rw [decide_eq_true_eq] at h'
  rw [h']
def tupB (K : PySem.W.Frag) (t : Addr) (l : List Nat) : Bool :=
  match K.lookup t with
  | some o => clsB o.cls && (match o.data with
    | .seq its _ => Nat.ble its.toList.length 1000 && vB l its.toList
    | _ => false)
  | none => false
theorem tupB_ok {K : PySem.W.Frag} {t : Addr} {l : List Nat} (h : tupB K t l = true) : ∀ H, SqT K H t (bs l) := by
  intro H
  unfold tupB at h
  cases e : K.lookup t with
  | none => rw [e] at h; cases h
  | some o =>
    rw [e] at h
    dsimp only at h
    rw [Bool.and_eq_true] at h
    obtain ⟨h1, h2⟩ := h
    cases d : o.data <;> rw [d] at h2 <;> first | (cases h2; done) | skip
    rename_i its n
    dsimp only at h2
    rw [Bool.and_eq_true] at h2
    obtain ⟨h2, h3⟩ := h2
    have z := Nat.le_of_ble_eq_true h2
    rw [Array.length_toList] at z
    exact .inr ⟨o, its, n, e, clsB_ok h1, d, by rw [PySem.sizeLine_eq]; omega, vB_ok _ _ h3⟩
def refsB (K : PySem.W.Frag) : List Value → List (List Nat) → Bool
  | [], [] => true
  | .ref t :: us, l :: ls => tupB K t l && refsB K us ls
  | _, _ => false
theorem refsB_ok {K : PySem.W.Frag} : ∀ (us : List Value) (ls : List (List Nat)), refsB K us ls = true →
    ∃ ts : List Addr, Vals (ts.map V.ref) us ∧ ts.length = ls.length ∧ ∀ (i : Nat) (t : Addr) (l : List Nat), ts[i]? = some t → ls[i]? = some l → ∀ H, SqT K H t (bs l)
  | [], [], _ => ⟨[], .nil, rfl, fun i t l h => by simp at h⟩
  | [], _ :: _, h => by cases h
  | _ :: _, [], h => by rename_i u us; cases u <;> cases h
  | u :: us, l :: ls, h => by
    cases u <;> first | (cases h; done) | skip
    rename_i t
    have h' : (tupB K t l && refsB K us ls) = true := h
    rw [Bool.and_eq_true] at h'
    obtain ⟨ts, v, n, a⟩ := refsB_ok us ls h'.2
    refine ⟨t :: ts, .cons rfl v, by rw [List.length_cons, List.length_cons, n], fun i t' l' => ?_⟩
    cases i with
    | zero =>
      intro e1 e2
      simp only [List.getElem?_cons_zero, Option.some.injEq] at e1 e2
      subst e1; subst e2
      exact tupB_ok h'.1
    | succ i =>
      intro e1 e2
      simp only [List.getElem?_cons_succ] at e1 e2
      exact a i t' l' e1 e2
def tupsB (K : PySem.W.Frag) (t : Addr) (ls : List (List Nat)) : Bool :=
  match K.lookup t with
  | some o => clsB o.cls && (match o.data with
    | .seq its _ => Nat.ble its.toList.length 1000 && refsB K its.toList ls
    | _ => false)
  | none => false
theorem tupsB_ok {K : PySem.W.Frag} {t : Addr} {ls : List (List Nat)} (h : tupsB K t ls = true) : TupT K t ls := by
  unfold tupsB at h
  cases e : K.lookup t with
  | none => rw [e] at h; cases h
  | some o =>
    rw [e] at h
    dsimp only at h
    rw [Bool.and_eq_true] at h
    obtain ⟨h1, h2⟩ := h
    cases d : o.data <;> rw [d] at h2 <;> first | (cases h2; done) | skip
    rename_i its n
    dsimp only at h2
    rw [Bool.and_eq_true] at h2
    obtain ⟨h2, h3⟩ := h2
    have z := Nat.le_of_ble_eq_true h2
    rw [Array.length_toList] at z
    obtain ⟨ts, v, n', a⟩ := refsB_ok _ _ h3
    exact ⟨ts, fun H => .inr ⟨o, its, n, e, clsB_ok h1, d, by rw [PySem.sizeLine_eq]; omega, v⟩, n', a⟩
def noB (K : PySem.W.Frag) (C : Addr) : List Str → Bool
  | [] => true
  | y :: l => (match PySem.W.findIn K (.ref C) y with
    | some none => true
    | _ => false) && noB K C l
theorem noB_ok {K : PySem.W.Frag} {C : Addr} : ∀ (l : List Str), noB K C l = true → ∀ y ∈ l, NoAttr K C y
  | [], _, y, m => nomatch m
  | x :: l, h, y, m => by
    unfold noB at h
    rw [Bool.and_eq_true] at h
    cases m with
    | head =>
      have h1 := h.1
      unfold NoAttr
      split at h1
      · assumption
      · cases h1
    | tail _ m => exact noB_ok l h.2 y m
section
variable {K : PySem.W.Frag} {h : Heap} {mg : Str → Option Value}
theorem met_in {cn : Str} {C : Addr} (_ : PySem.W.nsIn K mainGlobals cn = some (some (.ref C))) {x qual : Str} {st : Stmt} {ps : List Str} {f : Addr} {oc : Value} {od an : Option Addr} {osl : Array (Option Value)} {kV doc pm cdv ct : Value}
    (a : PySem.W.findIn K (.ref C) x = some (some (.ref f))) (i : PySem.W.isFn K (.ref f) = true) (l : K.lookup f = some ⟨oc, od, .func (PySem.W.fnOf x qual (defArgs st) (defBody st) (defScope st) .none kV doc pm an cdv ct), osl⟩) (c : PySem.W.codeIn K cdv qual = true) (k : PySem.W.keepIn K (.ref f) = true)
    (hb : ∀ (kV doc pm : Value) (an : Option Addr) (cdv ct : Value) (us : List Value), us.length = ps.length → bindArgs (PySem.W.fnOf x qual (defArgs st) (defBody st) (defScope st) .none kV doc pm an cdv ct) ⟨us, []⟩ = pure (ps.zip us)) : ∃ f fd, MeT K C x qual st f fd ps := met_mk a i l c k hb
theorem cls_in (X : K.In h) (G : h.Ns mainGlobals mg) {x qual : Str} {C f : Addr} {st : Stmt} {fd : FuncData} {ps attrs : List Str} (a : PySem.W.nsIn K mainGlobals x = some (some (.ref C))) (m : MeT K C "__init__" qual st f fd ps)
    (pg : PySem.W.plainGet K C Str.empty = true) (hd : PySem.W.hasDictIn K C = true) (po : PySem.W.plainOver K C = true) (sa : PySem.W.findIn K (.ref C) "__setattr__" = some (some (.builtin "object.__setattr__")))
    (mk : PySem.W.makesIn K C = true) (kc : PySem.W.keepIn K (.ref C) = true) (na : noB K C attrs = true) : ClT K mg x C f attrs :=
  clt_mk X G a pg hd po sa mk m.mt.at_ m.mt.fn kc (noB_ok _ na)
theorem tup_in (X : K.In h) (G : h.Ns mainGlobals mg) {x : Str} {t : Addr} {l : List Nat} (a : PySem.W.nsIn K mainGlobals x = some (some (.ref t))) (b : tupB K t l = true) : ∃ t, CnT mg x (.ref t) ∧ ∀ H, SqT K H t (bs l) := ⟨t, cnr_mk X G a, tupB_ok b⟩
theorem tups_in (X : K.In h) (G : h.Ns mainGlobals mg) {x : Str} {t : Addr} {l : List (List Nat)} (a : PySem.W.nsIn K mainGlobals x = some (some (.ref t))) (b : tupsB K t l = true) : ∃ t, CnT mg x (.ref t) ∧ TupT K t l := ⟨t, cnr_mk X G a, tupsB_ok b⟩
end
end Tw
namespace Tw
open PySem PySem.W L2
theorem at_in {K : PySem.W.Frag} {h : Heap} (_ : K.In h) {p : Prop} {x : Str} {C : Addr} (a : PySem.W.nsIn K mainGlobals x = some (some (.ref C))) (r : PySem.W.nsIn K mainGlobals x = some (some (.ref C)) → p) : p := r a
abbrev HB (x qual : Str) (st : Stmt) (ps : List Str) : Prop := ∀ (kV doc pm : Value) (an : Option Addr) (cdv ct : Value) (us : List Value), us.length = ps.length → bindArgs (PySem.W.fnOf x qual (defArgs st) (defBody st) (defScope st) .none kV doc pm an cdv ct) ⟨us, []⟩ = pure (ps.zip us)
theorem bnd_of {K : PySem.W.Frag} {mg : Str → Option Value} {f : Addr} {fd : FuncData} (F : FnT K mg "answers" s_answers f fd ["calls"]) (s : Shared) (u : Value) : BindsTo s fd ⟨[u], []⟩ [("calls", u)] := by
  obtain ⟨oc, od, kV, doc, pm, an, cdv, ct, osl, rfl, _, _⟩ := F.fn.ex
  exact .of_eq rfl
end Tw
namespace Tw
open PySem PySem.W L2
theorem hbs_1 {α : Type} {f g : List Value → α} (h : ∀ a0, f [a0] = g [a0]) : ∀ us : List Value, us.length = 1 → f us = g us := fun us hl => match us, hl with | [a0], _ => h a0
theorem hbs_2 {α : Type} {f g : List Value → α} (h : ∀ a0 a1, f [a0, a1] = g [a0, a1]) : ∀ us : List Value, us.length = 2 → f us = g us := fun us hl => match us, hl with | [a0, a1], _ => h a0 a1
theorem hbs_3 {α : Type} {f g : List Value → α} (h : ∀ a0 a1 a2, f [a0, a1, a2] = g [a0, a1, a2]) : ∀ us : List Value, us.length = 3 → f us = g us := fun us hl => match us, hl with | [a0, a1, a2], _ => h a0 a1 a2
theorem hbs_4 {α : Type} {f g : List Value → α} (h : ∀ a0 a1 a2 a3, f [a0, a1, a2, a3] = g [a0, a1, a2, a3]) : ∀ us : List Value, us.length = 4 → f us = g us := fun us hl => match us, hl with | [a0, a1, a2, a3], _ => h a0 a1 a2 a3
theorem hbs_5 {α : Type} {f g : List Value → α} (h : ∀ a0 a1 a2 a3 a4, f [a0, a1, a2, a3, a4] = g [a0, a1, a2, a3, a4]) : ∀ us : List Value, us.length = 5 → f us = g us := fun us hl => match us, hl with | [a0, a1, a2, a3, a4], _ => h a0 a1 a2 a3 a4
theorem hbs_6 {α : Type} {f g : List Value → α} (h : ∀ a0 a1 a2 a3 a4 a5, f [a0, a1, a2, a3, a4, a5] = g [a0, a1, a2, a3, a4, a5]) : ∀ us : List Value, us.length = 6 → f us = g us := fun us hl => match us, hl with | [a0, a1, a2, a3, a4, a5], _ => h a0 a1 a2 a3 a4 a5
theorem hbs_7 {α : Type} {f g : List Value → α} (h : ∀ a0 a1 a2 a3 a4 a5 a6, f [a0, a1, a2, a3, a4, a5, a6] = g [a0, a1, a2, a3, a4, a5, a6]) : ∀ us : List Value, us.length = 7 → f us = g us := fun us hl => match us, hl with | [a0, a1, a2, a3, a4, a5, a6], _ => h a0 a1 a2 a3 a4 a5 a6
theorem hb_number_of : HB "number_of" "number_of" s_number_of ["octets"] := fun _ _ _ _ _ _ => hbs_1 fun _ => rfl
theorem hb_octets_of : HB "octets_of" "octets_of" s_octets_of ["number", "size"] := fun _ _ _ _ _ _ => hbs_2 fun _ _ => rfl
theorem hb_words_of : HB "words_of" "words_of" s_words_of ["octets"] := fun _ _ _ _ _ _ => hbs_1 fun _ => rfl
theorem hb_octets_of_text : HB "octets_of_text" "octets_of_text" s_octets_of_text ["text"] := fun _ _ _ _ _ _ => hbs_1 fun _ => rfl
theorem hb_filled : HB "filled" "filled" s_filled ["octets", "size"] := fun _ _ _ _ _ _ => hbs_2 fun _ _ => rfl
theorem hb_inverse : HB "inverse" "inverse" s_inverse ["value"] := fun _ _ _ _ _ _ => hbs_1 fun _ => rfl
theorem hb_scalar_of : HB "scalar_of" "scalar_of" s_scalar_of ["secret"] := fun _ _ _ _ _ _ => hbs_1 fun _ => rfl
theorem hb_multiplied : HB "multiplied" "multiplied" s_multiplied ["scalar", "u"] := fun _ _ _ _ _ _ => hbs_2 fun _ _ => rfl
theorem hb_agreed : HB "agreed" "agreed" s_agreed ["secret", "point"] := fun _ _ _ _ _ _ => hbs_2 fun _ _ => rfl
theorem hb_public : HB "public" "public" s_public ["secret"] := fun _ _ _ _ _ _ => hbs_1 fun _ => rfl
theorem hb_worth_nothing : HB "worth_nothing" "worth_nothing" s_worth_nothing ["octets"] := fun _ _ _ _ _ _ => hbs_1 fun _ => rfl
theorem hb_mix : HB "mix" "mix" s_mix ["work", "a", "b", "c", "d", "x", "y"] := fun _ _ _ _ _ _ => hbs_7 fun _ _ _ _ _ _ _ => rfl
theorem hb_compressed : HB "compressed" "compressed" s_compressed ["state", "block", "reached", "last"] := fun _ _ _ _ _ _ => hbs_4 fun _ _ _ _ => rfl
theorem hb_blake : HB "blake" "blake" s_blake ["size", "key", "message"] := fun _ _ _ _ _ _ => hbs_3 fun _ _ _ => rfl
theorem hb_digest : HB "digest" "digest" s_digest ["message"] := fun _ _ _ _ _ _ => hbs_1 fun _ => rfl
theorem hb_mac : HB "mac" "mac" s_mac ["key", "message"] := fun _ _ _ _ _ _ => hbs_2 fun _ _ => rfl
theorem hb_head : HB "head" "head" s_head ["kind"] := fun _ _ _ _ _ _ => hbs_1 fun _ => rfl
theorem hb_mark_of : HB "mark_of" "mark_of" s_mark_of ["before", "number"] := fun _ _ _ _ _ _ => hbs_2 fun _ _ => rfl
theorem hb_marked : HB "marked" "marked" s_marked ["before", "number"] := fun _ _ _ _ _ _ => hbs_2 fun _ _ => rfl
theorem hb_is_well_marked : HB "is_well_marked" "is_well_marked" s_is_well_marked ["m", "kind", "size", "number"] := fun _ _ _ _ _ _ => hbs_4 fun _ _ _ _ => rfl
theorem hb_hmac : HB "hmac" "hmac" s_hmac ["key", "message"] := fun _ _ _ _ _ _ => hbs_2 fun _ _ => rfl
theorem hb_drawn : HB "drawn" "drawn" s_drawn ["count", "key", "message"] := fun _ _ _ _ _ _ => hbs_3 fun _ _ _ => rfl
theorem hb_Mixer___init__ : HB "__init__" "Mixer.__init__" s_Mixer___init__ ["self", "chain", "seen"] := fun _ _ _ _ _ _ => hbs_3 fun _ _ _ => rfl
theorem hb_Mixer_twin : HB "twin" "Mixer.twin" s_Mixer_twin ["self"] := fun _ _ _ _ _ _ => hbs_1 fun _ => rfl
theorem hb_Mixer_absorb : HB "absorb" "Mixer.absorb" s_Mixer_absorb ["self", "octets"] := fun _ _ _ _ _ _ => hbs_2 fun _ _ => rfl
theorem hb_Mixer_stir : HB "stir" "Mixer.stir" s_Mixer_stir ["self", "octets"] := fun _ _ _ _ _ _ => hbs_2 fun _ _ => rfl
theorem hb_Mixer_stir_for_key : HB "stir_for_key" "Mixer.stir_for_key" s_Mixer_stir_for_key ["self", "octets"] := fun _ _ _ _ _ _ => hbs_2 fun _ _ => rfl
theorem hb_Mixer_stir_psk_for_key : HB "stir_psk_for_key" "Mixer.stir_psk_for_key" s_Mixer_stir_psk_for_key ["self", "psk"] := fun _ _ _ _ _ _ => hbs_2 fun _ _ => rfl
theorem hb_mixer_towards : HB "mixer_towards" "mixer_towards" s_mixer_towards ["number"] := fun _ _ _ _ _ _ => hbs_1 fun _ => rfl
theorem hb_quarter : HB "quarter" "quarter" s_quarter ["work", "a", "b", "c", "d"] := fun _ _ _ _ _ _ => hbs_5 fun _ _ _ _ _ => rfl
theorem hb_stream_block : HB "stream_block" "stream_block" s_stream_block ["key", "counter", "nonce"] := fun _ _ _ _ _ _ => hbs_3 fun _ _ _ => rfl
theorem hb_crypted : HB "crypted" "crypted" s_crypted ["key", "nonce", "octets"] := fun _ _ _ _ _ _ => hbs_3 fun _ _ _ => rfl
theorem hb_poly_tag : HB "poly_tag" "poly_tag" s_poly_tag ["key", "message"] := fun _ _ _ _ _ _ => hbs_2 fun _ _ => rfl
theorem hb_nonce_of : HB "nonce_of" "nonce_of" s_nonce_of ["count"] := fun _ _ _ _ _ _ => hbs_1 fun _ => rfl
theorem hb_tag_of : HB "tag_of" "tag_of" s_tag_of ["key", "nonce", "covered", "seen"] := fun _ _ _ _ _ _ => hbs_4 fun _ _ _ _ => rfl
theorem hb_seal : HB "seal" "seal" s_seal ["key", "count", "plain", "seen"] := fun _ _ _ _ _ _ => hbs_4 fun _ _ _ _ => rfl
theorem hb_unseal : HB "unseal" "unseal" s_unseal ["key", "count", "sealed", "seen"] := fun _ _ _ _ _ _ => hbs_4 fun _ _ _ _ => rfl
theorem hb_Handshake___init__ : HB "__init__" "Handshake.__init__" s_Handshake___init__ ["self", "mine", "moment", "mixer"] := fun _ _ _ _ _ _ => hbs_4 fun _ _ _ _ => rfl
theorem hb_Greeting___init__ : HB "__init__" "Greeting.__init__" s_Greeting___init__ ["self", "theirs", "point", "stamp", "mixer"] := fun _ _ _ _ _ _ => hbs_5 fun _ _ _ _ _ => rfl
theorem hb_new_handshake : HB "new_handshake" "new_handshake" s_new_handshake ["identity", "mine", "moment"] := fun _ _ _ _ _ _ => hbs_3 fun _ _ _ => rfl
theorem hb_first_message : HB "first_message" "first_message" s_first_message ["identity", "handshake", "stamp"] := fun _ _ _ _ _ _ => hbs_3 fun _ _ _ => rfl
theorem hb_read_first : HB "read_first" "read_first" s_read_first ["identity", "m"] := fun _ _ _ _ _ _ => hbs_2 fun _ _ => rfl
theorem hb_Session___init__ : HB "__init__" "Session.__init__" s_Session___init__ ["self", "mine", "theirs", "sending_key", "opening_key"] := fun _ _ _ _ _ _ => hbs_5 fun _ _ _ _ _ => rfl
theorem hb_Session_is_used_up : HB "is_used_up" "Session.is_used_up" s_Session_is_used_up ["self"] := fun _ _ _ _ _ _ => hbs_1 fun _ => rfl
theorem hb_Session_packet : HB "packet" "Session.packet" s_Session_packet ["self", "plain"] := fun _ _ _ _ _ _ => hbs_2 fun _ _ => rfl
theorem hb_Session_is_new : HB "is_new" "Session.is_new" s_Session_is_new ["self", "number"] := fun _ _ _ _ _ _ => hbs_2 fun _ _ => rfl
theorem hb_Session_accept : HB "accept" "Session.accept" s_Session_accept ["self", "m"] := fun _ _ _ _ _ _ => hbs_2 fun _ _ => rfl
theorem hb_has_packet_form : HB "has_packet_form" "has_packet_form" s_has_packet_form ["m"] := fun _ _ _ _ _ _ => hbs_1 fun _ => rfl
theorem hb_key_of_second : HB "key_of_second" "key_of_second" s_key_of_second ["mixer", "point", "with_moment", "with_secret", "psk"] := fun _ _ _ _ _ _ => hbs_5 fun _ _ _ _ _ => rfl
theorem hb_second_message : HB "second_message" "second_message" s_second_message ["identity", "greeting", "mine", "moment", "met"] := fun _ _ _ _ _ _ => hbs_5 fun _ _ _ _ _ => rfl
theorem hb_answering_session : HB "answering_session" "answering_session" s_answering_session ["greeting", "mine"] := fun _ _ _ _ _ _ => hbs_2 fun _ _ => rfl
theorem hb_read_second : HB "read_second" "read_second" s_read_second ["identity", "handshake", "m"] := fun _ _ _ _ _ _ => hbs_3 fun _ _ _ => rfl
theorem hb_End___init__ : HB "__init__" "End.__init__" s_End___init__ ["self", "identity"] := fun _ _ _ _ _ _ => hbs_2 fun _ _ => rfl
theorem hb_End_begin : HB "begin" "End.begin" s_End_begin ["self", "mine", "moment", "stamp"] := fun _ _ _ _ _ _ => hbs_4 fun _ _ _ _ => rfl
theorem hb_End_take : HB "take" "End.take" s_End_take ["self", "mine", "moment", "m"] := fun _ _ _ _ _ _ => hbs_4 fun _ _ _ _ => rfl
theorem hb_End_take_first : HB "take_first" "End.take_first" s_End_take_first ["self", "mine", "moment", "m"] := fun _ _ _ _ _ _ => hbs_4 fun _ _ _ _ => rfl
theorem hb_End_is_later : HB "is_later" "End.is_later" s_End_is_later ["self", "stamp"] := fun _ _ _ _ _ _ => hbs_2 fun _ _ => rfl
theorem hb_End_take_second : HB "take_second" "End.take_second" s_End_take_second ["self", "m"] := fun _ _ _ _ _ _ => hbs_2 fun _ _ => rfl
theorem hb_End_make_current : HB "make_current" "End.make_current" s_End_make_current ["self", "session"] := fun _ _ _ _ _ _ => hbs_2 fun _ _ => rfl
theorem hb_End_take_packet : HB "take_packet" "End.take_packet" s_End_take_packet ["self", "m"] := fun _ _ _ _ _ _ => hbs_2 fun _ _ => rfl
theorem hb_End_send : HB "send" "End.send" s_End_send ["self", "d"] := fun _ _ _ _ _ _ => hbs_2 fun _ _ => rfl
theorem hb_accepted : HB "accepted" "accepted" s_accepted ["session", "m"] := fun _ _ _ _ _ _ => hbs_2 fun _ _ => rfl
theorem hb_Identity___init__ : HB "__init__" "Identity.__init__" s_Identity___init__ ["self", "secret", "peer", "psk", "shared"] := fun _ _ _ _ _ _ => hbs_5 fun _ _ _ _ _ => rfl
theorem hb_identity_with : HB "identity_with" "identity_with" s_identity_with ["secret", "peer", "psk"] := fun _ _ _ _ _ _ => hbs_3 fun _ _ _ => rfl
theorem hb_Line___init__ : HB "__init__" "Line.__init__" s_Line___init__ ["self"] := fun _ _ _ _ _ _ => hbs_1 fun _ => rfl
theorem hb_Line_set_up : HB "set_up" "Line.set_up" s_Line_set_up ["self", "secret", "peer", "psk"] := fun _ _ _ _ _ _ => hbs_4 fun _ _ _ _ => rfl
theorem hb_Line_begin : HB "begin" "Line.begin" s_Line_begin ["self", "mine", "moment", "stamp"] := fun _ _ _ _ _ _ => hbs_4 fun _ _ _ _ => rfl
theorem hb_Line_take : HB "take" "Line.take" s_Line_take ["self", "mine", "moment", "m"] := fun _ _ _ _ _ _ => hbs_4 fun _ _ _ _ => rfl
theorem hb_Line_send : HB "send" "Line.send" s_Line_send ["self", "d"] := fun _ _ _ _ _ _ => hbs_2 fun _ _ => rfl
theorem hb_Reader___init__ : HB "__init__" "Reader.__init__" s_Reader___init__ ["self", "numbers"] := fun _ _ _ _ _ _ => hbs_2 fun _ _ => rfl
theorem hb_Reader_has_more : HB "has_more" "Reader.has_more" s_Reader_has_more ["self"] := fun _ _ _ _ _ _ => hbs_1 fun _ => rfl
theorem hb_Reader_number : HB "number" "Reader.number" s_Reader_number ["self"] := fun _ _ _ _ _ _ => hbs_1 fun _ => rfl
theorem hb_Reader_row : HB "row" "Reader.row" s_Reader_row ["self"] := fun _ _ _ _ _ _ => hbs_1 fun _ => rfl
theorem hb_parts_of : HB "parts_of" "parts_of" s_parts_of ["reader", "call"] := fun _ _ _ _ _ _ => hbs_2 fun _ _ => rfl
theorem hb_answer_of : HB "answer_of" "answer_of" s_answer_of ["line", "call", "parts"] := fun _ _ _ _ _ _ => hbs_3 fun _ _ _ => rfl
theorem hb_answers : HB "answers" "answers" s_answers ["calls"] := fun _ _ _ _ _ _ => hbs_1 fun _ => rfl
end Tw
namespace Tw
open PySem PySem.W PyProof.Rows L2
abbrev rT : OpenSpec := PySem.Challenge.rw_twoends_s01_answers
theorem args_of {P : Params} {h : Heap} {args : List WData} {vals : List Value} (hpre : rT.pre args = true) (hwl : WellAll P h vals args) :
    ∃ a vs ns, vals = [Value.ref a] ∧ args = [WData.list (ns.map WData.int)] ∧ h.get? a = some { cls := .type "list", data := .seq vs.toArray } ∧ IntsAre vs ns ∧ ns.length ≤ 30000 ∧ PySd16.answers_asked ns = true ∧ Codec.decAll rT.args args = some (ns, ()) := by
  have hsh : WShape.hasAll [] args [.list .int] = true := os_shapes _ hpre
  obtain ⟨d, r, rfl, h1, h2⟩ := hasAllW_cons hsh
  obtain rfl := hasAllW_nil h2
  obtain ⟨xs, rfl, h3⟩ := hasW_list h1
  obtain ⟨ns, rfl⟩ := items_int h3
  have e : WData.list (ns.map WData.int) = ofPy (PyData.list (ns.map PyData.int)) := by
    rw [← ofPys_ints]; rfl
  have e2 : Codec.decAll rT.args [WData.list (ns.map WData.int)] = some (ns, ()) ∧ 0 ≤ ns.length ∧ ns.length ≤ 30000 ∧ ∀ x ∈ ns, (0 : Int) ≤ x ∧ x ≤ 4294967295 := by
    have hs := os_pre_isSome hpre
    rw [e] at hs ⊢
    exact os_dec_ints hs
  have ha : PySd16.answers_asked ns = true := os_pre_asked hpre e2.1
  cases hwl with
  | cons w1 w2 =>
    cases w2
    cases w1 with
    | list ho hall => exact ⟨_, _, ns, rfl, rfl, ho, Att.ints_of_wellAll ns _ hall, e2.2.2.1, ha, e2.1⟩
theorem told_len : ∀ (s : Option Sd16.End) (cs : List (List (List Int))), (PyFlat.told (PyFlat.played Sd16Neutral.step s cs)).length = Sd16Neutral.total s cs + cs.length
  | s, [] => rfl
  | s, c :: r => by
    rw [PyFlat.played, told_cons, List.length_append, told_len _ r, Sd16Neutral.total, List.length_cons, List.length_cons]
    omega
theorem spec_of {ns : List Int} (h : PySd16.answers_asked ns = true) : ∃ cs, PyFlat.calls PySd16.shape ns.length ns = some cs ∧ (∀ c ∈ cs, Sd16Neutral.asked1 (PySd16.whole c) = true) ∧ cs.length ≤ 300 ∧ PyFlat.told (PyFlat.played Sd16Neutral.step none (cs.map PySd16.whole)) = PySd16.answers ns ∧ (PySd16.answers ns).length ≤ 2000000 := by
  unfold PySd16.answers_asked PySd16.calls at h
  cases hc : PyFlat.calls PySd16.shape ns.length ns with
  | none => rw [hc] at h; cases h
  | some cs =>
    rw [hc] at h
    have h' : (PyFlat.atMost 300 (cs.map PySd16.whole) && Sd16Neutral.asked (cs.map PySd16.whole)) = true := h
    obtain ⟨h1, h2⟩ := and2 h'
    unfold Sd16Neutral.asked at h2
    obtain ⟨h2, _⟩ := and2 h2
    obtain ⟨h2, h3⟩ := and2 h2
    have h4 := of_decide_eq_true h3
    have h5 := of_decide_eq_true h1
    rw [List.length_map] at h5
    have ea : PySd16.answers ns = PyFlat.told (PyFlat.played Sd16Neutral.step none (cs.map PySd16.whole)) := by
      unfold PySd16.answers PySd16.calls
      rw [hc]
      rfl
    have el := told_len none (cs.map PySd16.whole)
    rw [List.length_map] at el
    have h6 : Sd16Neutral.total none (cs.map PySd16.whole) < 1000000 := h4
    refine ⟨cs, rfl, fun c hc => List.all_eq_true.mp h2 _ (List.mem_map.mpr ⟨c, hc, rfl⟩), h5, ea.symm, ?_⟩
    rw [ea, el]
    omega
end Tw
namespace Tw
open PySem PySem.W PyProof.Rows L2
theorem cal_of {K : PySem.W.Frag} {H : Hp} {a : Addr} {l : List Int} (hO : Only H) (h : SqL K H a (l.map V.int)) : Cal K H a l := by
  rcases h with (h | ⟨o, h⟩) | h
  · rcases hO a with z | ⟨ob, xs, z⟩
    · rw [h] at z; cases z
    · rw [h] at z; cases z
  · exact .inl ⟨o, h⟩
  · exact .inr fun H' => .inr h
theorem reads_ints {R : WRecords} {cl : Str → Option Addr} {h : Heap} : ∀ (l : List Int) (its : List Value), Vals (l.map V.int) its → ReadsAllW R cl h its (l.map WData.int) []
  | [], [], _ => .nil
  | z :: l, u :: its, v => by
    cases v with
    | cons r rr =>
      obtain ⟨t, rfl⟩ := r
      exact .cons (as := []) (.int z t) (reads_ints l its rr)
theorem attach_spec {q : Program} {loose : List Str} {XP : (Str → Option Value) → Heap → Prop} {YP : World → Heap → Prop} {d : DefRec} {K : Params → PySem.W.Frag} (hr : Room 15 callerA)
    (hY : ∀ (w : World) (h : Heap), YP w h → (K w.params).In h)
    (F : ∀ (w : World) (mg : Str → Option Value) (fa : Addr) (h : Heap), (K w.params).In h → h.Ns mainGlobals mg → mg d.name = some (.ref fa) →
      ∃ (fd : FuncData) (A : Ad), (∀ (s : Shared) (u : Value), BindsTo s fd ⟨[u], []⟩ [("calls", u)]) ∧
        ∀ base : Heap, (K w.params).In base → base.Ns mainGlobals mg → FnOk rT.prog w (K w.params) mg base CX0 15 fa fd ["calls"] (sp_answers (K w.params) A)) :
    WalkOS q loose XP YP rT d [] (fun f vs => PySem.call f vs) := by
  intro w s₀ s₁ mg mb G Y fa o pm cd doc dV kV ho hd hcd hD hmg hg args vals as hpre hlay hrd hwl hlo
  obtain ⟨a, vs, ns, rfl, rfl, hobj, hints, hlen, ha, hdec⟩ := args_of hpre hwl
  have KX := hY w _ Y
  obtain ⟨fd, A, hb, hF⟩ := F w mg fa _ KX G.T.g hmg
  obtain ⟨cs, hcs, has, h3, hfin, hfl⟩ := spec_of ha
  refine enter_call (codeAny_mono (spec_call (fin := PySd16.answers ns) KX G.T.g G.T.b G.T.builtins G.T.nolimit hg hobj hints (by rw [PySem.sizeLine_eq]; omega) hr hF hb (fun H hO hS => ?_) (fun H e s' z => ?_)) fun res s' hq => ?_)
  · exact ⟨a, ns, _, _, cs, rfl, cal_of hO hS, hcs, has, h3, hfin, hfl, fun r H' h => ⟨r, rfl, h⟩⟩
  · exact z
  · obtain ⟨r, its, n, rfl, hget, hv, h2, h3, h4⟩ := hq
    refine ⟨.inl ⟨.ref r, .list ((PySd16.answers ns).map WData.int), [r], rfl, fun _ => rfl, ?_, ?_, ?_⟩, h2, h3, h4⟩
    · exact .list hget rfl rfl (by rw [List.toList_toArray]; exact reads_ints (PySd16.answers ns) its hv)
    · exact os_post hdec (same_self _)
    · exact fun z => nomatch z
end Tw
namespace PySem.W.Fast
theorem tw18523930597115980 : True := ⟨⟩
theorem tw113566080981094840 : True := ⟨⟩
theorem tw172524456149860799 : True := ⟨⟩
theorem tw181964671217757611 : True := ⟨⟩
theorem tw272694955852118992 : True := ⟨⟩
theorem tw400963049964072572 : True := ⟨⟩
theorem tw475649287905284188 : True := ⟨⟩
theorem tw513539340372762803 : True := ⟨⟩
theorem tw776536282265443914 : True := ⟨⟩
theorem tw874696200176585608 : True := ⟨⟩
theorem tw974100049149525841 : True := ⟨⟩
theorem tw1037584758217403290 : True := ⟨⟩
theorem tw1038100500601103568 : True := ⟨⟩
theorem tw1101304569951247050 : True := ⟨⟩
theorem tw1135217659253546496 : True := ⟨⟩
theorem tw1160416711923544102 : True := ⟨⟩
theorem tw1161038397355353593 : True := ⟨⟩
theorem tw1412749357116781819 : True := ⟨⟩
theorem tw1739945155293985836 : True := ⟨⟩
theorem tw1775072443625177211 : True := ⟨⟩
theorem tw1860089613491736987 : True := ⟨⟩
theorem tw1933209411270511158 : True := ⟨⟩
theorem tw1983726205707318485 : True := ⟨⟩
theorem tw2062226468473728442 : True := ⟨⟩
theorem tw2128671957036697117 : True := ⟨⟩
theorem tw2159213028828396141 : True := ⟨⟩
theorem tw2519672118813905538 : True := ⟨⟩
theorem tw2524685449373478274 : True := ⟨⟩
theorem tw2546136446903271147 : True := ⟨⟩
theorem tw2726307628292010720 : True := ⟨⟩
theorem tw2751214275033073432 : True := ⟨⟩
theorem tw2970249944438458600 : True := ⟨⟩
theorem tw3114046599012123490 : True := ⟨⟩
theorem tw3133246885891615301 : True := ⟨⟩
theorem tw3213325993136527405 : True := ⟨⟩
theorem tw3293486572554212100 : True := ⟨⟩
theorem tw3347203797518799866 : True := ⟨⟩
theorem tw3453272103904991185 : True := ⟨⟩
theorem tw3476639985933072157 : True := ⟨⟩
theorem tw3520002669982023555 : True := ⟨⟩
theorem tw3536550719243969638 : True := ⟨⟩
theorem tw3539867974598561119 : True := ⟨⟩
theorem tw3594548096289062021 : True := ⟨⟩
theorem tw3660653022739943707 : True := ⟨⟩
theorem tw3682930702369704654 : True := ⟨⟩
theorem tw3805828334045799648 : True := ⟨⟩
theorem tw3947985245111356786 : True := ⟨⟩
theorem tw4009259947123940135 : True := ⟨⟩
theorem tw4095798148898685235 : True := ⟨⟩
theorem tw4202334325764104732 : True := ⟨⟩
theorem tw4255598696668115057 : True := ⟨⟩
theorem tw4292114718942164196 : True := ⟨⟩
theorem tw4303378207420033727 : True := ⟨⟩
theorem tw4474351876391254132 : True := ⟨⟩
theorem tw4653129693963287895 : True := ⟨⟩
theorem tw5011020130894840791 : True := ⟨⟩
theorem tw5017021708373428423 : True := ⟨⟩
theorem tw5041909075378145785 : True := ⟨⟩
theorem tw5074398109748341922 : True := ⟨⟩
theorem tw5161407833296334855 : True := ⟨⟩
theorem tw5263733559498228844 : True := ⟨⟩
theorem tw5282722121435900894 : True := ⟨⟩
theorem tw5285406797803511729 : True := ⟨⟩
theorem tw5359113662112768737 : True := ⟨⟩
theorem tw5433115649439184444 : True := ⟨⟩
theorem tw5522515821204264355 : True := ⟨⟩
theorem tw5675154700821035703 : True := ⟨⟩
theorem tw5919046350405589423 : True := ⟨⟩
theorem tw5919391240904784329 : True := ⟨⟩
theorem tw6082654872638786787 : True := ⟨⟩
theorem tw6209337979928206837 : True := ⟨⟩
theorem tw6233971383265771636 : True := ⟨⟩
theorem tw6285091048159647086 : True := ⟨⟩
theorem tw6298443305408608651 : True := ⟨⟩
theorem tw6370163444411247752 : True := ⟨⟩
theorem tw6436947412339652413 : True := ⟨⟩
theorem tw6616777363863852706 : True := ⟨⟩
theorem tw6755181009978303813 : True := ⟨⟩
theorem tw6917103084786049743 : True := ⟨⟩
theorem tw7072390713523741764 : True := ⟨⟩
theorem tw7156370897202201910 : True := ⟨⟩
theorem tw7176990370728102621 : True := ⟨⟩
theorem tw7215542525510172142 : True := ⟨⟩
theorem tw7235647414134456017 : True := ⟨⟩
theorem tw7264541403694549318 : True := ⟨⟩
theorem tw7367486265412065767 : True := ⟨⟩
theorem tw7587852436141411884 : True := ⟨⟩
theorem tw7682976314821282112 : True := ⟨⟩
theorem tw7762466413193708038 : True := ⟨⟩
theorem tw7775795689304600997 : True := ⟨⟩
theorem tw7829104626856753887 : True := ⟨⟩
theorem tw8031996325075092662 : True := ⟨⟩
theorem tw8035086922706549111 : True := ⟨⟩
theorem tw8055089383333374087 : True := ⟨⟩
theorem tw8118177782137531577 : True := ⟨⟩
theorem tw8138262201634859569 : True := ⟨⟩
theorem tw8156638838178133046 : True := ⟨⟩
theorem tw8205085927170298735 : True := ⟨⟩
theorem tw8217206263470898989 : True := ⟨⟩
theorem tw8320268386297657522 : True := ⟨⟩
theorem tw8351738414751002614 : True := ⟨⟩
theorem tw8370531841217096201 : True := ⟨⟩
theorem tw8463568808392045228 : True := ⟨⟩
theorem tw8519849291772428568 : True := ⟨⟩
theorem tw8583252639311487184 : True := ⟨⟩
theorem tw8627526784932392215 : True := ⟨⟩
theorem tw8868804396443487434 : True := ⟨⟩
theorem tw8902021930052283701 : True := ⟨⟩
theorem tw9107945876183216726 : True := ⟨⟩
theorem tw9156358968493815483 : True := ⟨⟩
theorem tw9216133479310750670 : True := ⟨⟩
theorem tw9327325413354269313 : True := ⟨⟩
theorem tw9360669681745002901 : True := ⟨⟩
theorem tw9469722920152535841 : True := ⟨⟩
theorem tw9518915486148775179 : True := ⟨⟩
theorem tw9560160517631131872 : True := ⟨⟩
theorem tw9721078997807018911 : True := ⟨⟩
theorem tw9736646393063677978 : True := ⟨⟩
theorem tw9908840800428438609 : True := ⟨⟩
theorem tw10108558296110550526 : True := ⟨⟩
theorem tw10122029123490720035 : True := ⟨⟩
theorem tw10392889348935619041 : True := ⟨⟩
theorem tw10423284570088686176 : True := ⟨⟩
theorem tw10478615588254971100 : True := ⟨⟩
theorem tw10504397136317782818 : True := ⟨⟩
theorem tw10544247487917130914 : True := ⟨⟩
theorem tw10856679619808222595 : True := ⟨⟩
theorem tw10867246749218066757 : True := ⟨⟩
theorem tw11097348035925746409 : True := ⟨⟩
theorem tw11143397506938733603 : True := ⟨⟩
theorem tw11153023639922874558 : True := ⟨⟩
theorem tw11171196229301585996 : True := ⟨⟩
theorem tw11283241551681919168 : True := ⟨⟩
theorem tw11284112787659760238 : True := ⟨⟩
theorem tw11314453789651377558 : True := ⟨⟩
theorem tw11428949547013188174 : True := ⟨⟩
theorem tw11617578360833261494 : True := ⟨⟩
theorem tw11793303826123874203 : True := ⟨⟩
theorem tw11797490481923442259 : True := ⟨⟩
theorem tw11901037155009831187 : True := ⟨⟩
theorem tw11947091826204119330 : True := ⟨⟩
theorem tw11962912937123261937 : True := ⟨⟩
theorem tw11966888056073762933 : True := ⟨⟩
theorem tw12104588195620144391 : True := ⟨⟩
theorem tw12197233011533552311 : True := ⟨⟩
theorem tw12315174935972776712 : True := ⟨⟩
theorem tw12374301178207574185 : True := ⟨⟩
theorem tw12458263265576066341 : True := ⟨⟩
theorem tw12471908124142452675 : True := ⟨⟩
theorem tw12482056907910848311 : True := ⟨⟩
theorem tw12566460627873558119 : True := ⟨⟩
theorem tw12658801558580534298 : True := ⟨⟩
theorem tw12682477489690741122 : True := ⟨⟩
theorem tw12778307710572413672 : True := ⟨⟩
theorem tw13016932216596320276 : True := ⟨⟩
theorem tw13041109092015227257 : True := ⟨⟩
theorem tw13049863237666839874 : True := ⟨⟩
theorem tw13087864559823902643 : True := ⟨⟩
theorem tw13166987593517617712 : True := ⟨⟩
theorem tw13174615447425674250 : True := ⟨⟩
theorem tw13202640111802500264 : True := ⟨⟩
theorem tw13363635289994112551 : True := ⟨⟩
theorem tw13400031832003251468 : True := ⟨⟩
theorem tw13485055827167315740 : True := ⟨⟩
theorem tw13564222601231237456 : True := ⟨⟩
theorem tw13654215063344329368 : True := ⟨⟩
theorem tw13709447151152309090 : True := ⟨⟩
theorem tw13710390499915890492 : True := ⟨⟩
theorem tw13896042580247364394 : True := ⟨⟩
theorem tw14048478121550902331 : True := ⟨⟩
theorem tw14063397915876377526 : True := ⟨⟩
theorem tw14100283737563708646 : True := ⟨⟩
theorem tw14110841125821879206 : True := ⟨⟩
theorem tw14113552537771593792 : True := ⟨⟩
theorem tw14180655906268592680 : True := ⟨⟩
theorem tw14201993591102645564 : True := ⟨⟩
theorem tw14203333621334818318 : True := ⟨⟩
theorem tw14242736706681061750 : True := ⟨⟩
theorem tw14306905948415943855 : True := ⟨⟩
theorem tw14318257678194831466 : True := ⟨⟩
theorem tw14556530327628090868 : True := ⟨⟩
theorem tw14721923398074221298 : True := ⟨⟩
theorem tw14781587336984835750 : True := ⟨⟩
theorem tw14824546995802976581 : True := ⟨⟩
theorem tw14834144263535596724 : True := ⟨⟩
theorem tw14857682729327535217 : True := ⟨⟩
theorem tw14950876222656296802 : True := ⟨⟩
theorem tw15078884223651432785 : True := ⟨⟩
theorem tw15176906913159132555 : True := ⟨⟩
theorem tw15218849767831829102 : True := ⟨⟩
theorem tw15222214932895014202 : True := ⟨⟩
theorem tw15246378512717192375 : True := ⟨⟩
theorem tw15251547502674164425 : True := ⟨⟩
theorem tw15358201932535362698 : True := ⟨⟩
theorem tw15360920495383913349 : True := ⟨⟩
theorem tw15376195231654753724 : True := ⟨⟩
theorem tw15535719425879382199 : True := ⟨⟩
theorem tw15643614044448435277 : True := ⟨⟩
theorem tw15646218041593066474 : True := ⟨⟩
theorem tw15700018397549822491 : True := ⟨⟩
theorem tw15748548553025181005 : True := ⟨⟩
theorem tw15804137207175359732 : True := ⟨⟩
theorem tw15820310886190778700 : True := ⟨⟩
theorem tw15876720953610909082 : True := ⟨⟩
theorem tw16089464347801150414 : True := ⟨⟩
theorem tw16135227664098173296 : True := ⟨⟩
theorem tw16170781822184737397 : True := ⟨⟩
theorem tw16195816820305801605 : True := ⟨⟩
theorem tw16331942622150745279 : True := ⟨⟩
theorem tw16369511924699555616 : True := ⟨⟩
theorem tw16477841640335212077 : True := ⟨⟩
theorem tw16492919760353456737 : True := ⟨⟩
theorem tw16569311920856877736 : True := ⟨⟩
theorem tw16806899611097939774 : True := ⟨⟩
theorem tw16831148952439967500 : True := ⟨⟩
theorem tw16833189508320462439 : True := ⟨⟩
theorem tw16968913871748747962 : True := ⟨⟩
theorem tw17073232182957897540 : True := ⟨⟩
theorem tw17131943627921953058 : True := ⟨⟩
theorem tw17304279077130962760 : True := ⟨⟩
theorem tw17449863143139555983 : True := ⟨⟩
theorem tw17508665535769224514 : True := ⟨⟩
theorem tw17659634507220983892 : True := ⟨⟩
theorem tw17667160539933095100 : True := ⟨⟩
theorem tw17686162453026693286 : True := ⟨⟩
theorem tw17737142570074667054 : True := ⟨⟩
theorem tw17871876287192776345 : True := ⟨⟩
theorem tw17971882005416836882 : True := ⟨⟩
theorem tw18099039463657702495 : True := ⟨⟩
theorem tw18111607235874007572 : True := ⟨⟩
theorem tw18138442632709961394 : True := ⟨⟩
theorem tw18144683313002701685 : True := ⟨⟩
theorem tw18230630455758982419 : True := ⟨⟩
theorem tw18371925710115034579 : True := ⟨⟩
theorem tw18434344246521773189 : True := ⟨⟩
end PySem.W.Fast
open PySem PySem.W PyProof.Rows
set_option maxRecDepth 100000 in
set_option maxHeartbeats 0 in
theorem PySem.Challenge.cw_twoends_s01_answers_holds : PySem.Challenge.rw_twoends_s01_answers.Holds := by
  w_on; k_headS; (case hw => exact ⟨[.list [.int 0, .int 32, .int 0, .int 0, .int 0, .int 0, .int 0, .int 0, .int 0, .int 0, .int 0, .int 0, .int 0, .int 0, .int 0, .int 0, .int 0, .int 0, .int 0, .int 0, .int 0, .int 0, .int 0, .int 0, .int 0, .int 0, .int 0, .int 0, .int 0, .int 0, .int 0, .int 0, .int 0, .int 0, .int 32, .int 0, .int 0, .int 0, .int 0, .int 0, .int 0, .int 0, .int 0, .int 0, .int 0, .int 0, .int 0, .int 0, .int 0, .int 0, .int 0, .int 0, .int 0, .int 0, .int 0, .int 0, .int 0, .int 0, .int 0, .int 0, .int 0, .int 0, .int 0, .int 0, .int 0, .int 0, .int 0, .int 32, .int 0, .int 0, .int 0, .int 0, .int 0, .int 0, .int 0, .int 0, .int 0, .int 0, .int 0, .int 0, .int 0, .int 0, .int 0, .int 0, .int 0, .int 0, .int 0, .int 0, .int 0, .int 0, .int 0, .int 0, .int 0, .int 0, .int 0, .int 0, .int 0, .int 0, .int 0, .int 0]], by decide +kernel, by decide +kernel⟩)
  k_fillS
  refine Tw.attach_spec ⟨rfl, by decide, by decide⟩ (fun w h Y => PySem.W.kIn_of Y) ?F
  case F =>
    intro w mg fa h KX G hmg
    refine' Tw.at_in (x := "Mixer") KX (by k_is) ?_
    intro a_Mixer
    refine' Tw.at_in (x := "Handshake") KX (by k_is) ?_
    intro a_Handshake
    refine' Tw.at_in (x := "Greeting") KX (by k_is) ?_
    intro a_Greeting
    refine' Tw.at_in (x := "Session") KX (by k_is) ?_
    intro a_Session
    refine' Tw.at_in (x := "End") KX (by k_is) ?_
    intro a_End
    refine' Tw.at_in (x := "Identity") KX (by k_is) ?_
    intro a_Identity
    refine' Tw.at_in (x := "Line") KX (by k_is) ?_
    intro a_Line
    refine' Tw.at_in (x := "Reader") KX (by k_is) ?_
    intro a_Reader
    obtain ⟨f_number_of, d_number_of, F_number_of⟩ := Tw.fnt_mk KX G (x := "number_of") (st := Tw.s_number_of) (ps := ["octets"]) (by k_is) (by k_is) (by k_is) (by k_is) Tw.hb_number_of
    obtain ⟨f_octets_of, d_octets_of, F_octets_of⟩ := Tw.fnt_mk KX G (x := "octets_of") (st := Tw.s_octets_of) (ps := ["number", "size"]) (by k_is) (by k_is) (by k_is) (by k_is) Tw.hb_octets_of
    obtain ⟨f_words_of, d_words_of, F_words_of⟩ := Tw.fnt_mk KX G (x := "words_of") (st := Tw.s_words_of) (ps := ["octets"]) (by k_is) (by k_is) (by k_is) (by k_is) Tw.hb_words_of
    obtain ⟨f_octets_of_text, d_octets_of_text, F_octets_of_text⟩ := Tw.fnt_mk KX G (x := "octets_of_text") (st := Tw.s_octets_of_text) (ps := ["text"]) (by k_is) (by k_is) (by k_is) (by k_is) Tw.hb_octets_of_text
    obtain ⟨f_filled, d_filled, F_filled⟩ := Tw.fnt_mk KX G (x := "filled") (st := Tw.s_filled) (ps := ["octets", "size"]) (by k_is) (by k_is) (by k_is) (by k_is) Tw.hb_filled
    obtain ⟨f_inverse, d_inverse, F_inverse⟩ := Tw.fnt_mk KX G (x := "inverse") (st := Tw.s_inverse) (ps := ["value"]) (by k_is) (by k_is) (by k_is) (by k_is) Tw.hb_inverse
    obtain ⟨f_scalar_of, d_scalar_of, F_scalar_of⟩ := Tw.fnt_mk KX G (x := "scalar_of") (st := Tw.s_scalar_of) (ps := ["secret"]) (by k_is) (by k_is) (by k_is) (by k_is) Tw.hb_scalar_of
    obtain ⟨f_multiplied, d_multiplied, F_multiplied⟩ := Tw.fnt_mk KX G (x := "multiplied") (st := Tw.s_multiplied) (ps := ["scalar", "u"]) (by k_is) (by k_is) (by k_is) (by k_is) Tw.hb_multiplied
    obtain ⟨f_agreed, d_agreed, F_agreed⟩ := Tw.fnt_mk KX G (x := "agreed") (st := Tw.s_agreed) (ps := ["secret", "point"]) (by k_is) (by k_is) (by k_is) (by k_is) Tw.hb_agreed
    obtain ⟨f_public, d_public, F_public⟩ := Tw.fnt_mk KX G (x := "public") (st := Tw.s_public) (ps := ["secret"]) (by k_is) (by k_is) (by k_is) (by k_is) Tw.hb_public
    obtain ⟨f_worth_nothing, d_worth_nothing, F_worth_nothing⟩ := Tw.fnt_mk KX G (x := "worth_nothing") (st := Tw.s_worth_nothing) (ps := ["octets"]) (by k_is) (by k_is) (by k_is) (by k_is) Tw.hb_worth_nothing
    obtain ⟨f_mix, d_mix, F_mix⟩ := Tw.fnt_mk KX G (x := "mix") (st := Tw.s_mix) (ps := ["work", "a", "b", "c", "d", "x", "y"]) (by k_is) (by k_is) (by k_is) (by k_is) Tw.hb_mix
    obtain ⟨f_compressed, d_compressed, F_compressed⟩ := Tw.fnt_mk KX G (x := "compressed") (st := Tw.s_compressed) (ps := ["state", "block", "reached", "last"]) (by k_is) (by k_is) (by k_is) (by k_is) Tw.hb_compressed
    obtain ⟨f_blake, d_blake, F_blake⟩ := Tw.fnt_mk KX G (x := "blake") (st := Tw.s_blake) (ps := ["size", "key", "message"]) (by k_is) (by k_is) (by k_is) (by k_is) Tw.hb_blake
    obtain ⟨f_digest, d_digest, F_digest⟩ := Tw.fnt_mk KX G (x := "digest") (st := Tw.s_digest) (ps := ["message"]) (by k_is) (by k_is) (by k_is) (by k_is) Tw.hb_digest
    obtain ⟨f_mac, d_mac, F_mac⟩ := Tw.fnt_mk KX G (x := "mac") (st := Tw.s_mac) (ps := ["key", "message"]) (by k_is) (by k_is) (by k_is) (by k_is) Tw.hb_mac
    obtain ⟨f_head, d_head, F_head⟩ := Tw.fnt_mk KX G (x := "head") (st := Tw.s_head) (ps := ["kind"]) (by k_is) (by k_is) (by k_is) (by k_is) Tw.hb_head
    obtain ⟨f_mark_of, d_mark_of, F_mark_of⟩ := Tw.fnt_mk KX G (x := "mark_of") (st := Tw.s_mark_of) (ps := ["before", "number"]) (by k_is) (by k_is) (by k_is) (by k_is) Tw.hb_mark_of
    obtain ⟨f_marked, d_marked, F_marked⟩ := Tw.fnt_mk KX G (x := "marked") (st := Tw.s_marked) (ps := ["before", "number"]) (by k_is) (by k_is) (by k_is) (by k_is) Tw.hb_marked
    obtain ⟨f_is_well_marked, d_is_well_marked, F_is_well_marked⟩ := Tw.fnt_mk KX G (x := "is_well_marked") (st := Tw.s_is_well_marked) (ps := ["m", "kind", "size", "number"]) (by k_is) (by k_is) (by k_is) (by k_is) Tw.hb_is_well_marked
    obtain ⟨f_hmac, d_hmac, F_hmac⟩ := Tw.fnt_mk KX G (x := "hmac") (st := Tw.s_hmac) (ps := ["key", "message"]) (by k_is) (by k_is) (by k_is) (by k_is) Tw.hb_hmac
    obtain ⟨f_drawn, d_drawn, F_drawn⟩ := Tw.fnt_mk KX G (x := "drawn") (st := Tw.s_drawn) (ps := ["count", "key", "message"]) (by k_is) (by k_is) (by k_is) (by k_is) Tw.hb_drawn
    obtain ⟨f_Mixer___init__, d_Mixer___init__, F_Mixer___init__⟩ := Tw.met_in a_Mixer (x := "__init__") (qual := "Mixer.__init__") (st := Tw.s_Mixer___init__) (ps := ["self", "chain", "seen"]) (by k_is) (by k_is) (by k_is) (by k_is) (by k_is) Tw.hb_Mixer___init__
    obtain ⟨f_Mixer_twin, d_Mixer_twin, F_Mixer_twin⟩ := Tw.met_in a_Mixer (x := "twin") (qual := "Mixer.twin") (st := Tw.s_Mixer_twin) (ps := ["self"]) (by k_is) (by k_is) (by k_is) (by k_is) (by k_is) Tw.hb_Mixer_twin
    obtain ⟨f_Mixer_absorb, d_Mixer_absorb, F_Mixer_absorb⟩ := Tw.met_in a_Mixer (x := "absorb") (qual := "Mixer.absorb") (st := Tw.s_Mixer_absorb) (ps := ["self", "octets"]) (by k_is) (by k_is) (by k_is) (by k_is) (by k_is) Tw.hb_Mixer_absorb
    obtain ⟨f_Mixer_stir, d_Mixer_stir, F_Mixer_stir⟩ := Tw.met_in a_Mixer (x := "stir") (qual := "Mixer.stir") (st := Tw.s_Mixer_stir) (ps := ["self", "octets"]) (by k_is) (by k_is) (by k_is) (by k_is) (by k_is) Tw.hb_Mixer_stir
    obtain ⟨f_Mixer_stir_for_key, d_Mixer_stir_for_key, F_Mixer_stir_for_key⟩ := Tw.met_in a_Mixer (x := "stir_for_key") (qual := "Mixer.stir_for_key") (st := Tw.s_Mixer_stir_for_key) (ps := ["self", "octets"]) (by k_is) (by k_is) (by k_is) (by k_is) (by k_is) Tw.hb_Mixer_stir_for_key
    obtain ⟨f_Mixer_stir_psk_for_key, d_Mixer_stir_psk_for_key, F_Mixer_stir_psk_for_key⟩ := Tw.met_in a_Mixer (x := "stir_psk_for_key") (qual := "Mixer.stir_psk_for_key") (st := Tw.s_Mixer_stir_psk_for_key) (ps := ["self", "psk"]) (by k_is) (by k_is) (by k_is) (by k_is) (by k_is) Tw.hb_Mixer_stir_psk_for_key
    obtain ⟨f_mixer_towards, d_mixer_towards, F_mixer_towards⟩ := Tw.fnt_mk KX G (x := "mixer_towards") (st := Tw.s_mixer_towards) (ps := ["number"]) (by k_is) (by k_is) (by k_is) (by k_is) Tw.hb_mixer_towards
    obtain ⟨f_quarter, d_quarter, F_quarter⟩ := Tw.fnt_mk KX G (x := "quarter") (st := Tw.s_quarter) (ps := ["work", "a", "b", "c", "d"]) (by k_is) (by k_is) (by k_is) (by k_is) Tw.hb_quarter
    obtain ⟨f_stream_block, d_stream_block, F_stream_block⟩ := Tw.fnt_mk KX G (x := "stream_block") (st := Tw.s_stream_block) (ps := ["key", "counter", "nonce"]) (by k_is) (by k_is) (by k_is) (by k_is) Tw.hb_stream_block
    obtain ⟨f_crypted, d_crypted, F_crypted⟩ := Tw.fnt_mk KX G (x := "crypted") (st := Tw.s_crypted) (ps := ["key", "nonce", "octets"]) (by k_is) (by k_is) (by k_is) (by k_is) Tw.hb_crypted
    obtain ⟨f_poly_tag, d_poly_tag, F_poly_tag⟩ := Tw.fnt_mk KX G (x := "poly_tag") (st := Tw.s_poly_tag) (ps := ["key", "message"]) (by k_is) (by k_is) (by k_is) (by k_is) Tw.hb_poly_tag
    obtain ⟨f_nonce_of, d_nonce_of, F_nonce_of⟩ := Tw.fnt_mk KX G (x := "nonce_of") (st := Tw.s_nonce_of) (ps := ["count"]) (by k_is) (by k_is) (by k_is) (by k_is) Tw.hb_nonce_of
    obtain ⟨f_tag_of, d_tag_of, F_tag_of⟩ := Tw.fnt_mk KX G (x := "tag_of") (st := Tw.s_tag_of) (ps := ["key", "nonce", "covered", "seen"]) (by k_is) (by k_is) (by k_is) (by k_is) Tw.hb_tag_of
    obtain ⟨f_seal, d_seal, F_seal⟩ := Tw.fnt_mk KX G (x := "seal") (st := Tw.s_seal) (ps := ["key", "count", "plain", "seen"]) (by k_is) (by k_is) (by k_is) (by k_is) Tw.hb_seal
    obtain ⟨f_unseal, d_unseal, F_unseal⟩ := Tw.fnt_mk KX G (x := "unseal") (st := Tw.s_unseal) (ps := ["key", "count", "sealed", "seen"]) (by k_is) (by k_is) (by k_is) (by k_is) Tw.hb_unseal
    obtain ⟨f_Handshake___init__, d_Handshake___init__, F_Handshake___init__⟩ := Tw.met_in a_Handshake (x := "__init__") (qual := "Handshake.__init__") (st := Tw.s_Handshake___init__) (ps := ["self", "mine", "moment", "mixer"]) (by k_is) (by k_is) (by k_is) (by k_is) (by k_is) Tw.hb_Handshake___init__
    obtain ⟨f_Greeting___init__, d_Greeting___init__, F_Greeting___init__⟩ := Tw.met_in a_Greeting (x := "__init__") (qual := "Greeting.__init__") (st := Tw.s_Greeting___init__) (ps := ["self", "theirs", "point", "stamp", "mixer"]) (by k_is) (by k_is) (by k_is) (by k_is) (by k_is) Tw.hb_Greeting___init__
    obtain ⟨f_new_handshake, d_new_handshake, F_new_handshake⟩ := Tw.fnt_mk KX G (x := "new_handshake") (st := Tw.s_new_handshake) (ps := ["identity", "mine", "moment"]) (by k_is) (by k_is) (by k_is) (by k_is) Tw.hb_new_handshake
    obtain ⟨f_first_message, d_first_message, F_first_message⟩ := Tw.fnt_mk KX G (x := "first_message") (st := Tw.s_first_message) (ps := ["identity", "handshake", "stamp"]) (by k_is) (by k_is) (by k_is) (by k_is) Tw.hb_first_message
    obtain ⟨f_read_first, d_read_first, F_read_first⟩ := Tw.fnt_mk KX G (x := "read_first") (st := Tw.s_read_first) (ps := ["identity", "m"]) (by k_is) (by k_is) (by k_is) (by k_is) Tw.hb_read_first
    obtain ⟨f_Session___init__, d_Session___init__, F_Session___init__⟩ := Tw.met_in a_Session (x := "__init__") (qual := "Session.__init__") (st := Tw.s_Session___init__) (ps := ["self", "mine", "theirs", "sending_key", "opening_key"]) (by k_is) (by k_is) (by k_is) (by k_is) (by k_is) Tw.hb_Session___init__
    obtain ⟨f_Session_is_used_up, d_Session_is_used_up, F_Session_is_used_up⟩ := Tw.met_in a_Session (x := "is_used_up") (qual := "Session.is_used_up") (st := Tw.s_Session_is_used_up) (ps := ["self"]) (by k_is) (by k_is) (by k_is) (by k_is) (by k_is) Tw.hb_Session_is_used_up
    obtain ⟨f_Session_packet, d_Session_packet, F_Session_packet⟩ := Tw.met_in a_Session (x := "packet") (qual := "Session.packet") (st := Tw.s_Session_packet) (ps := ["self", "plain"]) (by k_is) (by k_is) (by k_is) (by k_is) (by k_is) Tw.hb_Session_packet
    obtain ⟨f_Session_is_new, d_Session_is_new, F_Session_is_new⟩ := Tw.met_in a_Session (x := "is_new") (qual := "Session.is_new") (st := Tw.s_Session_is_new) (ps := ["self", "number"]) (by k_is) (by k_is) (by k_is) (by k_is) (by k_is) Tw.hb_Session_is_new
    obtain ⟨f_Session_accept, d_Session_accept, F_Session_accept⟩ := Tw.met_in a_Session (x := "accept") (qual := "Session.accept") (st := Tw.s_Session_accept) (ps := ["self", "m"]) (by k_is) (by k_is) (by k_is) (by k_is) (by k_is) Tw.hb_Session_accept
    obtain ⟨f_has_packet_form, d_has_packet_form, F_has_packet_form⟩ := Tw.fnt_mk KX G (x := "has_packet_form") (st := Tw.s_has_packet_form) (ps := ["m"]) (by k_is) (by k_is) (by k_is) (by k_is) Tw.hb_has_packet_form
    obtain ⟨f_key_of_second, d_key_of_second, F_key_of_second⟩ := Tw.fnt_mk KX G (x := "key_of_second") (st := Tw.s_key_of_second) (ps := ["mixer", "point", "with_moment", "with_secret", "psk"]) (by k_is) (by k_is) (by k_is) (by k_is) Tw.hb_key_of_second
    obtain ⟨f_second_message, d_second_message, F_second_message⟩ := Tw.fnt_mk KX G (x := "second_message") (st := Tw.s_second_message) (ps := ["identity", "greeting", "mine", "moment", "met"]) (by k_is) (by k_is) (by k_is) (by k_is) Tw.hb_second_message
    obtain ⟨f_answering_session, d_answering_session, F_answering_session⟩ := Tw.fnt_mk KX G (x := "answering_session") (st := Tw.s_answering_session) (ps := ["greeting", "mine"]) (by k_is) (by k_is) (by k_is) (by k_is) Tw.hb_answering_session
    obtain ⟨f_read_second, d_read_second, F_read_second⟩ := Tw.fnt_mk KX G (x := "read_second") (st := Tw.s_read_second) (ps := ["identity", "handshake", "m"]) (by k_is) (by k_is) (by k_is) (by k_is) Tw.hb_read_second
    obtain ⟨f_End___init__, d_End___init__, F_End___init__⟩ := Tw.met_in a_End (x := "__init__") (qual := "End.__init__") (st := Tw.s_End___init__) (ps := ["self", "identity"]) (by k_is) (by k_is) (by k_is) (by k_is) (by k_is) Tw.hb_End___init__
    obtain ⟨f_End_begin, d_End_begin, F_End_begin⟩ := Tw.met_in a_End (x := "begin") (qual := "End.begin") (st := Tw.s_End_begin) (ps := ["self", "mine", "moment", "stamp"]) (by k_is) (by k_is) (by k_is) (by k_is) (by k_is) Tw.hb_End_begin
    obtain ⟨f_End_take, d_End_take, F_End_take⟩ := Tw.met_in a_End (x := "take") (qual := "End.take") (st := Tw.s_End_take) (ps := ["self", "mine", "moment", "m"]) (by k_is) (by k_is) (by k_is) (by k_is) (by k_is) Tw.hb_End_take
    obtain ⟨f_End_take_first, d_End_take_first, F_End_take_first⟩ := Tw.met_in a_End (x := "take_first") (qual := "End.take_first") (st := Tw.s_End_take_first) (ps := ["self", "mine", "moment", "m"]) (by k_is) (by k_is) (by k_is) (by k_is) (by k_is) Tw.hb_End_take_first
    obtain ⟨f_End_is_later, d_End_is_later, F_End_is_later⟩ := Tw.met_in a_End (x := "is_later") (qual := "End.is_later") (st := Tw.s_End_is_later) (ps := ["self", "stamp"]) (by k_is) (by k_is) (by k_is) (by k_is) (by k_is) Tw.hb_End_is_later
    obtain ⟨f_End_take_second, d_End_take_second, F_End_take_second⟩ := Tw.met_in a_End (x := "take_second") (qual := "End.take_second") (st := Tw.s_End_take_second) (ps := ["self", "m"]) (by k_is) (by k_is) (by k_is) (by k_is) (by k_is) Tw.hb_End_take_second
    obtain ⟨f_End_make_current, d_End_make_current, F_End_make_current⟩ := Tw.met_in a_End (x := "make_current") (qual := "End.make_current") (st := Tw.s_End_make_current) (ps := ["self", "session"]) (by k_is) (by k_is) (by k_is) (by k_is) (by k_is) Tw.hb_End_make_current
    obtain ⟨f_End_take_packet, d_End_take_packet, F_End_take_packet⟩ := Tw.met_in a_End (x := "take_packet") (qual := "End.take_packet") (st := Tw.s_End_take_packet) (ps := ["self", "m"]) (by k_is) (by k_is) (by k_is) (by k_is) (by k_is) Tw.hb_End_take_packet
    obtain ⟨f_End_send, d_End_send, F_End_send⟩ := Tw.met_in a_End (x := "send") (qual := "End.send") (st := Tw.s_End_send) (ps := ["self", "d"]) (by k_is) (by k_is) (by k_is) (by k_is) (by k_is) Tw.hb_End_send
    obtain ⟨f_accepted, d_accepted, F_accepted⟩ := Tw.fnt_mk KX G (x := "accepted") (st := Tw.s_accepted) (ps := ["session", "m"]) (by k_is) (by k_is) (by k_is) (by k_is) Tw.hb_accepted
    obtain ⟨f_Identity___init__, d_Identity___init__, F_Identity___init__⟩ := Tw.met_in a_Identity (x := "__init__") (qual := "Identity.__init__") (st := Tw.s_Identity___init__) (ps := ["self", "secret", "peer", "psk", "shared"]) (by k_is) (by k_is) (by k_is) (by k_is) (by k_is) Tw.hb_Identity___init__
    obtain ⟨f_identity_with, d_identity_with, F_identity_with⟩ := Tw.fnt_mk KX G (x := "identity_with") (st := Tw.s_identity_with) (ps := ["secret", "peer", "psk"]) (by k_is) (by k_is) (by k_is) (by k_is) Tw.hb_identity_with
    obtain ⟨f_Line___init__, d_Line___init__, F_Line___init__⟩ := Tw.met_in a_Line (x := "__init__") (qual := "Line.__init__") (st := Tw.s_Line___init__) (ps := ["self"]) (by k_is) (by k_is) (by k_is) (by k_is) (by k_is) Tw.hb_Line___init__
    obtain ⟨f_Line_set_up, d_Line_set_up, F_Line_set_up⟩ := Tw.met_in a_Line (x := "set_up") (qual := "Line.set_up") (st := Tw.s_Line_set_up) (ps := ["self", "secret", "peer", "psk"]) (by k_is) (by k_is) (by k_is) (by k_is) (by k_is) Tw.hb_Line_set_up
    obtain ⟨f_Line_begin, d_Line_begin, F_Line_begin⟩ := Tw.met_in a_Line (x := "begin") (qual := "Line.begin") (st := Tw.s_Line_begin) (ps := ["self", "mine", "moment", "stamp"]) (by k_is) (by k_is) (by k_is) (by k_is) (by k_is) Tw.hb_Line_begin
    obtain ⟨f_Line_take, d_Line_take, F_Line_take⟩ := Tw.met_in a_Line (x := "take") (qual := "Line.take") (st := Tw.s_Line_take) (ps := ["self", "mine", "moment", "m"]) (by k_is) (by k_is) (by k_is) (by k_is) (by k_is) Tw.hb_Line_take
    obtain ⟨f_Line_send, d_Line_send, F_Line_send⟩ := Tw.met_in a_Line (x := "send") (qual := "Line.send") (st := Tw.s_Line_send) (ps := ["self", "d"]) (by k_is) (by k_is) (by k_is) (by k_is) (by k_is) Tw.hb_Line_send
    obtain ⟨f_Reader___init__, d_Reader___init__, F_Reader___init__⟩ := Tw.met_in a_Reader (x := "__init__") (qual := "Reader.__init__") (st := Tw.s_Reader___init__) (ps := ["self", "numbers"]) (by k_is) (by k_is) (by k_is) (by k_is) (by k_is) Tw.hb_Reader___init__
    obtain ⟨f_Reader_has_more, d_Reader_has_more, F_Reader_has_more⟩ := Tw.met_in a_Reader (x := "has_more") (qual := "Reader.has_more") (st := Tw.s_Reader_has_more) (ps := ["self"]) (by k_is) (by k_is) (by k_is) (by k_is) (by k_is) Tw.hb_Reader_has_more
    obtain ⟨f_Reader_number, d_Reader_number, F_Reader_number⟩ := Tw.met_in a_Reader (x := "number") (qual := "Reader.number") (st := Tw.s_Reader_number) (ps := ["self"]) (by k_is) (by k_is) (by k_is) (by k_is) (by k_is) Tw.hb_Reader_number
    obtain ⟨f_Reader_row, d_Reader_row, F_Reader_row⟩ := Tw.met_in a_Reader (x := "row") (qual := "Reader.row") (st := Tw.s_Reader_row) (ps := ["self"]) (by k_is) (by k_is) (by k_is) (by k_is) (by k_is) Tw.hb_Reader_row
    obtain ⟨f_parts_of, d_parts_of, F_parts_of⟩ := Tw.fnt_mk KX G (x := "parts_of") (st := Tw.s_parts_of) (ps := ["reader", "call"]) (by k_is) (by k_is) (by k_is) (by k_is) Tw.hb_parts_of
    obtain ⟨f_answer_of, d_answer_of, F_answer_of⟩ := Tw.fnt_mk KX G (x := "answer_of") (st := Tw.s_answer_of) (ps := ["line", "call", "parts"]) (by k_is) (by k_is) (by k_is) (by k_is) Tw.hb_answer_of
    obtain ⟨f_answers, d_answers, F_answers⟩ := Tw.fnt_mk KX G (x := "answers") (st := Tw.s_answers) (ps := ["calls"]) (by k_is) (by k_is) (by k_is) (by k_is) Tw.hb_answers
    have C_Mixer := Tw.cls_in KX G (attrs := ["chain", "seen"]) a_Mixer F_Mixer___init__ (by k_is) (by k_is) (by k_is) (by k_is) (by k_is) (by k_is) (by kernel_rfl)
    have C_Handshake := Tw.cls_in KX G (attrs := ["mine", "moment", "mixer"]) a_Handshake F_Handshake___init__ (by k_is) (by k_is) (by k_is) (by k_is) (by k_is) (by k_is) (by kernel_rfl)
    have C_Greeting := Tw.cls_in KX G (attrs := ["theirs", "point", "stamp", "mixer"]) a_Greeting F_Greeting___init__ (by k_is) (by k_is) (by k_is) (by k_is) (by k_is) (by k_is) (by kernel_rfl)
    have C_Session := Tw.cls_in KX G (attrs := ["mine", "theirs", "sending_key", "opening_key", "next_number", "greatest", "got"]) a_Session F_Session___init__ (by k_is) (by k_is) (by k_is) (by k_is) (by k_is) (by k_is) (by kernel_rfl)
    have C_End := Tw.cls_in KX G (attrs := ["identity", "latest_stamp", "handshake", "fresh", "current", "former"]) a_End F_End___init__ (by k_is) (by k_is) (by k_is) (by k_is) (by k_is) (by k_is) (by kernel_rfl)
    have C_Identity := Tw.cls_in KX G (attrs := ["secret", "own", "peer", "psk", "shared"]) a_Identity F_Identity___init__ (by k_is) (by k_is) (by k_is) (by k_is) (by k_is) (by k_is) (by kernel_rfl)
    have C_Line := Tw.cls_in KX G (attrs := ["end"]) a_Line F_Line___init__ (by k_is) (by k_is) (by k_is) (by k_is) (by k_is) (by k_is) (by kernel_rfl)
    have C_Reader := Tw.cls_in KX G (attrs := ["numbers", "at"]) a_Reader F_Reader___init__ (by k_is) (by k_is) (by k_is) (by k_is) (by k_is) (by k_is) (by kernel_rfl)
    have M_PRIME_curve := Tw.cni_mk KX G (x := "PRIME_curve") (z := ((57896044618658097711785492504343953926634992332820282019728792003956564819949 : Nat) : Int)) (by k_is)
    have M_BELOW_TOP_BIT := Tw.cni_mk KX G (x := "BELOW_TOP_BIT") (z := ((57896044618658097711785492504343953926634992332820282019728792003956564819967 : Nat) : Int)) (by k_is)
    have M_TOP_SCALAR_BIT := Tw.cni_mk KX G (x := "TOP_SCALAR_BIT") (z := ((28948022309329048855892746252171976963317496166410141009864396001978282409984 : Nat) : Int)) (by k_is)
    have M_CURVE_NUMBER := Tw.cni_mk KX G (x := "CURVE_NUMBER") (z := ((121665 : Nat) : Int)) (by k_is)
    have M_BASE := Tw.cni_mk KX G (x := "BASE") (z := ((9 : Nat) : Int)) (by k_is)
    have M_BLOCK_blake := Tw.cni_mk KX G (x := "BLOCK_blake") (z := ((64 : Nat) : Int)) (by k_is)
    have M_LOW_blake := Tw.cni_mk KX G (x := "LOW_blake") (z := ((4294967295 : Nat) : Int)) (by k_is)
    obtain ⟨t_START, M_START, Q_START⟩ := Tw.tup_in KX G (x := "START") (l := Sd16.START) (by k_is) (by kernel_rfl)
    obtain ⟨t_ORDERS, M_ORDERS, Q_ORDERS⟩ := Tw.tups_in KX G (x := "ORDERS") (l := Sd16.ORDERS) (by k_is) (by kernel_rfl)
    obtain ⟨t_LANES, M_LANES, Q_LANES⟩ := Tw.tups_in KX G (x := "LANES") (l := Tw.L_LANES) (by k_is) (by kernel_rfl)
    have M_FIRST := Tw.cni_mk KX G (x := "FIRST") (z := ((1 : Nat) : Int)) (by k_is)
    have M_SECOND := Tw.cni_mk KX G (x := "SECOND") (z := ((2 : Nat) : Int)) (by k_is)
    have M_PACKET := Tw.cni_mk KX G (x := "PACKET") (z := ((4 : Nat) : Int)) (by k_is)
    have M_MARK := Tw.cni_mk KX G (x := "MARK") (z := ((16 : Nat) : Int)) (by k_is)
    have M_LABEL := Tw.cns_mk KX G (x := "LABEL") (y := "mac1----") (by k_is)
    have M_CONSTRUCTION := Tw.cns_mk KX G (x := "CONSTRUCTION") (y := "Noise_IKpsk2_25519_ChaChaPoly_BLAKE2s") (by k_is)
    have M_IDENTIFIER := Tw.cns_mk KX G (x := "IDENTIFIER") (y := "WireGuard v1 zx2c4 Jason@zx2c4.com") (by k_is)
    have M_BLOCK_chacha := Tw.cni_mk KX G (x := "BLOCK_chacha") (z := ((64 : Nat) : Int)) (by k_is)
    have M_LOW_chacha := Tw.cni_mk KX G (x := "LOW_chacha") (z := ((4294967295 : Nat) : Int)) (by k_is)
    obtain ⟨t_CONSTANTS, M_CONSTANTS, Q_CONSTANTS⟩ := Tw.tup_in KX G (x := "CONSTANTS") (l := Tw.L_CONSTANTS) (by k_is) (by kernel_rfl)
    obtain ⟨t_QUARTERS, M_QUARTERS, Q_QUARTERS⟩ := Tw.tups_in KX G (x := "QUARTERS") (l := Tw.L_QUARTERS) (by k_is) (by kernel_rfl)
    have M_PRIME_poly := Tw.cni_mk KX G (x := "PRIME_poly") (z := ((1361129467683753853853498429727072845819 : Nat) : Int)) (by k_is)
    have M_CLAMP := Tw.cni_mk KX G (x := "CLAMP") (z := ((21267647620597763993911028882763415551 : Nat) : Int)) (by k_is)
    have M_PART_poly := Tw.cni_mk KX G (x := "PART_poly") (z := ((16 : Nat) : Int)) (by k_is)
    have M_TAG := Tw.cni_mk KX G (x := "TAG") (z := ((16 : Nat) : Int)) (by k_is)
    have M_SIZE_first := Tw.cni_mk KX G (x := "SIZE_first") (z := ((148 : Nat) : Int)) (by k_is)
    have M_NUMBERS_END := Tw.cni_mk KX G (x := "NUMBERS_END") (z := ((1152921504606846976 : Nat) : Int)) (by k_is)
    have M_WINDOW := Tw.cni_mk KX G (x := "WINDOW") (z := ((128 : Nat) : Int)) (by k_is)
    have M_PART_session := Tw.cni_mk KX G (x := "PART_session") (z := ((16 : Nat) : Int)) (by k_is)
    have M_SHORTEST := Tw.cni_mk KX G (x := "SHORTEST") (z := ((32 : Nat) : Int)) (by k_is)
    have M_SIZE_second := Tw.cni_mk KX G (x := "SIZE_second") (z := ((92 : Nat) : Int)) (by k_is)
    have M_NOT_RIGHT := Tw.cni_mk KX G (x := "NOT_RIGHT") (z := ((0 : Nat) : Int)) (by k_is)
    have M_NOT_NOW := Tw.cni_mk KX G (x := "NOT_NOW") (z := (-3 : Int)) (by k_is)
    have M_DONE := Tw.cni_mk KX G (x := "DONE") (z := ((0 : Nat) : Int)) (by k_is)
    have M_TOO_LONG := Tw.cni_mk KX G (x := "TOO_LONG") (z := (-1 : Int)) (by k_is)
    have M_WORTHLESS := Tw.cni_mk KX G (x := "WORTHLESS") (z := (-2 : Int)) (by k_is)
    have M_MOST_TAKEN := Tw.cni_mk KX G (x := "MOST_TAKEN") (z := ((65568 : Nat) : Int)) (by k_is)
    have M_MOST_SENT := Tw.cni_mk KX G (x := "MOST_SENT") (z := ((65536 : Nat) : Int)) (by k_is)
    have M_SET_UP := Tw.cni_mk KX G (x := "SET_UP") (z := ((0 : Nat) : Int)) (by k_is)
    have M_BEGIN := Tw.cni_mk KX G (x := "BEGIN") (z := ((1 : Nat) : Int)) (by k_is)
    have M_TAKE := Tw.cni_mk KX G (x := "TAKE") (z := ((2 : Nat) : Int)) (by k_is)
    obtain ⟨t_SHAPES, M_SHAPES, Q_SHAPES⟩ := Tw.tups_in KX G (x := "SHAPES") (l := Tw.L_SHAPES) (by k_is) (by kernel_rfl)
    have N_enumerate := PySem.W.mg_none_of (n := "enumerate") KX G (by k_is)
    have N_len := PySem.W.mg_none_of (n := "len") KX G (by k_is)
    have N_list := PySem.W.mg_none_of (n := "list") KX G (by k_is)
    have N_max := PySem.W.mg_none_of (n := "max") KX G (by k_is)
    have N_ord := PySem.W.mg_none_of (n := "ord") KX G (by k_is)
    have N_range := PySem.W.mg_none_of (n := "range") KX G (by k_is)
    have N_zip := PySem.W.mg_none_of (n := "zip") KX G (by k_is)
    have T : Tw.Tx _ mg ⟨f_number_of, d_number_of, f_octets_of, d_octets_of, f_words_of, d_words_of, f_octets_of_text, d_octets_of_text, f_filled, d_filled, f_inverse, d_inverse, f_scalar_of, d_scalar_of, f_multiplied, d_multiplied, f_agreed, d_agreed, f_public, d_public, f_worth_nothing, d_worth_nothing, f_mix, d_mix, f_compressed, d_compressed, f_blake, d_blake, f_digest, d_digest, f_mac, d_mac, f_head, d_head, f_mark_of, d_mark_of, f_marked, d_marked, f_is_well_marked, d_is_well_marked, f_hmac, d_hmac, f_drawn, d_drawn, f_Mixer___init__, d_Mixer___init__, f_Mixer_twin, d_Mixer_twin, f_Mixer_absorb, d_Mixer_absorb, f_Mixer_stir, d_Mixer_stir, f_Mixer_stir_for_key, d_Mixer_stir_for_key, f_Mixer_stir_psk_for_key, d_Mixer_stir_psk_for_key, f_mixer_towards, d_mixer_towards, f_quarter, d_quarter, f_stream_block, d_stream_block, f_crypted, d_crypted, f_poly_tag, d_poly_tag, f_nonce_of, d_nonce_of, f_tag_of, d_tag_of, f_seal, d_seal, f_unseal, d_unseal, f_Handshake___init__, d_Handshake___init__, f_Greeting___init__, d_Greeting___init__, f_new_handshake, d_new_handshake, f_first_message, d_first_message, f_read_first, d_read_first, f_Session___init__, d_Session___init__, f_Session_is_used_up, d_Session_is_used_up, f_Session_packet, d_Session_packet, f_Session_is_new, d_Session_is_new, f_Session_accept, d_Session_accept, f_has_packet_form, d_has_packet_form, f_key_of_second, d_key_of_second, f_second_message, d_second_message, f_answering_session, d_answering_session, f_read_second, d_read_second, f_End___init__, d_End___init__, f_End_begin, d_End_begin, f_End_take, d_End_take, f_End_take_first, d_End_take_first, f_End_is_later, d_End_is_later, f_End_take_second, d_End_take_second, f_End_make_current, d_End_make_current, f_End_take_packet, d_End_take_packet, f_End_send, d_End_send, f_accepted, d_accepted, f_Identity___init__, d_Identity___init__, f_identity_with, d_identity_with, f_Line___init__, d_Line___init__, f_Line_set_up, d_Line_set_up, f_Line_begin, d_Line_begin, f_Line_take, d_Line_take, f_Line_send, d_Line_send, f_Reader___init__, d_Reader___init__, f_Reader_has_more, d_Reader_has_more, f_Reader_number, d_Reader_number, f_Reader_row, d_Reader_row, f_parts_of, d_parts_of, f_answer_of, d_answer_of, f_answers, d_answers, _, _, _, _, _, _, _, _, t_START, t_ORDERS, t_LANES, t_CONSTANTS, t_QUARTERS, t_SHAPES⟩ := ⟨F_number_of, F_octets_of, F_words_of, F_octets_of_text, F_filled, F_inverse, F_scalar_of, F_multiplied, F_agreed, F_public, F_worth_nothing, F_mix, F_compressed, F_blake, F_digest, F_mac, F_head, F_mark_of, F_marked, F_is_well_marked, F_hmac, F_drawn, F_Mixer___init__, F_Mixer_twin, F_Mixer_absorb, F_Mixer_stir, F_Mixer_stir_for_key, F_Mixer_stir_psk_for_key, F_mixer_towards, F_quarter, F_stream_block, F_crypted, F_poly_tag, F_nonce_of, F_tag_of, F_seal, F_unseal, F_Handshake___init__, F_Greeting___init__, F_new_handshake, F_first_message, F_read_first, F_Session___init__, F_Session_is_used_up, F_Session_packet, F_Session_is_new, F_Session_accept, F_has_packet_form, F_key_of_second, F_second_message, F_answering_session, F_read_second, F_End___init__, F_End_begin, F_End_take, F_End_take_first, F_End_is_later, F_End_take_second, F_End_make_current, F_End_take_packet, F_End_send, F_accepted, F_Identity___init__, F_identity_with, F_Line___init__, F_Line_set_up, F_Line_begin, F_Line_take, F_Line_send, F_Reader___init__, F_Reader_has_more, F_Reader_number, F_Reader_row, F_parts_of, F_answer_of, F_answers, C_Mixer, C_Handshake, C_Greeting, C_Session, C_End, C_Identity, C_Line, C_Reader, M_PRIME_curve, M_BELOW_TOP_BIT, M_TOP_SCALAR_BIT, M_CURVE_NUMBER, M_BASE, M_BLOCK_blake, M_LOW_blake, M_START, Q_START, M_ORDERS, Q_ORDERS, M_LANES, Q_LANES, M_FIRST, M_SECOND, M_PACKET, M_MARK, M_LABEL, M_CONSTRUCTION, M_IDENTIFIER, M_BLOCK_chacha, M_LOW_chacha, M_CONSTANTS, Q_CONSTANTS, M_QUARTERS, Q_QUARTERS, M_PRIME_poly, M_CLAMP, M_PART_poly, M_TAG, M_SIZE_first, M_NUMBERS_END, M_WINDOW, M_PART_session, M_SHORTEST, M_SIZE_second, M_NOT_RIGHT, M_NOT_NOW, M_DONE, M_TOO_LONG, M_WORTHLESS, M_MOST_TAKEN, M_MOST_SENT, M_SET_UP, M_BEGIN, M_TAKE, M_SHAPES, Q_SHAPES, N_enumerate, N_len, N_list, N_max, N_ord, N_range, N_zip⟩
    have e0 : some (Value.ref fa) = some (Value.ref f_answers) := Eq.trans (Eq.symm hmg) F_answers.mg
    have e1 : fa = f_answers := by injection e0 with e; injection e
    subst e1
    exact ⟨d_answers, _, Tw.bnd_of F_answers, fun base kb nb => Tw.ok_answers T⟩
