import PyProof.Rows.All
import Wide.All
import OpenK.AllK
import Wide.FinOn
import PyProof.EqAt
import PyProof.EqKinds
import PyProof.TupleCall
import KE.BitLaws
import Open.SpecLaws
import KE.OsHead
import KE.OsGo
import PySem.Challenge.RW_climbwall_s01_answers
set_option Elab.async false
set_option linter.all false
set_option maxRecDepth 100000
section
set_option Elab.async false
set_option linter.all false
set_option maxRecDepth 100000
namespace L2
open PySem PySem.Spec PyProof.Rows
abbrev Key := Sum Int Str
def keyIs : Key → Value → Bool
  | .inl k, v => Value.isInt k v
  | .inr x, v => Value.isStrOf x v
def keyH (w : World) : Key → Int
  | .inl k => hashInt k
  | .inr x => hashStr w x
theorem keyIs_shape : ∀ {k : Key} {v : Value}, keyIs k v = true → (∃ i t, k = Sum.inl i ∧ v = Value.int i t) ∨ (∃ x t, k = Sum.inr x ∧ v = Value.str x t)
  | .inl i, v, h => by
    obtain ⟨t, e⟩ := Value.isInt_shape (k := i) (v := v) h
    exact .inl ⟨i, t, rfl, e⟩
  | .inr x, v, h => by
    obtain ⟨t, e⟩ := Value.isStrOf_shape (x := x) (v := v) h
    exact .inr ⟨x, t, rfl, e⟩
theorem keyIs_int (i : Int) (t : Tok) : keyIs (.inl i) (.int i t) = true := by simp [keyIs, Value.isInt]
theorem keyIs_str (x : Str) (t : Tok) : keyIs (.inr x) (.str x t) = true := by simp [keyIs, Value.isStrOf]
theorem key_ll (a b : Int) : decide ((Sum.inl a : Key) = Sum.inl b) = (a == b) := by
  by_cases e : a = b
  · subst e; simp
  · have h : ¬ (Sum.inl a : Key) = Sum.inl b := fun q => e (Sum.inl.inj q)
    rw [decide_eq_false h]
    exact (beq_eq_false_iff_ne.mpr e).symm
theorem key_rr (a b : Str) : decide ((Sum.inr a : Key) = Sum.inr b) = decide (a = b) := by
  by_cases e : a = b
  · subst e; simp
  · have h : ¬ (Sum.inr a : Key) = Sum.inr b := fun q => e (Sum.inr.inj q)
    rw [decide_eq_false h, decide_eq_false e]
theorem key_lr (a : Int) (b : Str) : decide ((Sum.inl a : Key) = Sum.inr b) = false := decide_eq_false (fun q => nomatch q)
theorem key_rl (a : Str) (b : Int) : decide ((Sum.inr a : Key) = Sum.inl b) = false := decide_eq_false (fun q => nomatch q)
def mixKind (prog : Program) (w : World) : PySem.KeyKind prog w Key where
  is := keyIs
  hash := keyH w
  inj := fun v a b ha hb => by
    rcases keyIs_shape ha with ⟨i, t, rfl, rfl⟩ | ⟨x, t, rfl, rfl⟩
    · rcases keyIs_shape hb with ⟨j, u, rfl, e⟩ | ⟨y, u, rfl, e⟩
      · injection e with e1 _; rw [e1]
      · exact nomatch e
    · rcases keyIs_shape hb with ⟨j, u, rfl, e⟩ | ⟨y, u, rfl, e⟩
      · exact nomatch e
      · injection e with e1 _; rw [e1]
  byValue := fun k v h => by
    rcases keyIs_shape h with ⟨i, t, rfl, rfl⟩ | ⟨x, t, rfl, rfl⟩ <;> rfl
  pyHash := fun hv h => by
    rcases keyIs_shape hv with ⟨i, t, rfl, rfl⟩ | ⟨x, t, rfl, rfl⟩
    · exact wpAny_pyHash_int h
    · exact wpAny_pyHash_str h
  eqBool := fun hu hv h => by
    rcases keyIs_shape hu with ⟨i, t, rfl, rfl⟩ | ⟨x, t, rfl, rfl⟩
    · rcases keyIs_shape hv with ⟨j, u, rfl, rfl⟩ | ⟨y, u, rfl, rfl⟩
      · rw [key_ll] at h; exact wpAny_eqBool_int h
      · rw [key_lr] at h; exact SeqAt.EqAt.int_str i t y u _ _ _ _ h
    · rcases keyIs_shape hv with ⟨j, u, rfl, rfl⟩ | ⟨y, u, rfl, rfl⟩
      · rw [key_rl] at h; exact SeqAt.EqAt.str_int x t j u _ _ _ _ h
      · rw [key_rr] at h; exact wpAny_eqBool_str h
  «strs» := fun k x t v h => by
    rcases keyIs_shape h with ⟨i, u, rfl, e⟩ | ⟨y, u, rfl, e⟩
    · exact nomatch e
    · injection e with e1 _
      subst e1
      cases v <;> rfl
theorem mixKind_int (prog : Program) (w : World) (i : Int) (t : Tok) : (mixKind prog w).is (.inl i) (.int i t) = true := keyIs_int i t
theorem mixKind_str (prog : Program) (w : World) (x : Str) (t : Tok) : (mixKind prog w).is (.inr x) (.str x t) = true := keyIs_str x t
end L2
namespace L2
open PySem PySem.Spec PyProof.Rows
inductive V where
  | non | bl (b : Bool) | int (i : Int) | str (x : Str) | byt (b : Array UInt8) | flt (b : UInt64) | ref (a : Addr) | ty (n : String)
  deriving DecidableEq
def RelV : V → Value → Prop
  | .non, u => u = Value.none
  | .bl b, u => u = Value.bool b
  | .int i, u => ∃ t, u = Value.int i t
  | .str x, u => ∃ t, u = Value.str x t
  | .byt b, u => ∃ t, u = Value.bytes b t
  | .flt b, u => ∃ t, u = Value.float b t
  | .ref a, u => u = Value.ref a
  | .ty n, u => u = Value.type n
abbrev Vals : List V → List Value → Prop := Paired RelV
theorem Vals.length {xs : List V} {us : List Value} (r : Vals xs us) : xs.length = us.length := Paired.length r
theorem Vals.get : ∀ {xs : List V} {us : List Value} {i : Nat} {x : V}, Vals xs us → xs[i]? = some x → ∃ u, us[i]? = some u ∧ RelV x u
  | _, _, _, _, .nil, e => by simp at e
  | _, _, 0, _, .cons r _, e => by simp at e; subst e; exact ⟨_, rfl, r⟩
  | _, _, i + 1, x, .cons _ t, e => by
    obtain ⟨u, h1, h2⟩ := Vals.get (i := i) (x := x) t (by simpa using e)
    exact ⟨u, by simpa using h1, h2⟩
theorem Vals.set {x : V} {u : Value} (r : RelV x u) : ∀ {xs : List V} {us : List Value} (i : Nat), Vals xs us → Vals (xs.set i x) (us.set i u)
  | _, _, _, .nil => .nil
  | _, _, 0, .cons _ t => .cons r t
  | _, _, i + 1, .cons q t => .cons q (Vals.set r i t)
theorem Vals.append : ∀ {xs ys : List V} {us ws : List Value}, Vals xs us → Vals ys ws → Vals (xs ++ ys) (us ++ ws)
  | _, _, _, _, .nil, s => s
  | _, _, _, _, .cons r t, s => .cons r (Vals.append t s)
theorem Vals.take : ∀ {xs : List V} {us : List Value} (n : Nat), Vals xs us → Vals (xs.take n) (us.take n)
  | _, _, 0, _ => .nil
  | _, _, _ + 1, .nil => .nil
  | _, _, n + 1, .cons r t => .cons r (Vals.take n t)
theorem Vals.drop : ∀ {xs : List V} {us : List Value} (n : Nat), Vals xs us → Vals (xs.drop n) (us.drop n)
  | _, _, 0, r => r
  | _, _, _ + 1, .nil => .nil
  | _, _, n + 1, .cons _ t => Vals.drop n t
def RelO : Option V → Option Value → Prop
  | some v, some u => RelV v u
  | none, none => True
  | _, _ => False
def KV {κ : Type} : List (κ × V) → List (κ × Value) → Prop := Paired fun (p : κ × V) (q : κ × Value) => p.1 = q.1 ∧ RelV p.2 q.2
def kV : Key → V
  | .inl i => .int i
  | .inr x => .str x
inductive HO where
  | lst (xs : List V)
  | tup (xs : List V)
  | dK (kvs : List (Key × V)) | dT (kvs : List (List Key × V))
  | set (S : Int → Bool) (n : Nat)
  | ins (C dx : Addr) (fs : List (Str × V))
  | own (x : Addr)
  | xd (fs : List (Str × V))
  | met (f x : Addr)
  | rng (lo hi : Int)
  | frz (o : Obj) (u : HO)
  | tbl (ps : Array Value)
  | ext (φ : Heap → Prop)
abbrev Hp := Addr → Option HO
def upd (H : Hp) (a : Addr) (o : HO) : Hp := fun b => if b = a then some o else H b
theorem upd_same {H : Hp} {a : Addr} {o : HO} : upd H a o a = some o := by unfold upd; rw [if_pos rfl]
theorem upd_ne {H : Hp} {a b : Addr} {o : HO} (h : b ≠ a) : upd H a o b = H b := by unfold upd; rw [if_neg h]
theorem upd_upd {H : Hp} {a : Addr} {o u : HO} : upd (upd H a o) a u = upd H a u := by
  funext b; unfold upd; split <;> rfl
theorem ne_of {H : Hp} {a b : Addr} {o u : HO} (h : H a = some o) (h' : H b = some u) (d : o ≠ u) : a ≠ b := by
  intro e; subst e; rw [h] at h'; exact d (Option.some.inj h')
theorem ne_of_none {H : Hp} {a b : Addr} {o : HO} (h : H a = some o) (h' : H b = none) : a ≠ b := by
  intro e; subst e; rw [h] at h'; cases h'
section
variable (P : Program) (w : World)
def ObjOk (H : Hp) (h : Heap) (a : Addr) : HO → Prop
  | .lst xs => xs.length ≤ sizeLine ∧ ∃ (its : List Value) (n : Nat), Vals xs its ∧ h.get? a = some { cls := .type "list", data := .seq its.toArray n }
  | .tup xs => xs.length ≤ sizeLine ∧ ∃ its : List Value, Vals xs its ∧ IsTup h a its.toArray
  | .dK kvs => kvs.length ≤ sizeLine ∧ (a == sysModules) = false ∧ ∃ vs, KV kvs vs ∧ h.DictOf (mixKind P w) a vs
  | .dT kvs => kvs.length ≤ sizeLine ∧ (a == sysModules) = false ∧ ∃ xs : List (List Key × Addr × Value),
      Paired (fun (p : List Key × V) (q : List Key × Addr × Value) => p.1 = q.1 ∧ H q.2.1 = some (.tup (p.1.map kV)) ∧ RelV p.2 q.2.2) kvs xs ∧
      ∃ o es ep, h.get? a = some o ∧ o.ExactDict ∧ o.data = .dict es ep ∧ es.toList = xs.map (entryOfKey (tupleKind (mixKind P w))) ∧ (xs.map (·.1)).Nodup
  | .set S n => h.SetOf (intKind P w) a S n
  | .ins C dx fs => H dx = some (.own a) ∧ fs.length ≤ 1000 ∧ dx ≠ a ∧ h.get? a = some (PySem.W.instObj C dx) ∧
      ∃ mA, h.Ns1 dx mA ∧ (∀ f, RelO (fs.lookup f) (mA f)) ∧ PySem.Within mA (fs.map (·.1))
  | .own _ => ∃ o, h.get? a = some o
  | .xd fs => ∃ mA, h.Ns1 a mA ∧ ∀ f, RelO (fs.lookup f) (mA f)
  | .rng lo hi => ∃ t u v, h.get? a = some { cls := .type "range", data := .fields #[.int lo t, .int hi u, .int 1 v] }
  | .frz o u => h.get? a = some o ∧ ObjOk H h a u
  | .tbl ps => h.get? a = some { cls := .none, data := .fields ps }
  | .met f x => h.get? a = some (PySem.W.methodObj (.ref f) (.ref x))
  | .ext φ => φ h ∧ (∃ o, h.get? a = some o) ∧ ∀ h1 h2 : Heap, φ h1 → (∀ o, h1.get? a = some o → h2.get? a = some o) → φ h2
def HOk (H : Hp) (h : Heap) : Prop := ∀ a o, H a = some o → ObjOk P w H h a o
end
section
variable {P : Program} {w : World} {H H' : Hp} {h h' : Heap} {a : Addr} {o : HO}
theorem ObjOk.lt (x : ObjOk P w H h a o) : a < h.objs.size := by
  cases o with
  | lst xs => obtain ⟨_, _, _, _, e⟩ := x; exact Heap.lt_size e
  | tup xs => obtain ⟨_, _, _, p⟩ := x; exact p.lt
  | dK kvs => obtain ⟨_, _, _, _, o, _, _, e, _⟩ := x; exact Heap.lt_size e
  | dT kvs => obtain ⟨_, _, _, _, o, _, _, e, _⟩ := x; exact Heap.lt_size e
  | set S n => obtain ⟨o, _, _, _, e, _⟩ := x; exact Heap.lt_size e
  | ins C dx fs => obtain ⟨_, _, _, e, _⟩ := x; exact Heap.lt_size e
  | own y => obtain ⟨_, e⟩ := x; exact Heap.lt_size e
  | xd fs => obtain ⟨_, ⟨_, _, _, e, _⟩, _⟩ := x; exact Heap.lt_size e
  | rng lo hi => obtain ⟨_, _, _, e⟩ := x; exact Heap.lt_size e
  | frz ob u => obtain ⟨e, _⟩ := x; exact Heap.lt_size e
  | tbl ps => exact Heap.lt_size (show h.get? a = some _ from x)
  | met f y => exact Heap.lt_size (show h.get? a = some _ from x)
  | ext φ => obtain ⟨_, ⟨_, e⟩, _⟩ := x; exact Heap.lt_size e
theorem Paired.mapP {α β : Type} {F G : α → β → Prop} : ∀ {l₁ : List α} {l₂ : List β}, Paired F l₁ l₂ → (∀ a b, F a b → G a b) → Paired G l₁ l₂
  | _, _, .nil, _ => .nil
  | _, _, .cons r t, f => .cons (f _ _ r) (Paired.mapP t f)
theorem ObjOk.stay (x : ObjOk P w H h a o) (k : ∀ b u, (b = a ∨ H b = some (.own a)) → h.get? b = some u → h'.get? b = some u)
    (ho : ∀ b, H b = some (.own a) → H' b = some (.own a)) (ht : ∀ b xs, H b = some (.tup xs) → H' b = some (.tup xs)) : ObjOk P w H' h' a o := by
  induction o with
  | lst xs => obtain ⟨z, its, n, r, e⟩ := x; exact ⟨z, its, n, r, k _ _ (.inl rfl) e⟩
  | tup xs => obtain ⟨z, its, r, ob, e, c⟩ := x; exact ⟨z, its, r, ob, k _ _ (.inl rfl) e, c⟩
  | dK kvs => obtain ⟨z, y, vs, r, ob, es, ep, e, c⟩ := x; exact ⟨z, y, vs, r, ob, es, ep, k _ _ (.inl rfl) e, c⟩
  | dT kvs =>
    obtain ⟨z, y, xs, r, ob, es, ep, e, c⟩ := x
    exact ⟨z, y, xs, Paired.mapP r fun p q z => ⟨z.1, ht _ _ z.2.1, z.2.2⟩, ob, es, ep, k _ _ (.inl rfl) e, c⟩
  | set S n => obtain ⟨ob, es, ep, t, e, c⟩ := x; exact ⟨ob, es, ep, t, k _ _ (.inl rfl) e, c⟩
  | ins C dx fs =>
    obtain ⟨d, z, ne, e, mA, ⟨od, es, ep, e2, c⟩, r⟩ := x
    exact ⟨ho _ d, z, ne, k _ _ (.inl rfl) e, mA, ⟨od, es, ep, k _ _ (.inr d) e2, c⟩, r⟩
  | own y => obtain ⟨ob, e⟩ := x; exact ⟨ob, k _ _ (.inl rfl) e⟩
  | xd fs => obtain ⟨mA, ⟨od, es, ep, e, c⟩, r⟩ := x; exact ⟨mA, ⟨od, es, ep, k _ _ (.inl rfl) e, c⟩, r⟩
  | rng lo hi => obtain ⟨t, u, v, e⟩ := x; exact ⟨t, u, v, k _ _ (.inl rfl) e⟩
  | frz ob u ih => obtain ⟨e, q⟩ := x; exact ⟨k _ _ (.inl rfl) e, ih q⟩
  | tbl ps =>
    have e : h.get? a = some { cls := .none, data := .fields ps } := x
    show h'.get? a = some { cls := .none, data := .fields ps }
    exact k a _ (.inl rfl) e
  | met f y =>
    have e : h.get? a = some (PySem.W.methodObj (.ref f) (.ref y)) := x
    show h'.get? a = some (PySem.W.methodObj (.ref f) (.ref y))
    exact k a _ (.inl rfl) e
  | ext φ => obtain ⟨p, ⟨o, e⟩, st⟩ := x; exact ⟨st _ _ p fun o q => k _ _ (.inl rfl) q, ⟨o, k _ _ (.inl rfl) e⟩, st⟩
theorem HOk.lt (x : HOk P w H h) (e : H a = some o) : a < h.objs.size := (x a o e).lt
theorem HOk.fresh (x : HOk P w H h) (e : h.objs.size ≤ a) : H a = none := by
  cases q : H a with
  | none => rfl
  | some u => exact absurd (Nat.lt_of_lt_of_le (x.lt q) e) (Nat.lt_irrefl _)
theorem HOk.kept (x : HOk P w H h) (k : ∀ b u, h.get? b = some u → h'.get? b = some u) : HOk P w H h' := fun a o e =>
  (x a o e).stay (fun b u _ q => k b u q) (fun _ q => q) fun _ _ q => q
theorem HOk.laid (x : HOk P w H h) (k : ∀ b u, h.get? b = some u → h'.get? b = some u) (hp : h.objs.size ≤ a) (new : ObjOk P w (upd H a o) h' a o) : HOk P w (upd H a o) h' := fun b u e => by
  have hn := x.fresh hp
  by_cases hb : b = a
  · subst hb; rw [upd_same] at e; cases e; exact new
  · rw [upd_ne hb] at e
    exact (x b u e).stay (fun c v _ q => k c v q) (fun c q => by rw [upd_ne (ne_of_none q hn)]; exact q) fun c xs q => by rw [upd_ne (ne_of_none q hn)]; exact q
end
def Rd (H : Hp) (a : Addr) (u : HO) : Prop := H a = some u ∨ ∃ o, H a = some (.frz o u)
theorem Rd.of {H : Hp} {a : Addr} {u : HO} (h : H a = some u) : Rd H a u := .inl h
theorem Rd.ok {P : Program} {w : World} {H : Hp} {h : Heap} {a : Addr} {u : HO} (r : Rd H a u) (x : HOk P w H h) : ObjOk P w H h a u := by
  rcases r with r | ⟨o, r⟩
  · exact x a u r
  · obtain ⟨_, q⟩ := x a _ r
    exact q
def Mut : Option HO → Prop
  | some (.lst _) => True
  | some (.dK _) => True
  | some (.dT _) => True
  | some (.set _ _) => True
  | some (.ins _ _ _) => True
  | some (.ext _) => True
  | _ => False
section
variable {P : Program} {w : World} {H : Hp} {h h' : Heap} {x e : Addr} {o' : HO}
theorem HOk.write (ok : HOk P w H h) (mu : Mut (H x)) (he : e = x ∨ H e = some (.own x)) (k : ∀ b u, b ≠ e → h.get? b = some u → h'.get? b = some u) (heo : ∃ u, h'.get? e = some u)
    (new : ObjOk P w (upd H x o') h' x o') : HOk P w (upd H x o') h' := fun b u q => by
  have nown : ∀ c y, H c = some (.own y) → c ≠ x := fun c y r z => by subst z; rw [r] at mu; exact mu
  have ntup : ∀ c xs, H c = some (.tup xs) → c ≠ x := fun c xs r z => by subst z; rw [r] at mu; exact mu
  by_cases hb : b = x
  · subst hb; rw [upd_same] at q; cases q; exact new
  · rw [upd_ne hb] at q
    by_cases hbe : b = e
    · have q' : H b = some (.own x) := by
        rcases he with z | z
        · exact absurd (hbe.trans z) hb
        · rw [hbe]; exact z
      rw [q] at q'; cases q'
      obtain ⟨v, hv⟩ := heo
      exact ⟨v, by rw [hbe]; exact hv⟩
    · refine (ok b u q).stay (fun c v hc r => k c v ?_ r) (fun c r => by rw [upd_ne (nown c b r)]; exact r) fun c xs r => by rw [upd_ne (ntup c xs r)]; exact r
      rcases hc with rfl | hc
      · exact hbe
      · rintro rfl
        rcases he with z | z
        · exact nown c b hc z
        · rw [hc] at z; cases z; exact hb rfl
end
structure Un (fs ex : List Addr) (H H' : Hp) (h h' : Heap) : Prop where
  keep : ∀ b o, h.get? b = some o → H b = none → b ∉ fs → b ∉ ex → h'.get? b = some o
  slot : ∀ b o, h.get? b = some o → H b = none → b ∈ fs → b ∉ ex → ∃ sl, h'.get? b = some { o with slots := sl }
  free : ∀ b o, h.get? b = some o → H b = none → b ∉ ex → H' b = none
  there : ∀ b o, h.get? b = some o → b ∉ ex → ∃ o', h'.get? b = some o'
  tups : ∀ b xs, H b = some (.tup xs) → H' b = some (.tup xs)
  frzs : ∀ b o u, H b = some (.frz o u) → H' b = some (.frz o u)
  tbls : ∀ b ps, H b = some (.tbl ps) → ∃ more, H' b = some (.tbl (ps ++ more))
section
variable {fs fs' ex ex' : List Addr} {H H1 H2 : Hp} {h h1 h2 h' : Heap} {a x e : Addr} {o : HO}
theorem Un.any (u : Un fs ex H H1 h h1) {b : Addr} {ob : Obj} (q : h.get? b = some ob) (n : H b = none) (hx : b ∉ ex) : ∃ sl, h1.get? b = some { ob with slots := sl } := by
  by_cases hb : b ∈ fs
  · exact u.slot b ob q n hb hx
  · exact ⟨ob.slots, u.keep b ob q n hb hx⟩
theorem Un.trans (a : Un fs ex H H1 h h1) (b : Un fs ex H1 H2 h1 h2) : Un fs ex H H2 h h2 where
  keep := fun c ob q n hc hx => b.keep c ob (a.keep c ob q n hc hx) (a.free c ob q n hx) hc hx
  slot := fun c ob q n hc hx => by
    obtain ⟨sl, e1⟩ := a.slot c ob q n hc hx
    obtain ⟨sl', e2⟩ := b.slot c _ e1 (a.free c ob q n hx) hc hx
    exact ⟨sl', e2⟩
  free := fun c ob q n hx => by
    obtain ⟨o', e1⟩ := a.there c ob q hx
    exact b.free c o' e1 (a.free c ob q n hx) hx
  there := fun c ob q hx => by
    obtain ⟨o', e1⟩ := a.there c ob q hx
    exact b.there c o' e1 hx
  tups := fun c xs q => b.tups c xs (a.tups c xs q)
  frzs := fun c ob xs q => b.frzs c ob xs (a.frzs c ob xs q)
  tbls := fun c ps q => by
    obtain ⟨m1, e1⟩ := a.tbls c ps q
    obtain ⟨m2, e2⟩ := b.tbls c _ e1
    exact ⟨m1 ++ m2, by rw [e2, Array.append_assoc]⟩
theorem Un.kept (k : ∀ b u, h.get? b = some u → h'.get? b = some u) : Un fs ex H H h h' :=
  ⟨fun b ob q _ _ _ => k b ob q, fun b ob q _ _ _ => ⟨ob.slots, k b ob q⟩, fun _ _ _ n _ => n, fun b ob q _ => ⟨ob, k b ob q⟩, fun _ _ q => q, fun _ _ _ q => q, fun _ ps q => ⟨#[], by rw [q]; simp⟩⟩
theorem Un.refl : Un fs ex H H h h := Un.kept fun _ _ q => q
theorem Un.laid (k : ∀ b u, h.get? b = some u → h'.get? b = some u) (hp : h.objs.size ≤ a) (hn : H a = none) : Un fs ex H (upd H a o) h h' where
  keep := fun b u q _ _ _ => k b u q
  slot := fun b u q _ _ _ => ⟨u.slots, k b u q⟩
  free := fun b u q n _ => by rw [upd_ne (Nat.ne_of_lt (Nat.lt_of_lt_of_le (Heap.lt_size q) hp))]; exact n
  there := fun b u q _ => ⟨u, k b u q⟩
  tups := fun b xs q => by rw [upd_ne (ne_of_none q hn)]; exact q
  frzs := fun b u xs q => by rw [upd_ne (ne_of_none q hn)]; exact q
  tbls := fun b ps q => ⟨#[], by rw [upd_ne (ne_of_none q hn), q]; simp⟩
theorem Un.write (mu : Mut (H x)) (he : e = x ∨ H e = some (.own x)) (k : ∀ b u, b ≠ e → h.get? b = some u → h'.get? b = some u) (heo : ∃ u, h'.get? e = some u) : Un fs ex H (upd H x o) h h' := by
  have hx : ∀ b, H b = none → b ≠ x := fun b n z => by subst z; rw [n] at mu; exact mu
  have hb : ∀ b, H b = none → b ≠ e := fun b n z => by
    subst z
    rcases he with r | r
    · exact hx b n r
    · rw [n] at r; cases r
  have hm : ∀ b u, H b = some u → ¬ Mut (some u) → b ≠ x := fun b u q nm z => by subst z; rw [q] at mu; exact nm mu
  refine ⟨fun b u q n _ _ => k b u (hb b n) q, fun b u q n _ _ => ⟨u.slots, k b u (hb b n) q⟩, fun b u q n _ => by rw [upd_ne (hx b n)]; exact n, fun b u q _ => ?_,
    fun b xs q => by rw [upd_ne (hm b _ q fun z => z)]; exact q, fun b u xs q => by rw [upd_ne (hm b _ q fun z => z)]; exact q, fun b ps q => ⟨#[], by rw [upd_ne (hm b _ q fun z => z), q]; simp⟩⟩
  by_cases hbe : b = e
  · subst hbe; exact heo
  · exact ⟨u, k b u hbe q⟩
theorem Un.mono (u : Un fs ex H H1 h h1) (hs : ∀ b ∈ fs, b ∈ fs') (hx : ∀ b ∈ ex, b ∈ ex') : Un fs' ex' H H1 h h1 :=
  ⟨fun b ob q n hb he => u.keep b ob q n (fun z => hb (hs b z)) fun z => he (hx b z), fun _ _ q n _ he => u.any q n fun z => he (hx _ z), fun b ob q n he => u.free b ob q n fun z => he (hx b z), fun b ob q he => u.there b ob q fun z => he (hx b z), u.tups, u.frzs, u.tbls⟩
end
def trk (h : Heap) (H : Hp) : List Addr := (List.range h.objs.size).filter fun a => (H a).isSome
def hidT (h : Heap) (H : Hp) : Heap := PySem.W.hideAll h (trk h H)
theorem hidT_size (h : Heap) (H : Hp) : (hidT h H).objs.size = h.objs.size := PySem.W.hideAll_size _ _
theorem hidT_get {h : Heap} {H : Hp} {b : Addr} {o : Obj} (e : h.get? b = some o) (n : H b = none) : (hidT h H).get? b = some o :=
  PySem.W.hideAll_get _ e fun hm => by
    have q : (H b).isSome = true := (List.mem_filter.mp hm).2
    rw [n] at q; simp at q
theorem of_hidT {h : Heap} {H : Hp} {b : Addr} {o : Obj} (e : (hidT h H).get? b = some o) : h.get? b = some o ∧ H b = none := by
  have e' : h.get? b = some o := PySem.W.of_hideAll (trk h H) e
  refine ⟨e', ?_⟩
  cases q : H b with
  | none => rfl
  | some x =>
    have hm : b ∈ trk h H := List.mem_filter.mpr ⟨List.mem_range.mpr (Heap.lt_size e'), by simp [q]⟩
    have z : (hidT h H).get? b = none := PySem.W.hideAll_none (trk h H) hm
    rw [z] at e; cases e
def allNews (g h : Heap) (L : Addr) : List (Addr × Obj) := (List.range h.objs.size).filterMap fun a => if a = L ∨ (g.get? a).isSome = true then none else (h.get? a).map fun o => (a, o)
def rest (g h : Heap) (L d : Addr) : List (Addr × Obj) := (allNews g h L).filter fun p => decide (p.1 ≠ d)
end L2
namespace L2
open PySem PySem.Spec PyProof.Rows
structure Mod (K : PySem.W.Frag) (mg : Str → Option Value) (base : Heap) : Prop where
  kin : K.In base
  glob : base.Ns mainGlobals mg
  blt : ∃ mb, base.Ns builtinsNs mb ∧ ∀ x : Str, x ≠ "__name__" → mb x = bootBuiltins x
  nolimit : base.NoLimit
structure Cx where
  prog : Program
  w : World
  K : PySem.W.Frag
  mg : Str → Option Value
  base : Heap
  A : Around
  N : List Str
  s_0 : Shared
  H_0 : Hp
  env : Env
  outer : List Env
  stack : List Env
  ex : List Addr
  fn : Str → Bool
  calm : Bool
  pn : List (Addr × Obj)
  xe : Value → Shared → Prop
def frs (l : List Env) : List Addr := l.filterMap (·.frame)
abbrev Cx.fs (X : Cx) : List Addr := frs X.outer
def Vis (sc : Scope) (x : Str) : Prop := sc.names.lookup x = some .local ∨ sc.names.lookup x = some .cell ∨ sc.names.lookup x = some .free
def Loc (sc : Scope) (x : Str) : Prop := sc.names.lookup x = some .local ∨ sc.names.lookup x = some .cell
def Look (env : Env) (h : Heap) (m : Str → Option Value) (x : Str) (u : Value) : Prop :=
  (env.kindOf x = some .local ∧ m x = some u) ∨ ((env.kindOf x = some .cell ∨ env.kindOf x = some .free) ∧ ∃ c, env.cells.lookup x = some c ∧ h.IsCell c (some u))
structure Cx.Ok (X : Cx) : Prop where
  mod : Mod X.K X.mg X.base
  kind : X.env.scope.kind = .function
  glob : X.env.globals = mainGlobals
  blt : X.env.builtins = builtinsNs
  above : X.s_0.heap.objs.size ≤ X.env.locals
  inj : ∀ x y c, X.env.cells.lookup x = some c → X.env.cells.lookup y = some c → x = y
  has : ∀ x, (X.env.kindOf x = some .cell ∨ X.env.kindOf x = some .free) → ∃ c, X.env.cells.lookup x = some c
  cab : ∀ x c, X.fn x = true → X.env.cells.lookup x = some c → X.s_0.heap.objs.size ≤ c
  hd : X.calm = true → X.A.handled = none
  frames : X.A.frames = some X.stack
  stk : X.stack = X.outer ∨ (X.stack = X.env :: X.outer ∧ X.env.frame = some X.env.locals)
  exf : ∀ b ∈ X.ex, b ≠ X.env.locals ∧ ∀ x c, X.env.cells.lookup x = some c → c ≠ b
  bs : ∀ b o, X.base.get? b = some o → X.s_0.heap.get? b = some o ∧ X.H_0 b = none
  bsz : X.base.objs.size ≤ X.s_0.heap.objs.size
  noex : ∀ b o, X.base.get? b = some o → b ∉ X.ex
  exfs : ∀ b ∈ X.ex, b ∉ X.fs
  funs : X.s_0.heap.FunFrames X.base X.outer
  frf : ∀ b ∈ X.fs, X.H_0 b = none
structure Inv (X : Cx) (pins : List (Addr × Obj)) (σ : List (Option V)) (H : Hp) (s : Shared) : Prop where
  ok : X.Ok
  os : s.os = X.s_0.os
  bare : AllBare s.gens
  base : Un X.fs X.ex X.H_0 H X.s_0.heap s.heap
  loc : ∃ m, s.heap.Ns X.env.locals m ∧ ∀ (i : Nat) (x : Str) (v : V), X.N[i]? = some x → σ[i]? = some (some v) → Vis X.env.scope x → ∃ u, RelV v u ∧ Look X.env s.heap m x u
  cell : ∀ x c, X.env.cells.lookup x = some c → ∃ v, s.heap.IsCell c v
  free : H X.env.locals = none
  freeC : ∀ x c, X.env.cells.lookup x = some c → H c = none
  pin : ∀ p ∈ X.pn ++ pins, s.heap.get? p.1 = some p.2 ∧ H p.1 = none ∧ p.1 ≠ X.env.locals ∧ p.1 ∉ X.fs ∧ ∀ v, p.2.data ≠ .cell v
  hok : HOk X.prog X.w H s.heap
  len : σ.length = X.N.length
section
variable {X : Cx} {pins : List (Addr × Obj)} {σ : List (Option V)} {H H' : Hp} {s : Shared} {h' : Heap}
theorem Cx.Ok.nofr (ok : X.Ok) {b : Addr} {o : Obj} (e : X.base.get? b = some o) : b ∉ X.fs := fun hb => by
  have := (ok.funs.mem hb).1
  rw [e] at this; cases this
theorem Inv.bs (I : Inv X pins σ H s) : ∀ b o, X.base.get? b = some o → s.heap.get? b = some o ∧ H b = none := fun b o e =>
  ⟨I.base.keep b o (I.ok.bs b o e).1 (I.ok.bs b o e).2 (I.ok.nofr e) (I.ok.noex b o e), I.base.free b o (I.ok.bs b o e).1 (I.ok.bs b o e).2 (I.ok.noex b o e)⟩
theorem Inv.bk (I : Inv X pins σ H s) : ∀ b o, X.base.get? b = some o → s.heap.get? b = some o := fun b o e => (I.bs b o e).1
theorem Inv.mod (I : Inv X pins σ H s) : Mod X.K X.mg X.base := I.ok.mod
theorem Inv.kIn (I : Inv X pins σ H s) : X.K.In s.heap := I.ok.mod.kin.keeps I.bk
theorem Inv.nolimit (I : Inv X pins σ H s) : s.heap.NoLimit := I.ok.mod.nolimit.keeps I.bk
theorem Inv.lt (I : Inv X pins σ H s) : X.env.locals < s.heap.objs.size := let ⟨_, hn, _⟩ := I.loc; hn.lt
theorem Inv.sz (I : Inv X pins σ H s) : X.s_0.heap.objs.size ≤ s.heap.objs.size := Nat.le_trans I.ok.above (Nat.le_of_lt I.lt)
theorem Inv.nofs (I : Inv X pins σ H s) {a : Addr} (h : s.heap.objs.size ≤ a) : a ∉ X.fs := fun hb => by
  obtain ⟨_, o, ho, _⟩ := I.ok.funs.mem hb
  exact absurd (Nat.lt_of_lt_of_le (Heap.lt_size ho) (Nat.le_trans I.sz h)) (Nat.lt_irrefl _)
theorem Inv.cne (I : Inv X pins σ H s) : ∀ x c, X.env.cells.lookup x = some c → c ≠ X.env.locals := fun x c e z => by
  obtain ⟨v, o, ho, hd⟩ := I.cell x c e
  obtain ⟨m, ⟨o', es, ep, ho', hd', _⟩, _⟩ := I.loc
  rw [z, ho'] at ho; cases ho; rw [hd'] at hd; cases hd
theorem Inv.funs (I : Inv X pins σ H s) : s.heap.FunFrames X.base X.outer := by
  have all : ∀ (l : List Env), (∀ b ∈ frs l, b ∈ X.fs) → X.s_0.heap.FunFrames X.base l → s.heap.FunFrames X.base l := by
    intro l
    induction l with
    | nil => intro _ _; trivial
    | cons env r ih =>
      intro hs hl
      obtain ⟨hk, ⟨L, o, hf, hn, ho, hd⟩, hr⟩ := hl
      have hL : L ∈ X.fs := hs L (by unfold frs; rw [List.filterMap_cons, hf]; exact List.mem_cons_self)
      obtain ⟨sl, e⟩ := I.base.slot L o ho (I.ok.frf L hL) hL fun z => I.ok.exfs L z hL
      exact ⟨hk, ⟨L, _, hf, hn, e, hd⟩, ih (fun b hb => hs b (by unfold frs; rw [List.filterMap_cons, hf]; exact List.mem_cons_of_mem _ hb)) hr⟩
  exact all X.outer (fun _ hb => hb) I.ok.funs
theorem Inv.stack (I : Inv X pins σ H s) : s.heap.FunFrames X.base X.stack := by
  rcases I.ok.stk with e | ⟨e, hf⟩
  · rw [e]; exact I.funs
  · rw [e]
    obtain ⟨m, hn, _⟩ := I.loc
    refine .cons (by rw [I.ok.kind]; decide) hf hn ?_ I.funs
    exact Heap.get?_none_of_le (Nat.le_trans I.ok.bsz I.ok.above)
theorem Inv.stkSub (I : Inv X pins σ H s) : ∀ b ∈ frs X.stack, b ∈ X.env.locals :: X.fs := fun b hb => by
  rcases I.ok.stk with e | ⟨e, hf⟩
  · rw [e] at hb; exact List.mem_cons_of_mem _ hb
  · rw [e] at hb
    unfold frs at hb
    rw [List.filterMap_cons, hf] at hb
    exact hb
theorem Inv.stkFree (I : Inv X pins σ H s) : ∀ b ∈ frs X.stack, H b = none := fun b hb => by
  rcases List.mem_cons.mp (I.stkSub b hb) with e | hb
  · rw [e]; exact I.free
  · obtain ⟨_, o, ho, _⟩ := I.ok.funs.mem hb
    exact I.base.free b o ho (I.ok.frf b hb) fun z => I.ok.exfs b z hb
theorem Inv.step {g' : Array GenState} {t' : Nat} {d' : Drawn} {ch : List Addr} (I : Inv X pins σ H s)
    (hch : ∀ b ∈ ch, (b ∈ X.ex ∨ X.s_0.heap.objs.size ≤ b) ∧ b ≠ X.env.locals ∧ (∀ x c, X.env.cells.lookup x = some c → c ≠ b) ∧ ∀ p ∈ X.pn ++ pins, p.1 ≠ b)
    (keep : ∀ b o, b ≠ X.env.locals → b ∉ X.fs → b ∉ ch → s.heap.get? b = some o → H b = none → h'.get? b = some o)
    (slot : ∀ b o, b ≠ X.env.locals → b ∈ X.fs → b ∉ ch → s.heap.get? b = some o → H b = none → ∃ sl, h'.get? b = some { o with slots := sl }) (free : ∀ b o, b ∉ ch → s.heap.get? b = some o → H b = none → H' b = none)
    (there : ∀ b o, b ∉ ch → s.heap.get? b = some o → ∃ o', h'.get? b = some o')
    (tups : ∀ b xs, H b = some (.tup xs) → H' b = some (.tup xs)) (frzs : ∀ b o u, H b = some (.frz o u) → H' b = some (.frz o u)) (tbls : ∀ b ps, H b = some (.tbl ps) → ∃ more, H' b = some (.tbl (ps ++ more)))
    (ns : ∀ m, s.heap.Ns X.env.locals m → h'.Ns X.env.locals m) (hok : HOk X.prog X.w H' h') (hg : AllBare g') :
    Inv X pins σ H' { s with heap := h', gens := g', drawn := d', toks := t' } := by
  have neL : ∀ b o, X.s_0.heap.get? b = some o → b ≠ X.env.locals := fun b o e => Nat.ne_of_lt (Nat.lt_of_lt_of_le (Heap.lt_size e) I.ok.above)
  have neC : ∀ b o, X.s_0.heap.get? b = some o → b ∉ X.ex → b ∉ ch := fun b o e hx hb => by
    rcases (hch b hb).1 with z | z
    · exact hx z
    · exact absurd (Nat.lt_of_lt_of_le (Heap.lt_size e) z) (Nat.lt_irrefl _)
  have cellK : ∀ x c, X.env.cells.lookup x = some c → ∀ v, s.heap.IsCell c v → h'.IsCell c v := fun x c e v ⟨o, ho, hd⟩ => by
    have nch : c ∉ ch := fun z => (hch c z).2.2.1 x c e rfl
    by_cases hc : c ∈ X.fs
    · obtain ⟨sl, q⟩ := slot c o (I.cne x c e) hc nch ho (I.freeC x c e)
      exact ⟨_, q, hd⟩
    · exact ⟨o, keep c o (I.cne x c e) hc nch ho (I.freeC x c e), hd⟩
  refine ⟨I.ok, I.os, hg, ⟨fun b o e n hb hx => ?_, fun b o e n hb hx => ?_, fun b o e n hx => ?_, fun b o e hx => ?_, fun b xs e => tups b xs (I.base.tups b xs e), fun b o xs e => frzs b o xs (I.base.frzs b o xs e), fun b ps e => ?_⟩, ?_, fun x c e => ?_, ?_, fun x c e => ?_, fun p hp => ?_, hok, I.len⟩
  · exact keep b o (neL b o e) hb (neC b o e hx) (I.base.keep b o e n hb hx) (I.base.free b o e n hx)
  · obtain ⟨sl, e1⟩ := I.base.slot b o e n hb hx
    obtain ⟨sl', e2⟩ := slot b _ (neL b o e) hb (neC b o e hx) e1 (I.base.free b o e n hx)
    exact ⟨sl', e2⟩
  · obtain ⟨o', e1⟩ := I.base.there b o e hx
    exact free b o' (neC b o e hx) e1 (I.base.free b o e n hx)
  · obtain ⟨o', e1⟩ := I.base.there b o e hx
    exact there b o' (neC b o e hx) e1
  · obtain ⟨m1, e1⟩ := I.base.tbls b ps e
    obtain ⟨m2, e2⟩ := tbls b _ e1
    exact ⟨m1 ++ m2, by rw [e2, Array.append_assoc]⟩
  · obtain ⟨m, hn, hl⟩ := I.loc
    refine ⟨m, ns m hn, fun i x v e1 e2 e3 => ?_⟩
    obtain ⟨u, r, l⟩ := hl i x v e1 e2 e3
    refine ⟨u, r, ?_⟩
    rcases l with l | ⟨k, c, e, z⟩
    · exact .inl l
    · exact .inr ⟨k, c, e, cellK x c e _ z⟩
  · obtain ⟨v, z⟩ := I.cell x c e
    exact ⟨v, cellK x c e v z⟩
  · obtain ⟨m, ⟨o, _, _, ho, _⟩, _⟩ := I.loc
    exact free _ o (fun z => (hch _ z).2.1 rfl) ho I.free
  · obtain ⟨v, o, ho, hd⟩ := I.cell x c e
    exact free c o (fun z => (hch c z).2.2.1 x c e rfl) ho (I.freeC x c e)
  · obtain ⟨e, n, ne, nf, d⟩ := I.pin p hp
    have nch : p.1 ∉ ch := fun z => (hch p.1 z).2.2.2 p hp rfl
    exact ⟨keep p.1 p.2 ne nf nch e n, free p.1 p.2 nch e n, ne, nf, d⟩
theorem Inv.un {t' : Nat} (I : Inv X pins σ H s) (u : Un X.fs [] H H' s.heap h') (hok : HOk X.prog X.w H' h') : Inv X pins σ H' { s with heap := h', toks := t' } := by
  obtain ⟨m, ⟨o, es, ep, ho, r⟩, _⟩ := id I.loc
  obtain ⟨sl, hL⟩ := u.any ho I.free (by simp)
  exact I.step (g' := s.gens) (d' := s.drawn) (ch := []) (fun _ z => nomatch z) (fun b o _ hb _ e n => u.keep b o e n hb (by simp)) (fun b o _ hb _ e n => u.slot b o e n hb (by simp)) (fun b o _ e n => u.free b o e n (by simp)) (fun b o _ e => u.there b o e (by simp)) u.tups u.frzs u.tbls (fun m' hm => by
    obtain ⟨o', es', ep', ho', r'⟩ := hm
    rw [ho] at ho'; cases ho'
    exact ⟨_, es', ep', hL, r'⟩) hok I.bare
theorem Inv.call {g' : Array GenState} {t' : Nat} {d' : Drawn} {ch : List Addr} (I : Inv X pins σ H s) (u : Un (frs X.stack) ch H H' s.heap h') (hok : HOk X.prog X.w H' h') (hg : AllBare g')
    (hch : ∀ b ∈ ch, (b ∈ X.ex ∨ X.s_0.heap.objs.size ≤ b) ∧ b ≠ X.env.locals ∧ (∀ x c, X.env.cells.lookup x = some c → c ≠ b) ∧ ∀ p ∈ X.pn ++ pins, p.1 ≠ b) :
    Inv X pins σ H' { s with heap := h', gens := g', drawn := d', toks := t' } := by
  obtain ⟨m, ⟨o, es, ep, ho, r⟩, _⟩ := id I.loc
  obtain ⟨sl, hL⟩ := u.any ho I.free fun z => (hch _ z).2.1 rfl
  exact I.step (ch := ch) hch (fun b o hL hb hc e n => u.keep b o e n (fun z => (List.mem_cons.mp (I.stkSub b z)).elim hL hb) hc) (fun b o _ _ hc e n => u.any e n hc) (fun b o hc e n => u.free b o e n hc) (fun b o hc e => u.there b o e hc) u.tups u.frzs u.tbls (fun m' hm => by
    obtain ⟨o', es', ep', ho', r'⟩ := hm
    rw [ho] at ho'; cases ho'
    exact ⟨_, es', ep', hL, r'⟩) hok hg
theorem Inv.turned {t' : Nat} {it : Addr} (I : Inv X pins σ H s) (k : ∀ b o, b ≠ it → s.heap.get? b = some o → h'.get? b = some o) (hn : H it = none) (hL : it ≠ X.env.locals)
    (h1 : it ∈ X.ex ∨ X.s_0.heap.objs.size ≤ it) (h2 : ∀ x c, X.env.cells.lookup x = some c → c ≠ it) (h3 : ∀ p ∈ X.pn ++ pins, p.1 ≠ it) : Inv X pins σ H { s with heap := h', toks := t' } := by
  have nit : ∀ b u, H b = some u → b ≠ it := fun b u e z => by rw [z, hn] at e; cases e
  refine I.step (g' := s.gens) (d' := s.drawn) (ch := [it]) (fun b hb => ?_) (fun b o _ _ hc e _ => k b o (fun z => hc (by simp [z])) e) (fun b o _ _ hc e _ => ⟨o.slots, k b o (fun z => hc (by simp [z])) e⟩) (fun _ _ _ _ n => n)
    (fun b o hc e => ⟨o, k b o (fun z => hc (by simp [z])) e⟩) (fun _ _ e => e) (fun _ _ _ e => e) (fun b ps e => ⟨#[], by rw [e]; simp⟩) (fun m hm => ?_) (fun b u e => ?_) I.bare
  · have e : b = it := by simpa using hb
    subst e
    exact ⟨h1, hL, h2, h3⟩
  · obtain ⟨o, es, ep, ho, r⟩ := hm
    exact ⟨o, es, ep, k _ o (Ne.symm hL) ho, r⟩
  · refine (I.hok b u e).stay (fun c v hc q => k c v ?_ q) (fun _ q => q) fun _ _ q => q
    rcases hc with z | z
    · rw [z]; exact nit b u e
    · exact nit c _ z
theorem Inv.tok (I : Inv X pins σ H s) (t : Nat) : Inv X pins σ H { s with toks := t } := I.un (h' := s.heap) (t' := t) Un.refl I.hok
theorem Inv.kept {t' : Nat} (I : Inv X pins σ H s) (k : ∀ b u, s.heap.get? b = some u → h'.get? b = some u) : Inv X pins σ H { s with heap := h', toks := t' } := I.un (Un.kept k) (I.hok.kept k)
theorem Inv.laid {a : Addr} {o : HO} {t' : Nat} (I : Inv X pins σ H s) (k : ∀ b u, s.heap.get? b = some u → h'.get? b = some u) (hp : s.heap.objs.size ≤ a) (new : ObjOk X.prog X.w (upd H a o) h' a o) :
    Inv X pins σ (upd H a o) { s with heap := h', toks := t' } := I.un (Un.laid k hp (I.hok.fresh hp)) (I.hok.laid k hp new)
theorem Inv.write {x e : Addr} {o : HO} {t' : Nat} (I : Inv X pins σ H s) (mu : Mut (H x)) (he : e = x ∨ H e = some (.own x)) (k : ∀ b u, b ≠ e → s.heap.get? b = some u → h'.get? b = some u) (heo : ∃ u, h'.get? e = some u)
    (new : ObjOk X.prog X.w (upd H x o) h' x o) : Inv X pins σ (upd H x o) { s with heap := h', toks := t' } := I.un (Un.write mu he k heo) (I.hok.write mu he k heo new)
theorem Inv.weak {σ' : List (Option V)} (I : Inv X pins σ H s) (hl : σ'.length = σ.length) (w : ∀ (i : Nat) v, σ'[i]? = some (some v) → σ[i]? = some (some v)) : Inv X pins σ' H s :=
  ⟨I.ok, I.os, I.bare, I.base, let ⟨m, hn, hl'⟩ := I.loc; ⟨m, hn, fun i x v e1 e2 e3 => hl' i x v e1 (w i v e2) e3⟩, I.cell, I.free, I.freeC, I.pin, I.hok, hl.trans I.len⟩
theorem Inv.pins_of {pins' : List (Addr × Obj)} (I : Inv X pins σ H s) (h : ∀ p ∈ pins', s.heap.get? p.1 = some p.2 ∧ H p.1 = none ∧ p.1 ≠ X.env.locals ∧ p.1 ∉ X.fs ∧ ∀ v, p.2.data ≠ .cell v) : Inv X pins' σ H s :=
  ⟨I.ok, I.os, I.bare, I.base, I.loc, I.cell, I.free, I.freeC, fun p hp => (List.mem_append.mp hp).elim (fun z => I.pin p (List.mem_append_left _ z)) (h p), I.hok, I.len⟩
theorem nodup_ix {N : List Str} (hN : N.Nodup) {i j : Nat} {x : Str} (a : N[i]? = some x) (b : N[j]? = some x) : i = j := by
  obtain ⟨h1, e1⟩ := List.getElem?_eq_some_iff.mp a
  obtain ⟨h2, e2⟩ := List.getElem?_eq_some_iff.mp b
  exact (List.getElem_inj hN).mp (e1.trans e2.symm)
theorem store_ok2 {M : Model} {A : Around} {E : Value → Shared → Prop} {i : Nat} {x : Str} {v : V} {u : Value} {Q : Unit → Shared → Prop} (I : Inv X pins σ H s) (hN : X.N.Nodup) (hi : X.N[i]? = some x) (hx : Loc X.env.scope x) (r : RelV v u)
    (h : ∀ s', Inv X pins (σ.set i (some v)) H s' → (∃ a, Heap.SameBut a s.heap s'.heap ∧ (a = X.env.locals ∨ X.env.cells.lookup x = some a)) → Q () s') (hf : X.fn x = true ∨ X.env.scope.names.lookup x = some .local := by first | exact .inl rfl | exact .inr rfl | assumption) : wpAny M A (storeName X.env x u) Q E s := by
  obtain ⟨m, hn, hl⟩ := id I.loc
  have hcls : (X.env.scope.kind == .class || (X.env.scope.kind == .module && X.env.locals != X.env.globals)) = false := by rw [I.ok.kind]; rfl
  have hiσ : i < σ.length := by rw [I.len]; exact (List.getElem?_eq_some_iff.mp hi).1
  have cne := I.cne
  have tracked : ∀ {a : Addr} {h' : Heap}, (∃ o, s.heap.get? a = some o ∧ H a = none) → Heap.SameBut a s.heap h' → HOk X.prog X.w H h' := fun {a h'} ha hs b ob e => by
    obtain ⟨_, _, hfree⟩ := ha
    refine (I.hok b ob e).stay (fun c w' hc q => (hs.2 c ?_).trans q) (fun _ q => q) fun _ _ q => q
    rintro rfl
    rcases hc with rfl | hc
    · rw [hfree] at e; cases e
    · rw [hfree] at hc; cases hc
  rcases hx with hk | hk
  · refine wpAny_storeName_local hk hn (fun h' hn' hs => ?_) hcls
    obtain ⟨oL, _, _, hoL, _⟩ := id hn
    refine h _ ⟨I.ok, I.os, I.bare, ⟨fun b o e n hb hx => ?_, fun b o e n hb hx => ?_, I.base.free, fun b o e hx => ?_, I.base.tups, I.base.frzs, I.base.tbls⟩, ⟨_, hn', fun j y v' e1 e2 e3 => ?_⟩, fun y c e => ?_, I.free, I.freeC, fun p hp => ?_, tracked ⟨oL, hoL, I.free⟩ hs, by simpa using I.len⟩ ⟨_, hs, .inl rfl⟩
    · exact (hs.2 b (Nat.ne_of_lt (Nat.lt_of_lt_of_le (Heap.lt_size e) I.ok.above))).trans (I.base.keep b o e n hb hx)
    · obtain ⟨sl, e1⟩ := I.base.slot b o e n hb hx
      exact ⟨sl, (hs.2 b (Nat.ne_of_lt (Nat.lt_of_lt_of_le (Heap.lt_size e) I.ok.above))).trans e1⟩
    · obtain ⟨o', e1⟩ := I.base.there b o e hx
      exact ⟨o', (hs.2 b (Nat.ne_of_lt (Nat.lt_of_lt_of_le (Heap.lt_size e) I.ok.above))).trans e1⟩
    · by_cases hj : j = i
      · subst hj
        rw [hi] at e1; cases e1
        rw [List.getElem?_set_self hiσ] at e2
        cases e2
        exact ⟨u, r, .inl ⟨hk, by simp⟩⟩
      · rw [List.getElem?_set_ne (Ne.symm hj)] at e2
        obtain ⟨u', r', q⟩ := hl j y v' e1 e2 e3
        refine ⟨u', r', ?_⟩
        rcases q with ⟨k, e⟩ | ⟨k, c, e, z⟩
        · refine .inl ⟨k, ?_⟩
          have : y ≠ x := fun e => hj (nodup_ix hN e1 (e ▸ hi))
          simp [this, e]
        · exact .inr ⟨k, c, e, z.sameBut hs (cne y c e)⟩
    · obtain ⟨w', z⟩ := I.cell y c e
      exact ⟨w', z.sameBut hs (cne y c e)⟩
    · obtain ⟨e, n, ne, nf, d⟩ := I.pin p hp
      exact ⟨(hs.2 p.1 ne).trans e, n, ne, nf, d⟩
  · have hfn : X.fn x = true := by
      rcases hf with z | z
      · exact z
      · rw [z] at hk; cases hk
    obtain ⟨c, hc⟩ := I.ok.has x (.inl hk)
    obtain ⟨w', z⟩ := I.cell x c hc
    refine wpAny_storeName_cell I.ok.kind hk hc z (fun h' hc' hs => ?_)
    obtain ⟨oc, hoc, hocd⟩ := id z
    refine h { s with heap := h' } ⟨I.ok, I.os, I.bare, ⟨fun b o e n hb hx => ?_, fun b o e n hb hx => ?_, I.base.free, fun b o e hx => ?_, I.base.tups, I.base.frzs, I.base.tbls⟩, ⟨m, hn.sameBut hs (Ne.symm (cne x c hc)), fun j y v' e1 e2 e3 => ?_⟩, fun y c' e => ?_, I.free, I.freeC, fun p hp => ?_, tracked ⟨oc, hoc, I.freeC x c hc⟩ hs, by simpa using I.len⟩ ⟨c, hs, .inr hc⟩
    · exact (hs.2 b (Nat.ne_of_lt (Nat.lt_of_lt_of_le (Heap.lt_size e) (I.ok.cab x c hfn hc)))).trans (I.base.keep b o e n hb hx)
    · obtain ⟨sl, e1⟩ := I.base.slot b o e n hb hx
      exact ⟨sl, (hs.2 b (Nat.ne_of_lt (Nat.lt_of_lt_of_le (Heap.lt_size e) (I.ok.cab x c hfn hc)))).trans e1⟩
    · obtain ⟨o', e1⟩ := I.base.there b o e hx
      exact ⟨o', (hs.2 b (Nat.ne_of_lt (Nat.lt_of_lt_of_le (Heap.lt_size e) (I.ok.cab x c hfn hc)))).trans e1⟩
    · by_cases hj : j = i
      · subst hj
        rw [hi] at e1; cases e1
        rw [List.getElem?_set_self hiσ] at e2
        cases e2
        exact ⟨u, r, .inr ⟨.inl hk, c, hc, hc'⟩⟩
      · rw [List.getElem?_set_ne (Ne.symm hj)] at e2
        obtain ⟨u', r', q⟩ := hl j y v' e1 e2 e3
        refine ⟨u', r', ?_⟩
        rcases q with q | ⟨k, c', e, z'⟩
        · exact .inl q
        · refine .inr ⟨k, c', e, z'.sameBut hs ?_⟩
          rintro rfl
          exact hj (nodup_ix hN e1 (I.ok.inj _ _ _ e hc ▸ hi))
    · by_cases hcc : c' = c
      · subst hcc; exact ⟨_, hc'⟩
      · obtain ⟨w2, z2⟩ := I.cell y c' e
        exact ⟨w2, z2.sameBut hs hcc⟩
    · obtain ⟨e, n, ne, nf, d⟩ := I.pin p hp
      refine ⟨(hs.2 p.1 ?_).trans e, n, ne, nf, d⟩
      intro q
      rw [q, hoc] at e
      have q' : oc = p.2 := Option.some.inj e
      exact d w' (by rw [← q']; exact hocd)
theorem store_ok {M : Model} {A : Around} {E : Value → Shared → Prop} {i : Nat} {x : Str} {v : V} {u : Value} {Q : Unit → Shared → Prop} (I : Inv X pins σ H s) (hN : X.N.Nodup) (hi : X.N[i]? = some x) (hx : Loc X.env.scope x) (r : RelV v u)
    (h : ∀ s', Inv X pins (σ.set i (some v)) H s' → Q () s') (hf : X.fn x = true ∨ X.env.scope.names.lookup x = some .local := by first | exact .inl rfl | exact .inr rfl | assumption) : wpAny M A (storeName X.env x u) Q E s :=
  store_ok2 I hN hi hx r (fun s' I' _ => h s' I') hf
theorem Inv.call' {s' : Shared} {ch : List Addr} (I : Inv X pins σ H s) (ho : s'.os = s.os) (u : Un (frs X.stack) ch H H' s.heap s'.heap) (hok : HOk X.prog X.w H' s'.heap) (hg : AllBare s'.gens)
    (hch : ∀ b ∈ ch, (b ∈ X.ex ∨ X.s_0.heap.objs.size ≤ b) ∧ b ≠ X.env.locals ∧ (∀ x c, X.env.cells.lookup x = some c → c ≠ b) ∧ ∀ p ∈ X.pn ++ pins, p.1 ≠ b) : Inv X pins σ H' s' := by
  obtain ⟨h', g', d', t', o'⟩ := s'
  have e : o' = s.os := ho
  subst e
  exact I.call (g' := g') (t' := t') (d' := d') u hok hg hch
end
abbrev XK := Value → Option Addr → Hp → Prop
abbrev St := List (Option V)
abbrev VK := V → Hp → Prop
abbrev TE := St → Hp → VK → Prop
abbrev TT := St → Hp → (Bool → Hp → Prop) → Prop
abbrev TA := St → Hp → (List V → Hp → Prop) → Prop
structure Ends where
  nx : St → Hp → Prop
  rt : VK
  bk : St → Hp → Prop := fun _ _ => False
  ct : St → Hp → Prop := fun _ _ => False
abbrev TS := Ends → St → Hp → Prop
def EP (X : Cx) (pins : List (Addr × Obj)) (σ : St) (Q : VK) (u : Value) (s' : Shared) : Prop := ∃ v H', Inv X pins σ H' s' ∧ RelV v u ∧ Q v H'
def TP (X : Cx) (pins : List (Addr × Obj)) (σ : St) (Q : Bool → Hp → Prop) (b : Bool) (s' : Shared) : Prop := ∃ H', Inv X pins σ H' s' ∧ Q b H'
def AP (X : Cx) (pins : List (Addr × Obj)) (σ : St) (Q : List V → Hp → Prop) (us : List Value) (s' : Shared) : Prop := ∃ vs H', Inv X pins σ H' s' ∧ Vals vs us ∧ Q vs H'
def SP (X : Cx) (pins : List (Addr × Obj)) (D : Ends) (f : Flow) (s' : Shared) : Prop :=
  match f with
  | .next => ∃ σ' H', Inv X pins σ' H' s' ∧ D.nx σ' H'
  | .brk => ∃ σ' H', Inv X pins σ' H' s' ∧ D.bk σ' H'
  | .cont => ∃ σ' H', Inv X pins σ' H' s' ∧ D.ct σ' H'
  | .ret u => ∃ v σ' H', Inv X pins σ' H' s' ∧ RelV v u ∧ D.rt v H'
def PE (X : Cx) (e : Expr) (t : TE) : Prop :=
  ∀ (pins : List (Addr × Obj)) (s : Shared) (σ : St) (H : Hp) (Q : VK), Inv X pins σ H s → t σ H Q → wpAny (model X.prog X.w) X.A (eval e X.env) (EP X pins σ Q) X.xe s
def PT (X : Cx) (e : Expr) (t : TT) : Prop :=
  ∀ (pins : List (Addr × Obj)) (s : Shared) (σ : St) (H : Hp) (Q : Bool → Hp → Prop), Inv X pins σ H s → t σ H Q → wpAny (model X.prog X.w) X.A (isTrue e X.env (eval e X.env)) (TP X pins σ Q) X.xe s
def PW (X : Cx) (e : Expr) (t : TT) : Prop :=
  ∀ (whole : Sem Value) (pins : List (Addr × Obj)) (s : Shared) (σ : St) (H : Hp) (Q : Bool → Hp → Prop), Inv X pins σ H s → t σ H Q → wpAny (model X.prog X.w) X.A (isTrue e X.env whole) (TP X pins σ Q) X.xe s
theorem PW.pt {X : Cx} {e : Expr} {t : TT} (h : PW X e t) : PT X e t := h _
def PA (X : Cx) (es : List Expr) (t : TA) : Prop :=
  ∀ (pos : Pos) (pins : List (Addr × Obj)) (s : Shared) (σ : St) (H : Hp) (Q : List V → Hp → Prop), Inv X pins σ H s → t σ H Q → wpAny (model X.prog X.w) X.A (spliced (backTo pos (starEach es X.env))) (AP X pins σ Q) X.xe s
def PS (X : Cx) (st : Stmt) (t : TS) : Prop :=
  ∀ (pins : List (Addr × Obj)) (s : Shared) (σ : St) (H : Hp) (D : Ends), Inv X pins σ H s → t D σ H → wpAny (model X.prog X.w) X.A (exec st X.env) (SP X pins D) X.xe s
def PSs (X : Cx) (st : List Stmt) (t : TS) : Prop :=
  ∀ (pins : List (Addr × Obj)) (s : Shared) (σ : St) (H : Hp) (D : Ends), Inv X pins σ H s → t D σ H → wpAny (model X.prog X.w) X.A (execs st X.env) (SP X pins D) X.xe s
theorem thn {α : Type} {t : Sem α} {Q Q' : α → Shared → Prop} {M : Model} {A : Around} {E : Value → Shared → Prop} {s : Shared} (h : wpAny M A t Q E s) (hQ : ∀ a s, Q a s → Q' a s) : wpAny M A t Q' E s := wpAny_mono h hQ fun _ _ x => x
end L2
namespace L2
open PySem PySem.Spec PyProof.Rows
section
variable {X : Cx}
def tVar (i : Nat) : TE := fun σ H Q => ∃ v, σ[i]? = some (some v) ∧ Q v H
def tC (v : V) : TE := fun _ H Q => Q v H
theorem pe_var {i : Nat} {x : Str} {pos : Pos} (hN : X.N[i]? = some x) (hv : Vis X.env.scope x) (hd : (x == ("__debug__" : Str)) = false := by decide) (hcd : (x == ("__classdict__" : Str)) = false := by decide) : PE X (.Name x pos) (tVar i) := by
  intro pins s σ H Q I h
  obtain ⟨v, e, h⟩ := h
  obtain ⟨m, hn, hl⟩ := I.loc
  obtain ⟨u, r, l⟩ := hl i x v hN e hv
  have fin : EP X pins σ Q u s := ⟨v, H, I, r, h⟩
  rcases l with ⟨hk, hm⟩ | ⟨hk, c, hc, hcell⟩
  · exact wpAny_Name (wpAny_loadName_local I.ok.kind hk hn hm fin) hd
  · rcases hk with hk | hk
    · exact wpAny_Name (wpAny_loadName_cell I.ok.kind hk hc hcell fin) hd
    · exact wpAny_Name (wpAny_loadName_free I.ok.kind hk hc hcell fin hcd) hd
theorem pe_int {i j pos} : PE X (.Constant (.int i) j pos) (tC (.int i)) := fun _ _ _ H _ I h => wpAny_Constant_int ⟨.int i, H, I.tok _, ⟨_, rfl⟩, h⟩
theorem pe_bl {b j pos} : PE X (.Constant (.bool b) j pos) (tC (.bl b)) := fun _ _ _ H _ I h => Constant_bool ⟨.bl b, H, I, rfl, h⟩
def Gl (X : Cx) (x : Str) : Prop := X.env.kindOf x = some .globalImplicit
theorem ld_glob {E : Value → Shared → Prop} {pins : List (Addr × Obj)} {s : Shared} {σ : St} {H : Hp} {x : Str} {u : Value} {pos : Pos} {Q : Value → Shared → Prop} (I : Inv X pins σ H s) (hg : Gl X x) (hm : X.mg x = some u) (h : Q u s)
    (hd : (x == ("__debug__" : Str)) = false := by decide) : wpAny (model X.prog X.w) X.A (eval (.Name x pos) X.env) Q E s :=
  Calls.Name_function_global I.ok.kind hg (Calls.loadGlobal_global (by rw [I.ok.glob]; exact I.mod.glob.keeps I.bk) hm h) hd
theorem ld_blt {E : Value → Shared → Prop} {pins : List (Addr × Obj)} {s : Shared} {σ : St} {H : Hp} {x : Str} {u : Value} {pos : Pos} {Q : Value → Shared → Prop} (I : Inv X pins σ H s) (hg : Gl X x) (hm : X.mg x = none) (hv : bootBuiltins x = some u) (h : Q u s)
    (hn : x ≠ "__name__" := by decide) (hd : (x == ("__debug__" : Str)) = false := by decide) : wpAny (model X.prog X.w) X.A (eval (.Name x pos) X.env) Q E s := by
  obtain ⟨mb, h1, h2⟩ := I.mod.blt
  exact Calls.Name_function_global I.ok.kind hg (Calls.loadGlobal_builtin (by rw [I.ok.glob]; exact I.mod.glob.keeps I.bk) hm (by rw [I.ok.blt]; exact h1.keeps I.bk) ((h2 x hn).trans hv) h) hd
theorem pe_glob {x : Str} {v : V} {u : Value} {pos : Pos} (hg : Gl X x) (hm : X.mg x = some u) (r : RelV v u) (hd : (x == ("__debug__" : Str)) = false := by decide) : PE X (.Name x pos) (tC v) :=
  fun _ _ _ H _ I h => ld_glob I hg hm ⟨v, H, I, r, h⟩ hd
variable {a b : Expr} {ta tb : TE} {pos : Pos}
def PC (X : Cx) (op : CmpOp) (a b : Expr) (t : TE) : Prop :=
  ∀ (pins : List (Addr × Obj)) (s : Shared) (σ : St) (H : Hp) (Q : VK), Inv X pins σ H s → t σ H Q →
    wpAny (model X.prog X.w) X.A (eval a X.env) (fun v s₁ => wpAny (model X.prog X.w) X.A (eval b X.env) (fun u s₂ => wpAny (model X.prog X.w) X.A (compareOp op v u) (EP X pins σ Q) X.xe s₂) X.xe s₁) X.xe s
theorem nobehind (b : Expr) {op : CmpOp} (h : op ≠ .In) (h2 : op ≠ .NotIn) : behindInMarks op b = false := by
  have e1 : (op == CmpOp.In) = false := by cases op <;> first | rfl | exact absurd rfl h
  have e2 : (op == CmpOp.NotIn) = false := by cases op <;> first | rfl | exact absurd rfl h2
  cases b <;> simp [behindInMarks, e1, e2]
def tB (t : TE) : TT := fun σ H Q => t σ H fun x H1 => ∃ c, x = .bl c ∧ Q c H1
theorem pt_cmp {op : CmpOp} {t : TE} (h : PC X op a b t) (h1 : behindInMarks op b = false := by first | exact nobehind _ (by decide) (by decide) | rfl) : PT X (.Compare a [op] [b] pos) (tB t) := by
  intro pins s σ H Q I hw
  refine wpAny_isTrue_Compare1 (thn (h pins s σ H _ I hw) fun v s1 h1 => thn h1 fun u s2 h2 => thn h2 fun c s3 ⟨x, H1, I1, r1, q1⟩ => ?_) h1
  obtain ⟨d, rfl, q⟩ := q1
  cases r1
  exact wpAny_truthy_bool ⟨H1, I1, q⟩
theorem pt_val {e : Expr} {t : TE} (h : PE X e t) (he : ∀ whole, isTrue e X.env whole = (do let v ← whole; standAt e.pos; holding [v] (truthy v)) := by intro _; rfl) : PT X e (tB t) := by
  intro pins s σ H Q I hw
  refine isTrue_plain (thn (h pins s σ H _ I hw) fun v s1 ⟨x, H1, I1, r1, q1⟩ => ?_) (he _)
  obtain ⟨d, rfl, q⟩ := q1
  cases r1
  exact wpAny_truthy_bool ⟨H1, I1, q⟩
variable {tA tB' : TT} {rest : List Expr}
def tAnd (t u : TT) : TT := fun σ H Q => t σ H fun c H1 => if c = true then u σ H1 Q else Q false H1
def tOr (t u : TT) : TT := fun σ H Q => t σ H fun c H1 => if c = true then Q true H1 else u σ H1 Q
def tNot (t : TT) : TT := fun σ H Q => t σ H fun c H1 => Q (!c) H1
theorem pw_and1 (ha : PT X a tA) : PW X (.BoolOp .And [a] pos) tA := by
  intro wh pins s σ H Q I h
  refine isTrue_and (thn (ha pins s σ H Q I h) fun c s1 e => ?_)
  cases c with
  | true => exact isTrue_and_nil e
  | false => exact e
theorem pw_or1 (ha : PT X a tA) : PW X (.BoolOp .Or [a] pos) tA := by
  intro wh pins s σ H Q I h
  refine isTrue_or (thn (ha pins s σ H Q I h) fun c s1 e => ?_)
  cases c with
  | false => exact isTrue_or_nil e
  | true => exact e
theorem pw_and (ha : PT X a tA) (hb : PW X (.BoolOp .And (b :: rest) pos) tB') : PW X (.BoolOp .And (a :: b :: rest) pos) (tAnd tA tB') := by
  intro wh pins s σ H Q I h
  refine isTrue_and (thn (ha pins s σ H _ I h) fun c s1 ⟨H1, I1, q1⟩ => ?_)
  cases c with
  | true => exact hb wh pins s1 σ H1 Q I1 q1
  | false => exact ⟨H1, I1, q1⟩
theorem pw_or (ha : PT X a tA) (hb : PW X (.BoolOp .Or (b :: rest) pos) tB') : PW X (.BoolOp .Or (a :: b :: rest) pos) (tOr tA tB') := by
  intro wh pins s σ H Q I h
  refine isTrue_or (thn (ha pins s σ H _ I h) fun c s1 ⟨H1, I1, q1⟩ => ?_)
  cases c with
  | true => exact ⟨H1, I1, q1⟩
  | false => exact hb wh pins s1 σ H1 Q I1 q1
theorem pt_not (ha : PT X a tA) : PT X (.UnaryOp .Not a pos) (tNot tA) := by
  intro pins s σ H Q I h
  exact isTrue_not (ha pins s σ H (fun c H1 => Q (!c) H1) I h)
def tAndV (ta tb : TE) : TE := fun σ H Q => ta σ H fun x H1 => ∃ c, x = .bl c ∧ if c = true then tb σ H1 Q else Q (.bl false) H1
theorem pe_one {op} {t : TE} (h : PE X a t) : PE X (.BoolOp op [a] pos) t := fun pins s σ H Q I hw => BoolOp_one (h pins s σ H Q I hw)
theorem pe_and (ha : PE X a ta) (hb : PE X (.BoolOp .And (b :: rest) pos) tb) : PE X (.BoolOp .And (a :: b :: rest) pos) (tAndV ta tb) := by
  intro pins s σ H Q I h
  refine BoolOp_and (thn (ha pins s σ H _ I h) fun v s1 ⟨x, H1, I1, r1, q1⟩ => ?_)
  obtain ⟨c, rfl, q1⟩ := q1
  cases r1
  refine wpAny_truthy_bool ?_
  cases c with
  | true => exact hb pins s1 σ H1 Q I1 q1
  | false => exact ⟨.bl false, H1, I1, rfl, q1⟩
def tIf (t : TT) (ta tb : TE) : TE := fun σ H Q => t σ H fun c H1 => if c = true then ta σ H1 Q else tb σ H1 Q
theorem pe_ifExp {c : Expr} (hc : PT X c tA) (ha : PE X a ta) (hb : PE X b tb) : PE X (.IfExp c a b pos) (tIf tA ta tb) := by
  intro pins s σ H Q I h
  refine wpAny_IfExp (thn (hc pins s σ H _ I h) fun d s1 ⟨H1, I1, q1⟩ => ?_)
  cases d with
  | true => exact ha pins s1 σ H1 Q I1 q1
  | false => exact hb pins s1 σ H1 Q I1 q1
end
end L2
namespace L2
open PySem PySem.Spec PyProof.Rows
def SqL (K : PySem.W.Frag) (H : Hp) (a : Addr) (xs : List V) : Prop :=
  Rd H a (.lst xs) ∨
    ∃ (o : Obj) (its : Array Value) (n : Nat), K.lookup a = some o ∧ o.cls = .type "list" ∧ o.dict = none ∧ o.data = .seq its n ∧ its.size ≤ sizeLine ∧ Vals xs its.toList
def SqT (K : PySem.W.Frag) (H : Hp) (a : Addr) (xs : List V) : Prop :=
  Rd H a (.tup xs) ∨
    ∃ (o : Obj) (its : Array Value) (n : Nat), K.lookup a = some o ∧ o.cls = .type "tuple" ∧ o.data = .seq its n ∧ its.size ≤ sizeLine ∧ Vals xs its.toList
def absV : Value → Option V
  | .none => some .non
  | .bool b => some (.bl b)
  | .int i _ => some (.int i)
  | .str x _ => some (.str x)
  | .bytes b _ => some (.byt b)
  | .float b _ => some (.flt b)
  | .ref a => some (.ref a)
  | .type n => some (.ty n)
  | _ => none
theorem RelV.abs {x : V} {u : Value} (r : RelV x u) : absV u = some x := by
  cases x with
  | non => cases r; rfl
  | bl _ => cases r; rfl
  | int _ => obtain ⟨t, rfl⟩ := r; rfl
  | str _ => obtain ⟨t, rfl⟩ := r; rfl
  | byt _ => obtain ⟨t, rfl⟩ := r; rfl
  | flt _ => obtain ⟨t, rfl⟩ := r; rfl
  | ref _ => cases r; rfl
  | ty _ => cases r; rfl
theorem RelV.inj {x y : V} {u : Value} (r : RelV x u) (q : RelV y u) : x = y := Option.some.inj (r.abs.symm.trans q.abs)
theorem Vals.inj : ∀ {xs ys : List V} {us : List Value}, Vals xs us → Vals ys us → xs = ys
  | _, _, _, .nil, .nil => rfl
  | _, _, _, .cons r t, .cons r' t' => by rw [r.inj r', Vals.inj t t']
section
variable {X : Cx} {pins : List (Addr × Obj)} {σ : St} {H : Hp} {s : Shared} {a : Addr} {xs ys : List V}
theorem SqL.of {K : PySem.W.Frag} (h : H a = some (.lst xs)) : SqL K H a xs := .inl (.inl h)
theorem SqT.of {K : PySem.W.Frag} (h : H a = some (.tup xs)) : SqT K H a xs := .inl (.inl h)
theorem Inv.list (I : Inv X pins σ H s) (h : SqL X.K H a xs) : ∃ its : List Value, Vals xs its ∧ PlainL s.heap a its.toArray ∧ xs.length ≤ sizeLine := by
  rcases h with h | ⟨o, its, n, hk, hc, hd, hs, hz, r⟩
  · obtain ⟨z, its, n, r, e⟩ := h.ok I.hok
    exact ⟨its, r, ⟨_, n, e, rfl, rfl, rfl⟩, z⟩
  · refine ⟨its.toList, r, ⟨o, n, I.kIn a o hk, hc, hd, by simpa using hs⟩, ?_⟩
    have e := r.length
    simp only [Array.length_toList] at e
    omega
theorem Inv.tuple (I : Inv X pins σ H s) (h : SqT X.K H a xs) : ∃ its : List Value, Vals xs its ∧ IsTup s.heap a its.toArray ∧ xs.length ≤ sizeLine := by
  rcases h with h | ⟨o, its, n, hk, hc, hs, hz, r⟩
  · obtain ⟨z, its, r, p⟩ := h.ok I.hok
    exact ⟨its, r, p, z⟩
  · refine ⟨its.toList, r, ⟨o, I.kIn a o hk, hc, n, by simpa using hs⟩, ?_⟩
    have e := r.length
    simp only [Array.length_toList] at e
    omega
theorem Inv.list_inj (I : Inv X pins σ H s) (h : SqL X.K H a xs) (h' : SqL X.K H a ys) : xs = ys := by
  obtain ⟨its, r, ⟨o, n, e, _, _, d⟩, _⟩ := I.list h
  obtain ⟨its', r', ⟨o', n', e', _, _, d'⟩, _⟩ := I.list h'
  rw [e] at e'; cases e'
  rw [d] at d'
  injection d' with d1 _
  have : its = its' := by simpa using congrArg Array.toList d1
  subst this
  exact r.inj r'
end
abbrev Cx.wish (X : Cx) (E : Value → Shared → Prop) : Cx := { X with xe := E }
abbrev Cx.nox (X : Cx) : Cx := X.wish fun _ _ => False
theorem Cx.Ok.wish {X : Cx} (ok : X.Ok) (E : Value → Shared → Prop) : (X.wish E).Ok :=
  ⟨ok.mod, ok.kind, ok.glob, ok.blt, ok.above, ok.inj, ok.has, ok.cab, ok.hd, ok.frames, ok.stk, ok.exf, ok.bs, ok.bsz, ok.noex, ok.exfs, ok.funs, ok.frf⟩
theorem Cx.Ok.unwish {X : Cx} {E : Value → Shared → Prop} (ok : (X.wish E).Ok) : X.Ok :=
  ⟨ok.mod, ok.kind, ok.glob, ok.blt, ok.above, ok.inj, ok.has, ok.cab, ok.hd, ok.frames, ok.stk, ok.exf, ok.bs, ok.bsz, ok.noex, ok.exfs, ok.funs, ok.frf⟩
section
variable {X : Cx} {pins : List (Addr × Obj)} {σ : St} {H : Hp} {s : Shared} {E : Value → Shared → Prop}
theorem Inv.wish (I : Inv X pins σ H s) (E : Value → Shared → Prop) : Inv (X.wish E) pins σ H s := ⟨I.ok.wish E, I.os, I.bare, I.base, I.loc, I.cell, I.free, I.freeC, I.pin, I.hok, I.len⟩
theorem Inv.unwish (I : Inv (X.wish E) pins σ H s) : Inv X pins σ H s := ⟨I.ok.unwish, I.os, I.bare, I.base, I.loc, I.cell, I.free, I.freeC, I.pin, I.hok, I.len⟩
theorem SP.unwish {D : Ends} {f : Flow} {s' : Shared} (h : SP (X.wish E) pins D f s') : SP X pins D f s' := by
  cases f with
  | next => obtain ⟨σ', H', I, q⟩ := h; exact ⟨σ', H', I.unwish, q⟩
  | brk => obtain ⟨σ', H', I, q⟩ := h; exact ⟨σ', H', I.unwish, q⟩
  | cont => obtain ⟨σ', H', I, q⟩ := h; exact ⟨σ', H', I.unwish, q⟩
  | ret u => obtain ⟨v, σ', H', I, r, q⟩ := h; exact ⟨v, σ', H', I.unwish, r, q⟩
theorem PE.nox {e : Expr} {t : TE} (h : PE X.nox e t) : PE X e t := fun pins s σ H Q I hw =>
  wpAny_mono (h pins s σ H Q (I.wish _) hw) (fun _ _ ⟨v, H', I', r, q⟩ => ⟨v, H', I'.unwish, r, q⟩) fun _ _ z => False.elim z
theorem PT.nox {e : Expr} {t : TT} (h : PT X.nox e t) : PT X e t := fun pins s σ H Q I hw =>
  wpAny_mono (h pins s σ H Q (I.wish _) hw) (fun _ _ ⟨H', I', q⟩ => ⟨H', I'.unwish, q⟩) fun _ _ z => False.elim z
theorem PSs.nox {st : List Stmt} {t : TS} (h : PSs X.nox st t) : PSs X st t := fun pins s σ H D I hw =>
  wpAny_mono (h pins s σ H D (I.wish _) hw) (fun _ _ q => q.unwish) fun _ _ z => False.elim z
end
section
variable {X : Cx} {st : Stmt} {rest : List Stmt} {t u : TS} {e : Expr} {te : TE} {pos : Pos}
def tNext : TS := fun D σ H => D.nx σ H
def tSeq (t u : TS) : TS := fun D σ H => t { D with nx := u D } σ H
theorem pss_nil : PSs X [] tNext := fun _ _ σ H _ I h => wpAny_execs_nil ⟨σ, H, I, h⟩
theorem pss_cons (h1 : PS X st t) (h2 : PSs X rest u) : PSs X (st :: rest) (tSeq t u) := by
  intro pins s σ H D I h
  refine wpAny_execs_cons (thn (h1 pins s σ H { D with nx := u D } I h) fun f s1 q => ?_)
  cases f with
  | next =>
    obtain ⟨σ', H', I', q⟩ := q
    exact h2 pins s1 σ' H' D I' q
  | ret v => exact q
  | brk => exact q
  | cont => exact q
theorem pss_one (h1 : PS X st t) : PSs X [st] t := by
  intro pins s σ H D I h
  refine wpAny_execs_cons (thn (h1 pins s σ H D I h) fun f s1 q => ?_)
  cases f with
  | next => exact wpAny_execs_nil q
  | ret v => exact q
  | brk => exact q
  | cont => exact q
theorem Inv.quiet {pins : List (Addr × Obj)} {σ : St} {H : Hp} {s : Shared} (I : Inv X pins σ H s) : interactive X.env = false := by simp [interactive, I.ok.kind]
def tDrop (te : TE) : TS := fun D σ H => te σ H fun _ H1 => D.nx σ H1
theorem ps_expr (he : PE X e te) (hs : swapsWith e none pos.line X.env = pure false := by rfl) : PS X (.Expr e pos) (tDrop te) := by
  intro pins s σ H D I h
  exact wpAny_Expr_any (thn (he pins s σ H _ I h) fun v s1 ⟨x, H1, I1, r1, q1⟩ => ⟨σ, H1, I1, q1⟩) I.quiet hs
def tRet (te : TE) : TS := fun D σ H => te σ H D.rt
theorem ps_ret (he : PE X e te) : PS X (.Return (some e) pos) (tRet te) := by
  intro pins s σ H D I h
  exact wpAny_Return_some (thn (he pins s σ H _ I h) fun v s1 ⟨x, H1, I1, r1, q1⟩ => ⟨x, σ, H1, I1, r1, q1⟩)
def tIfS (c : TT) (t u : TS) : TS := fun D σ H => c σ H fun b H1 => if b = true then t D σ H1 else u D σ H1
theorem ps_if {c : Expr} {a b : List Stmt} {tc : TT} (hc : PT X c tc) (ha : PSs X a t) (hb : PSs X b u) : PS X (.If c a b pos) (tIfS tc t u) := by
  intro pins s σ H D I h
  refine wpAny_If (thn (hc pins s σ H _ I h) fun d s1 ⟨H1, I1, q1⟩ => ?_)
  cases d with
  | true => exact ha pins s1 σ H1 D I1 q1
  | false => exact hb pins s1 σ H1 D I1 q1
end
abbrev TG := V → St → Hp → (St → Hp → Prop) → Prop
abbrev TGs := List V → St → Hp → (St → Hp → Prop) → Prop
def PG (X : Cx) (target : Expr) (t : TG) : Prop :=
  ∀ (pins : List (Addr × Obj)) (s : Shared) (σ : St) (H : Hp) (v : V) (u : Value) (Q : St → Hp → Prop), Inv X pins σ H s → RelV v u → t v σ H Q →
    wpAny (model X.prog X.w) X.A (assign target X.env u) (fun _ s' => ∃ σ' H', Inv X pins σ' H' s' ∧ Q σ' H') X.xe s
def PGs (X : Cx) (ts : List Expr) (t : TGs) : Prop :=
  ∀ (pins : List (Addr × Obj)) (s : Shared) (σ : St) (H : Hp) (vs : List V) (us : List Value) (Q : St → Hp → Prop), Inv X pins σ H s → Vals vs us → t vs σ H Q →
    wpAny (model X.prog X.w) X.A (assignInOrder ((assignEach ts X.env).map (·.2)) us) (fun _ s' => ∃ σ' H', Inv X pins σ' H' s' ∧ Q σ' H') X.xe s
abbrev TIp := V → V → Hp → VK → Prop
def PIp (X : Cx) (op : Operator) (t : TIp) : Prop :=
  ∀ (pins : List (Addr × Obj)) (s : Shared) (σ : St) (H : Hp) (x y : V) (v u : Value) (Q : VK), Inv X pins σ H s → RelV x v → RelV y u → t x y H Q →
    wpAny (model X.prog X.w) X.A (inplaceOp op v u) (EP X pins σ Q) X.xe s
section
variable {X : Cx} {pos : Pos}
def gName (i : Nat) : TG := fun v σ H Q => Q (σ.set i (some v)) H
theorem pg_name {i : Nat} {x : Str} (hN : X.N.Nodup) (hi : X.N[i]? = some x) (hx : Loc X.env.scope x) (hf : X.fn x = true ∨ X.env.scope.names.lookup x = some .local := by first | exact .inl rfl | exact .inr rfl | assumption) : PG X (.Name x pos) (gName i) := by
  intro pins s σ H v u Q I r h
  exact wpAny_assign_Name (store_ok I hN hi hx r (fun s' I' => ⟨_, H, I', h⟩) hf)
def gNil : TGs := fun vs σ H Q => vs = [] ∧ Q σ H
def gCons (t : TG) (u : TGs) : TGs := fun vs σ H Q => ∃ v r, vs = v :: r ∧ t v σ H fun σ' H' => u r σ' H' Q
theorem pgs_nil : PGs X [] gNil := by
  intro pins s σ H vs us Q I r h
  obtain ⟨e, h⟩ := h
  subst e
  cases r
  exact assignInOrder_nil ⟨σ, H, I, h⟩
theorem pgs_cons {e : Expr} {es : List Expr} {t : TG} {u : TGs} (h1 : PG X e t) (h2 : PGs X es u)
    (hs : (assignEach (e :: es) X.env).map (·.2) = assign e X.env :: (assignEach es X.env).map (·.2) := by rfl) : PGs X (e :: es) (gCons t u) := by
  intro pins s σ H vs us Q I r h
  obtain ⟨v, vr, e1, h⟩ := h
  subst e1
  cases r with
  | cons r rr =>
    rw [hs]
    refine assignInOrder_cons (thn (h1 pins s σ H _ _ _ I r h) fun _ s1 ⟨σ1, H1, I1, q1⟩ => ?_)
    exact h2 pins s1 σ1 H1 _ _ Q I1 rr q1
def gTup (K : PySem.W.Frag) (n : Nat) (t : TGs) : TG := fun v σ H Q => ∃ a xs, v = .ref a ∧ SqT K H a xs ∧ xs.length = n ∧ t xs σ H Q
theorem pg_tup {es : List Expr} {k : Nat} {t : TGs} {n : Nat} (hc : X.calm = true) (h : PGs X es t)
    (hn : (assignEach es X.env).length = n := by rfl) (hst : (assignEach es X.env).findIdx? (·.1) = none := by rfl) : PG X (.Tuple es k pos) (gTup X.K n t) := by
  intro pins s σ H v u Q I r hw
  obtain ⟨a, xs, e1, hq, hl, hw⟩ := hw
  subst e1
  cases r
  obtain ⟨its, rv, ht, hz⟩ := I.tuple hq
  refine assign_Tuple_tuple (I.ok.hd hc) ht (by simp [hn, ← hl, rv.length]) hst fun h' hx => ?_
  have I1 : Inv X pins σ H { s with heap := h' } := I.kept (t' := s.toks) fun b o e => hx b o (Nat.ne_of_lt (Heap.lt_size e)) e
  exact h pins _ σ H xs _ Q I1 (by simpa using rv) hw
def tAsg (te : TE) (g : TG) : TS := fun D σ H => te σ H fun x H1 => g x σ H1 D.nx
theorem ps_set {i : Nat} {x : Str} {e : Expr} {te : TE} {pos' : Pos} (hN : X.N.Nodup) (hi : X.N[i]? = some x) (hx : Loc X.env.scope x) (he : PE X e te) (hs : swapsWith e (some (.Name x pos')) pos.line X.env = pure false := by rfl) (hf : X.fn x = true ∨ X.env.scope.names.lookup x = some .local := by first | exact .inl rfl | exact .inr rfl | assumption) :
    PS X (.Assign [.Name x pos'] e pos) (tAsg te (gName i)) := by
  intro pins s σ H D I h
  refine wpAny_Assign_Name (thn (he pins s σ H _ I h) fun v s1 ⟨y, H1, I1, r1, q1⟩ => ?_) hs
  exact store_ok I1 hN hi hx r1 (fun s2 I2 => ⟨_, H1, I2, q1⟩) hf
def tAug (i : Nat) (te : TE) (ti : TIp) : TS := fun D σ H => ∃ x, σ[i]? = some (some x) ∧ te σ H fun y H1 => ti x y H1 fun z H2 => D.nx (σ.set i (some z)) H2
theorem ps_aug {i : Nat} {x : Str} {e : Expr} {te : TE} {op : Operator} {ti : TIp} {pos' : Pos} (hN : X.N.Nodup) (hi : X.N[i]? = some x) (hx : Loc X.env.scope x) (he : PE X e te) (ho : PIp X op ti) (hf : X.fn x = true ∨ X.env.scope.names.lookup x = some .local := by first | exact .inl rfl | exact .inr rfl | assumption) :
    PS X (.AugAssign (.Name x pos') op e pos) (tAug i te ti) := by
  intro pins s σ H D I h
  obtain ⟨v, e1, h⟩ := h
  obtain ⟨m, hn, hl⟩ := I.loc
  have vis : Vis X.env.scope x := by rcases hx with k | k; exact .inl k; exact .inr (.inl k)
  obtain ⟨u, r, l⟩ := hl i x v hi e1 vis
  refine wpAny_AugAssign_Name ?_
  have go : wpAny (model X.prog X.w) X.A (eval e X.env) (fun w s₂ => wpAny (model X.prog X.w) X.A (inplaceOp op u w) (fun r s₃ => wpAny (model X.prog X.w) X.A (storeName X.env x r) (fun _ => SP X pins D .next) X.xe s₃) X.xe s₂) X.xe s := by
    refine thn (he pins s σ H _ I h) fun w s1 ⟨y, H1, I1, r1, q1⟩ => ?_
    refine thn (ho pins s1 σ H1 v y u w _ I1 r r1 q1) fun z s2 ⟨zv, H2, I2, r2, q2⟩ => ?_
    exact store_ok I2 hN hi hx r2 (fun s3 I3 => ⟨_, H2, I3, q2⟩) hf
  rcases l with ⟨hk, hm⟩ | ⟨hk, c, hc, hcell⟩
  · exact wpAny_loadName_local I.ok.kind hk hn hm go
  · rcases hk with hk | hk
    · exact wpAny_loadName_cell I.ok.kind hk hc hcell go
    · rcases hx with k | k
      · have : X.env.scope.names.lookup x = some .free := hk
        rw [k] at this; cases this
      · have : X.env.scope.names.lookup x = some .free := hk
        rw [k] at this; cases this
def ipI (f : Int → Int → Int) : TIp := fun x y H Q => ∃ i j, x = .int i ∧ y = .int j ∧ Q (.int (f i j)) H
theorem ip_add : PIp X .Add (ipI fun i j => i + j) := by
  intro pins s σ H x y v u Q I r1 r2 h
  obtain ⟨i, j, e1, e2, q⟩ := h
  subst e1; subst e2
  obtain ⟨t, rfl⟩ := r1
  obtain ⟨t', rfl⟩ := r2
  exact iadd_int ⟨.int _, H, I.tok _, ⟨_, rfl⟩, q⟩
end
section
variable {X : Cx} {pos : Pos}
def tWhile (c : TT) (tb : TS) : TS := fun D σ H => ∃ W : Nat → St → Hp → Prop, (∃ m, W m σ H) ∧ ∀ m σ H, W m σ H →
  c σ H fun b H1 => if b = true then ∃ N : St → Hp → Prop, (∀ σ' H', N σ' H' → ∃ m', m' < m ∧ W m' σ' H') ∧ tb { D with nx := N, ct := N, bk := D.nx } σ H1 else D.nx σ H1
theorem ps_while {c : Expr} {body : List Stmt} {tc : TT} {tb : TS} (hp : PassesOwn (model X.prog X.w) X.A X.env X.xe) (hc : PT X c tc) (hb : PSs X body tb) : PS X (.While c body [] pos) (tWhile tc tb) := by
  intro pins s σ H D I h
  obtain ⟨W, ⟨m0, w0⟩, turn⟩ := h
  refine wpAny_While (codeAny_whileLoop (fun n s' => ∃ σ' H', Inv X pins σ' H' s' ∧ W n σ' H') ?_ m0 ⟨σ, H, I, w0⟩)
  rintro n s1 ⟨σ1, H1, I1, w1⟩
  refine wpAny_passesOwn hp (thn (hc pins s1 σ1 H1 _ I1 (turn n σ1 H1 w1)) fun b s2 ⟨H2, I2, q2⟩ => ?_)
  cases b with
  | true =>
    obtain ⟨N, hN, q2⟩ := q2
    rw [if_pos rfl]
    refine wpAny_passesOwn hp (thn (hb pins s2 σ1 H2 _ I2 q2) fun f s3 q3 => ?_)
    cases f with
    | next =>
      obtain ⟨σ3, H3, I3, n3⟩ := q3
      obtain ⟨m', hm, w3⟩ := hN σ3 H3 n3
      exact ⟨m', hm, σ3, H3, I3, w3⟩
    | cont =>
      obtain ⟨σ3, H3, I3, n3⟩ := q3
      obtain ⟨m', hm, w3⟩ := hN σ3 H3 n3
      exact ⟨m', hm, σ3, H3, I3, w3⟩
    | brk => exact q3
    | ret v => exact q3
  | false =>
    rw [if_neg Bool.false_ne_true]
    exact wpAny_execs_nil ⟨σ1, H2, I2, q2⟩
end
structure It where
  go : Nat → Hp → Prop
  yld : Nat → Hp → V → Hp → Prop
  stop : Nat → Hp → Prop
def FpOk (X : Cx) (pins : List (Addr × Obj)) (H : Hp) (b : Addr) : Prop :=
  H b = none ∧ b ≠ X.env.locals ∧ b ∉ X.fs ∧ (b ∈ X.ex ∨ X.s_0.heap.objs.size ≤ b) ∧ (∀ x c, X.env.cells.lookup x = some c → c ≠ b) ∧ ∀ p ∈ X.pn ++ pins, p.1 ≠ b
theorem Inv.fpOk {X : Cx} {pins : List (Addr × Obj)} {σ : St} {H H' : Hp} {s : Shared} {b : Addr} (I : Inv X pins σ H s) (hb : s.heap.objs.size ≤ b) (hn : H' b = none) : FpOk X pins H' b := by
  refine ⟨hn, Nat.ne_of_gt (Nat.lt_of_lt_of_le I.lt hb), I.nofs hb, .inr (Nat.le_trans I.sz hb), fun x c e z => ?_, fun p hp z => ?_⟩
  · obtain ⟨v, q⟩ := I.cell x c e
    exact absurd (Nat.lt_of_lt_of_le q.lt (by rw [z]; exact hb)) (Nat.lt_irrefl _)
  · exact absurd (Nat.lt_of_lt_of_le (Heap.lt_size (I.pin p hp).1) (by rw [z]; exact hb)) (Nat.lt_irrefl _)
structure Turn (P : Program) (w : World) (K : PySem.W.Frag) (tg : Expr) (J : It) (fp : List Addr) (it : Addr) (tn : Nat → Heap → Prop) : Prop where
  mem : it ∈ fp
  obj : ∀ i h, tn i h → ∀ b ∈ fp, ∃ o, h.get? b = some o ∧ ∀ v, o.data ≠ .cell v
  keep : ∀ i h h', tn i h → (∀ b ∈ fp, ∀ o, h.get? b = some o → h'.get? b = some o) → tn i h'
  item : ∀ (X : Cx), X.prog = P → X.w = w → X.K = K → X.calm = true → ∀ (i : Nat) (pins : List (Addr × Obj)) (s : Shared) (σ : St) (H : Hp) (E : Value → Shared → Prop), Inv X pins σ H s → (∀ b ∈ fp, FpOk X pins H b) → tn i s.heap → J.go i H →
    wpAny (model P w) X.A (pyNext (.ref it)) (fun r s1 => ∃ u, r = some u ∧
      wpAny (model P w) X.A (letOwnedTupleGo tg (.ref it) u) (fun _ s2 => ∃ x H', Inv X pins σ H' s2 ∧ RelV x u ∧ J.yld i H x H' ∧ tn (i + 1) s2.heap ∧ ∀ b ∈ fp, H' b = none) E s1) E s
  done : ∀ (X : Cx), X.prog = P → X.w = w → X.K = K → X.calm = true → ∀ (i : Nat) (pins : List (Addr × Obj)) (s : Shared) (σ : St) (H : Hp) (E : Value → Shared → Prop), Inv X pins σ H s → (∀ b ∈ fp, FpOk X pins H b) → tn i s.heap → J.stop i H →
    wpAny (model P w) X.A (pyNext (.ref it)) (fun r s1 => r = none ∧ Inv X pins σ H s1) E s
  self : ∀ (A : Around) (i : Nat) (s : Shared) (Q : Value → Shared → Prop) (E : Value → Shared → Prop), tn i s.heap → Q (.ref it) s → wpAny (model P w) A (pyIter (.ref it)) Q E s
abbrev TI := St → Hp → (It → Hp → Prop) → Prop
def PIE (X : Cx) (pins : List (Addr × Obj)) (σ : St) (tg : Expr) (R : It → Hp → Prop) (itv : Value) (s2 : Shared) : Prop :=
  ∃ (it : Addr) (fp : List Addr) (tn : Nat → Heap → Prop) (J : It) (H' : Hp), itv = .ref it ∧ Inv X pins σ H' s2 ∧ Turn X.prog X.w X.K tg J fp it tn ∧ tn 0 s2.heap ∧ (∀ b ∈ fp, FpOk X pins H' b) ∧ R J H'
def PI (X : Cx) (tg iter : Expr) (wi : TI) : Prop :=
  ∀ (pins : List (Addr × Obj)) (s : Shared) (σ : St) (H : Hp) (R : It → Hp → Prop), Inv X pins σ H s → wi σ H R →
    wpAny (model X.prog X.w) X.A (eval iter X.env) (fun v s1 => wpAny (model X.prog X.w) X.A (pyIter v) (PIE X pins σ tg R) X.xe s1) X.xe s
theorem go_of {M : Model} {A : Around} {E : Value → Shared → Prop} {s : Shared} {tg : Expr} {it : Addr} {u : Value} {o : Obj} {n : String} {vs : Array Value} {Q : Unit → Shared → Prop} (ho : s.heap.get? it = some o) (hc : o.cls = .type n) (hd : o.data = .fields vs)
    (hn : ["enumerate", "zip", "dict_itemiterator", "dict_reverseitemiterator", "odict_iterator", "itertools.zip_longest", "itertools.pairwise"].contains n = false) (hQ : Q () s) : wpAny M A (letOwnedTupleGo tg (.ref it) u) Q E s := by
  unfold letOwnedTupleGo
  cases tg <;> first
    | exact wpAny_pure hQ
    | (cases u <;> first
        | exact wpAny_pure hQ
        | (refine wpAny_bind (wpAny_load ho ?_)
           rw [hc, hd]
           show wpAny M A (if (["enumerate", "zip", "dict_itemiterator", "dict_reverseitemiterator", "odict_iterator", "itertools.zip_longest", "itertools.pairwise"].contains n && vs[0]? == some (rawInt _)) = true then _ else _) Q E s
           rw [if_neg (by intro h; rw [hn, Bool.false_and] at h; cases h)]
           exact wpAny_pure hQ))
def Itl (K : PySem.W.Frag) (a : Addr) : It :=
  ⟨fun i H => ∃ xs x, SqL K H a xs ∧ xs[i]? = some x, fun i H x H' => H' = H ∧ ∀ xs, SqL K H a xs → xs[i]? = some x, fun i H => ∃ xs, SqL K H a xs ∧ xs.length ≤ i⟩
def Itr (lo : Int) (n : Nat) : It := ⟨fun i _ => i < n, fun i H x H' => H' = H ∧ x = .int (lo + i), fun i _ => n ≤ i⟩
theorem turn_list {P : Program} {w : World} {K : PySem.W.Frag} {tg : Expr} (a it : Addr) : Turn P w K tg (Itl K a) [it] it (fun i h => h.IsListIter it a i) where
  mem := by simp
  obj := fun i h st b hb => by
    have e : b = it := by simpa using hb
    subst e
    obtain ⟨o, e, c, d⟩ := st
    exact ⟨o, e, fun v z => by rw [d] at z; cases z⟩
  keep := fun i h h' st k => st.at fun o e => k it (by simp) o e
  item := by
    intro X hP hw hK hc i pins s σ H E I hf st hg
    subst hP hw hK
    obtain ⟨xs, x, hq, hx⟩ := hg
    obtain ⟨its, rv, p, hz⟩ := I.list hq
    obtain ⟨u, hu, ru⟩ := rv.get hx
    obtain ⟨f0, f1, f2, f3, f4, f5⟩ := hf it (by simp)
    refine wpAny_pyNext_list_item st p.isList (x := u) (by simpa using hu) fun h' st' sb => ?_
    have I1 : Inv X pins σ H { s with heap := h' } := I.turned (t' := s.toks) (fun b o hb e => (sb.2 b hb).trans e) f0 f1 f3 f4 f5
    obtain ⟨o, e, c, d⟩ := id st'
    exact ⟨u, rfl, go_of (s := { s with heap := h' }) e c d (by decide) ⟨x, H, I1, ru, ⟨rfl, fun ys hy => by rw [I.list_inj hy hq]; exact hx⟩, st', fun b hb => (hf b hb).1⟩⟩
  done := by
    intro X hP hw hK hc i pins s σ H E I hf st hg
    subst hP hw hK
    obtain ⟨xs, hq, hx⟩ := hg
    obtain ⟨its, rv, p, hz⟩ := I.list hq
    obtain ⟨f0, f1, f2, f3, f4, f5⟩ := hf it (by simp)
    have hl := rv.length
    exact wpAny_pyNext_list_end (I.ok.hd hc) st p.isList (by simp; omega) fun h' eb => ⟨rfl, I.turned (t' := s.toks) (fun b o hb e => eb b o hb e) f0 f1 f3 f4 f5⟩
  self := fun _ _ _ _ _ st h => wpAny_pyIter_listiter st h
theorem turn_range {P : Program} {w : World} {K : PySem.W.Frag} {tg : Expr} (it : Addr) (lo : Int) (n : Nat) : Turn P w K tg (Itr lo n) [it] it (fun i h => IsRangeIter h it (lo + (i : Nat) * 1) ((n : Int) - (i : Nat)) 1) where
  mem := by simp
  obj := fun i h st b hb => by
    have e : b = it := by simpa using hb
    subst e
    exact ⟨_, st, fun v z => by
      have z' : Data.fields _ = Data.cell v := z
      cases z'⟩
  keep := fun i h h' st k => k it (by simp) _ st
  item := by
    intro X hP hw hK hc i pins s σ H E I hf st hg
    subst hP hw hK
    obtain ⟨f0, f1, f2, f3, f4, f5⟩ := hf it (by simp)
    have W := Walks.range (prog := X.prog) (w := X.w) (I.ok.hd hc) it lo 1 n
    refine W.item i s _ _ hg st fun v h' tk hv st' kk => ?_
    obtain ⟨t, rfl⟩ := hv
    have I1 : Inv X pins σ H { s with heap := h', toks := tk } := I.turned (fun b o hb e => kk b o (by simpa using hb) e) f0 f1 f3 f4 f5
    refine ⟨_, rfl, go_of (s := { s with heap := h', toks := tk }) (n := "range_iterator") st' rfl rfl (by decide) ⟨.int (lo + i), H, I1, ⟨t, ?_⟩, ⟨rfl, rfl⟩, st', fun b hb => (hf b hb).1⟩⟩
    rw [Int.mul_one]
  done := by
    intro X hP hw hK hc i pins s σ H E I hf st hg
    subst hP hw hK
    obtain ⟨f0, f1, f2, f3, f4, f5⟩ := hf it (by simp)
    exact wpAny_pyNext_range_end (I.ok.hd hc) st (by have : n ≤ i := hg; omega) fun h' eb => ⟨rfl, I.turned (t' := s.toks) (fun b o hb e => eb b o hb e) f0 f1 f3 f4 f5⟩
  self := fun _ _ _ _ _ st h => wpAny_pyIter_rangeiter st h
end L2
namespace L2
open PySem PySem.Spec PyProof.Rows
section
variable {X : Cx} {tg : Expr}
def iList (K : PySem.W.Frag) (tl : TE) : TI := fun σ H R => tl σ H fun x H1 => ∃ a, x = .ref a ∧ (∃ xs, SqL K H1 a xs) ∧ R (Itl K a) H1
theorem pi_list {l : Expr} {tl : TE} (hl : PE X l tl) : PI X tg l (iList X.K tl) := by
  intro pins s σ H R I h
  refine thn (hl pins s σ H _ I h) fun v s1 ⟨x, H1, I1, r1, q1⟩ => ?_
  obtain ⟨a, e, ⟨xs, hq⟩, q⟩ := q1
  subst e
  cases r1
  obtain ⟨its, rv, p, hz⟩ := I1.list hq
  refine wpAny_pyIter_list p.isList ?_
  refine ⟨s1.heap.objs.size, [s1.heap.objs.size], _, _, H1, rfl, I1.kept (t' := s1.toks) fun b o e => Heap.get?_push_of_some _ e, turn_list a _, ⟨_, Heap.get?_push_size _ rfl, rfl, rfl⟩, fun b hb => ?_, q⟩
  have e : b = s1.heap.objs.size := by simpa using hb
  subst e
  exact I1.fpOk (Nat.le_refl _) (I1.hok.fresh (Nat.le_refl _))
theorem range_it {pins : List (Addr × Obj)} {σ : St} {H : Hp} {s : Shared} {R : It → Hp → Prop} {E : Value → Shared → Prop} {lo hi : Int} {t u v : Tok} {tk : Nat} (I : Inv X pins σ H s) (h1 : -(2 ^ 62) ≤ lo) (h2 : lo < 2 ^ 62) (h3 : -(2 ^ 62) ≤ hi) (h4 : hi < 2 ^ 62)
    (q : R (Itr lo (hi - lo).toNat) H) : wpAny (model X.prog X.w) X.A (pyIter (.ref s.heap.objs.size)) (PIE X pins σ tg R) E { s with heap := s.heap.push { cls := .type "range", data := .fields #[.int lo t, .int hi u, .int 1 v] }, toks := tk } := by
  refine wpAny_pyIter_range (IsRange.new ..) (small_one h1 h2 h3 h4) ?_
  have I1 : Inv X pins σ H { s with heap := s.heap.push { cls := .type "range", data := .fields #[.int lo t, .int hi u, .int 1 v] }, toks := tk } := I.kept fun b o e => Heap.get?_push_of_some _ e
  refine ⟨(s.heap.push { cls := .type "range", data := .fields #[.int lo t, .int hi u, .int 1 v] }).objs.size, [(s.heap.push { cls := .type "range", data := .fields #[.int lo t, .int hi u, .int 1 v] }).objs.size], _, _, H, rfl,
    I1.kept (t' := tk) fun b o e => Heap.get?_push_of_some _ e, turn_range _ lo (hi - lo).toNat, ?_, fun b hb => ?_, q⟩
  · have e1 : lo + ((0 : Nat) : Int) * 1 = lo := by simp
    have e2 : (((hi - lo).toNat : Nat) : Int) - ((0 : Nat) : Int) = Builtin.Range.rangeSize lo hi 1 := by rw [rangeSize_one]; split <;> omega
    show IsRangeIter _ _ (lo + ((0 : Nat) : Int) * 1) ((((hi - lo).toNat : Nat) : Int) - ((0 : Nat) : Int)) 1
    rw [e1, e2]
    exact Heap.get?_push_size _ rfl
  · have e : b = (s.heap.push { cls := .type "range", data := .fields #[.int lo t, .int hi u, .int 1 v] }).objs.size := by simpa using hb
    subst e
    exact I1.fpOk (Nat.le_refl _) (I1.hok.fresh (Nat.le_refl _))
def iRng1 (ta : TA) : TI := fun σ H R => ta σ H fun vs H1 => ∃ j : Int, vs = [.int j] ∧ -(2 ^ 62) ≤ j ∧ j < 2 ^ 62 ∧ R (Itr 0 j.toNat) H1
def iRng2 (ta : TA) : TI := fun σ H R => ta σ H fun vs H1 => ∃ i j : Int, vs = [.int i, .int j] ∧ (-(2 ^ 62) ≤ i ∧ i < 2 ^ 62 ∧ -(2 ^ 62) ≤ j ∧ j < 2 ^ 62) ∧ R (Itr i (j - i).toNat) H1
theorem pi_range1 {a : Expr} {ta : TA} {p pos : Pos} (hg : Gl X "range") (hm : X.mg "range" = none) (ha : PA X [a] ta) (hs : starEach [a] X.env = [(false, eval a X.env)] := by rfl) : PI X tg (.Call (.Name "range" p) [a] [] pos) (iRng1 ta) := by
  intro pins s σ H R I h
  refine Call_ (ld_blt I hg hm boot_range (PyProof.Rows.callWith_type1 (thn (ha pos pins s σ H _ I h) fun us s1 ⟨vs, H1, I1, r1, q1⟩ => ?_) hs rfl))
  obtain ⟨j, e, q1, q2, q⟩ := q1
  subst e
  cases r1 with
  | cons r rr =>
    cases rr
    obtain ⟨t, rfl⟩ := r
    exact call_range_1 (range_it I1 (by omega) (by omega) q1 q2 (by simpa using q))
theorem pi_range2 {a b : Expr} {ta : TA} {p pos : Pos} (hg : Gl X "range") (hm : X.mg "range" = none) (ha : PA X [a, b] ta) (hs : starEach [a, b] X.env = [(false, eval a X.env), (false, eval b X.env)] := by rfl) (hs2 : starEach [b] X.env = [(false, eval b X.env)] := by rfl) :
    PI X tg (.Call (.Name "range" p) [a, b] [] pos) (iRng2 ta) := by
  intro pins s σ H R I h
  refine Call_ (ld_blt I hg hm boot_range (PyProof.Rows.callWith_type1 (thn (ha pos pins s σ H _ I h) fun us s1 ⟨vs, H1, I1, r1, q1⟩ => ?_) (by rw [hs, hs2]) (by rw [hs2]; rfl)))
  obtain ⟨i, j, e, ⟨q1, q2, q3, q4⟩, q⟩ := q1
  subst e
  cases r1 with
  | cons r rr =>
    cases rr with
    | cons r' rr =>
      cases rr
      obtain ⟨t, rfl⟩ := r
      obtain ⟨t', rfl⟩ := r'
      exact call_range_2 (range_it I1 q1 q2 q3 q4 q)
def tFor (wi : TI) (g : TG) (tb : TS) : TS := fun D σ H => wi σ H fun J H1 => ∃ W : Nat → Nat → St → Hp → Prop, (∃ m, W 0 m σ H1) ∧ ∀ i m σ H, W i m σ H →
  (J.stop i H ∧ D.nx σ H) ∨ (J.go i H ∧ ∃ N : St → Hp → Prop, (∀ σ' H', N σ' H' → ∃ m', m' < m ∧ W (i + 1) m' σ' H') ∧ ∀ x H', J.yld i H x H' → g x σ H' fun σ2 H2 => tb { D with nx := N, ct := N, bk := D.nx } σ2 H2)
def pinsAt (fp : List Addr) (h : Heap) : List (Addr × Obj) := fp.filterMap fun b => (h.get? b).map fun o => (b, o)
theorem mem_pinsAt {fp : List Addr} {h : Heap} {b : Addr} {o : Obj} (hb : b ∈ fp) (e : h.get? b = some o) : (b, o) ∈ pinsAt fp h := List.mem_filterMap.mpr ⟨b, hb, by rw [e]; rfl⟩
theorem of_pinsAt {fp : List Addr} {h : Heap} {p : Addr × Obj} (hp : p ∈ pinsAt fp h) : p.1 ∈ fp ∧ h.get? p.1 = some p.2 := by
  obtain ⟨b, hb, e⟩ := List.mem_filterMap.mp hp
  cases q : h.get? b with
  | none => rw [q] at e; cases e
  | some o =>
    rw [q] at e
    have e' : (b, o) = p := Option.some.inj e
    subst e'
    exact ⟨hb, q⟩
theorem Inv.pinned {pins : List (Addr × Obj)} {σ : St} {H : Hp} {s : Shared} {fp : List Addr} (I : Inv X pins σ H s) (hf : ∀ b ∈ fp, FpOk X pins H b) (ho : ∀ b ∈ fp, ∃ o, s.heap.get? b = some o ∧ ∀ v, o.data ≠ .cell v) : Inv X (pins ++ pinsAt fp s.heap) σ H s :=
  I.pins_of fun p hp => (List.mem_append.mp hp).elim (fun z => I.pin p (List.mem_append_right _ z)) fun z => by
    obtain ⟨hb, e⟩ := of_pinsAt z
    obtain ⟨f0, f1, f2, _⟩ := hf p.1 hb
    obtain ⟨o, e', d⟩ := ho p.1 hb
    rw [e] at e'; cases e'
    exact ⟨e, f0, f1, f2, d⟩
theorem Inv.unpinned {pins pl : List (Addr × Obj)} {σ : St} {H : Hp} {s : Shared} (I : Inv X (pins ++ pl) σ H s) : Inv X pins σ H s := I.pins_of fun p hp => I.pin p (List.mem_append_right _ (List.mem_append_left _ hp))
theorem ps_for {iter : Expr} {body : List Stmt} {wi : TI} {g : TG} {tb : TS} {pos : Pos} (hp : PassesOwn (model X.prog X.w) X.A X.env X.xe) (hc : X.calm = true) (hi : PI X tg iter wi) (hg : PG X tg g) (hb : PSs X body tb)
    (hs : ∀ x, foldedSetIterable iter X.env x = pure x := by intro _; rfl) : PS X (.For tg iter body [] pos) (tFor wi g tb) := by
  intro pins s σ H D I h
  refine wpAny_For (thn (hi pins s σ H _ I h) fun v s1 h1 => thn h1 fun itv s2 h2 => ?_) hs
  obtain ⟨it, fp, tn, J, H2, e, I2, T, st2, f2, W, ⟨m0, w0⟩, turn⟩ := h2
  subst e
  have stat : ∀ {H' : Hp}, (∀ b ∈ fp, H' b = none) → ∀ b ∈ fp, FpOk X pins H' b := fun hn b hb => ⟨hn b hb, (f2 b hb).2⟩
  refine codeAny_forLoop_any (fun n s' => ∃ i σ' H', Inv X pins σ' H' s' ∧ tn i s'.heap ∧ (∀ b ∈ fp, H' b = none) ∧ W i n σ' H') ?_ m0 ⟨0, σ, H2, I2, st2, fun b hb => (f2 b hb).1, w0⟩
  rintro n s3 ⟨i, σ3, H3, I3, st3, fr3, w3⟩
  rcases turn i n σ3 H3 w3 with ⟨stop, qn⟩ | ⟨go, N, hN, step⟩
  · refine wpAny_passesOwn hp (thn (T.done X rfl rfl rfl hc i pins s3 σ3 H3 X.xe I3 (stat fr3) st3 stop) fun r s4 ⟨hr, I4⟩ => ?_)
    subst hr
    exact wpAny_execs_nil ⟨σ3, H3, I4, qn⟩
  · refine wpAny_passesOwn hp (thn (T.item X rfl rfl rfl hc i pins s3 σ3 H3 X.xe I3 (stat fr3) st3 go) fun r s4 ⟨u, hr, h4⟩ => ?_)
    subst hr
    refine wpAny_passesOwn hp (thn h4 fun _ s5 ⟨x, H5, I5, r5, y5, st5, fr5⟩ => ?_)
    have I5' := I5.pinned (stat fr5) (T.obj _ _ st5)
    refine wpAny_passesOwn hp (thn (hg _ s5 σ3 H5 x u _ I5' r5 (step x H5 y5)) fun _ s6 ⟨σ6, H6, I6, q6⟩ => ?_)
    refine wpAny_passesOwn hp (thn (hb _ s6 σ6 H6 _ I6 q6) fun f s7 q7 => ?_)
    have again : ∀ {σ7 : St} {H7 : Hp}, Inv X (pins ++ pinsAt fp s5.heap) σ7 H7 s7 → N σ7 H7 → ∃ m, m < n ∧ ∃ i σ' H', Inv X pins σ' H' s7 ∧ tn i s7.heap ∧ (∀ b ∈ fp, H' b = none) ∧ W i m σ' H' := fun {σ7 H7} I7 n7 => by
      obtain ⟨m', hm, w7⟩ := hN σ7 H7 n7
      refine ⟨m', hm, i + 1, σ7, H7, I7.unpinned, T.keep _ _ _ st5 fun b hb o e => (I7.pin (b, o) (List.mem_append_right _ (List.mem_append_right _ (mem_pinsAt hb e)))).1, fun b hb => ?_, w7⟩
      obtain ⟨o, e, d⟩ := T.obj _ _ st5 b hb
      exact (I7.pin (b, o) (List.mem_append_right _ (List.mem_append_right _ (mem_pinsAt hb e)))).2.1
    cases f with
    | next => obtain ⟨σ7, H7, I7, n7⟩ := q7; exact again I7 n7
    | cont => obtain ⟨σ7, H7, I7, n7⟩ := q7; exact again I7 n7
    | brk => obtain ⟨σ7, H7, I7, q7⟩ := q7; exact ⟨σ7, H7, I7.unpinned, q7⟩
    | ret v => obtain ⟨x7, σ7, H7, I7, r7, q7⟩ := q7; exact ⟨x7, σ7, H7, I7.unpinned, r7, q7⟩
end
theorem for_list {K : PySem.W.Frag} {a : Addr} {xs : List V} {g : TG} {tb : TS} {D : Ends} {σ : St} {H : Hp} (Pv : Nat → St → Hp → Prop) (h0 : Pv 0 σ H) (hl : ∀ i σ H, i ≤ xs.length → Pv i σ H → SqL K H a xs)
    (hs : ∀ i x σ H, xs[i]? = some x → Pv i σ H → g x σ H fun σ2 H2 => tb { D with nx := Pv (i + 1), ct := Pv (i + 1), bk := D.nx } σ2 H2) (hd : ∀ σ H, Pv xs.length σ H → D.nx σ H) :
    ∃ W : Nat → Nat → St → Hp → Prop, (∃ m, W 0 m σ H) ∧ ∀ i m σ H, W i m σ H →
      ((Itl K a).stop i H ∧ D.nx σ H) ∨ ((Itl K a).go i H ∧ ∃ N : St → Hp → Prop, (∀ σ' H', N σ' H' → ∃ m', m' < m ∧ W (i + 1) m' σ' H') ∧ ∀ x H', (Itl K a).yld i H x H' → g x σ H' fun σ2 H2 => tb { D with nx := N, ct := N, bk := D.nx } σ2 H2) := by
  refine ⟨fun i m σ H => m = xs.length - i ∧ i ≤ xs.length ∧ Pv i σ H, ⟨xs.length, by simp, Nat.zero_le _, h0⟩, ?_⟩
  rintro i m σ H ⟨rfl, hi, p⟩
  have q := hl i σ H hi p
  by_cases hlt : i < xs.length
  · refine .inr ⟨⟨xs, xs[i], q, by simp [hlt]⟩, Pv (i + 1), fun σ' H' p' => ⟨xs.length - (i + 1), by omega, rfl, hlt, p'⟩, fun x H' y => ?_⟩
    obtain ⟨e, y⟩ := y
    subst e
    exact hs i x σ _ (y xs q) p
  · have e : i = xs.length := by omega
    subst e
    exact .inl ⟨⟨xs, q, Nat.le_refl _⟩, hd σ H p⟩
theorem for_range {lo : Int} {n : Nat} {g : TG} {tb : TS} {D : Ends} {σ : St} {H : Hp} (Pv : Nat → St → Hp → Prop) (h0 : Pv 0 σ H)
    (hs : ∀ i σ H, i < n → Pv i σ H → g (.int (lo + i)) σ H fun σ2 H2 => tb { D with nx := Pv (i + 1), ct := Pv (i + 1), bk := D.nx } σ2 H2) (hd : ∀ σ H, Pv n σ H → D.nx σ H) :
    ∃ W : Nat → Nat → St → Hp → Prop, (∃ m, W 0 m σ H) ∧ ∀ i m σ H, W i m σ H →
      ((Itr lo n).stop i H ∧ D.nx σ H) ∨ ((Itr lo n).go i H ∧ ∃ N : St → Hp → Prop, (∀ σ' H', N σ' H' → ∃ m', m' < m ∧ W (i + 1) m' σ' H') ∧ ∀ x H', (Itr lo n).yld i H x H' → g x σ H' fun σ2 H2 => tb { D with nx := N, ct := N, bk := D.nx } σ2 H2) := by
  refine ⟨fun i m σ H => m = n - i ∧ i ≤ n ∧ Pv i σ H, ⟨n, by simp, Nat.zero_le _, h0⟩, ?_⟩
  rintro i m σ H ⟨rfl, hi, p⟩
  by_cases hlt : i < n
  · refine .inr ⟨hlt, Pv (i + 1), fun σ' H' p' => ⟨n - (i + 1), by omega, rfl, hlt, p'⟩, fun x H' y => ?_⟩
    obtain ⟨e, y⟩ := y
    subst e y
    exact hs i σ _ hlt p
  · have e : i = n := by omega
    subst e
    exact .inl ⟨Nat.le_refl _, hd σ H p⟩
end L2
namespace L2
open PySem PySem.Spec PyProof.Rows
abbrev R2 := V → V → Hp → VK → Prop
def OpR (X : Cx) (f : Value → Value → Sem Value) (r : R2) : Prop :=
  ∀ (pins : List (Addr × Obj)) (s : Shared) (σ : St) (H : Hp) (x y : V) (v u : Value) (Q : VK), Inv X pins σ H s → RelV x v → RelV y u → r x y H Q →
    wpAny (model X.prog X.w) X.A (f v u) (EP X pins σ Q) X.xe s
def UnR (X : Cx) (f : Value → Sem Value) (r : V → Hp → VK → Prop) : Prop :=
  ∀ (pins : List (Addr × Obj)) (s : Shared) (σ : St) (H : Hp) (x : V) (v : Value) (Q : VK), Inv X pins σ H s → RelV x v → r x H Q →
    wpAny (model X.prog X.w) X.A (f v) (EP X pins σ Q) X.xe s
def CallR (X : Cx) (f : Value) (r : List V → Hp → VK → Prop) : Prop :=
  ∀ (pins : List (Addr × Obj)) (s : Shared) (σ : St) (H : Hp) (xs : List V) (us : List Value) (Q : VK), Inv X pins σ H s → Vals xs us → r xs H Q →
    wpAny (model X.prog X.w) X.A (call f us) (EP X pins σ Q) X.xe s
def TruR (X : Cx) (r : V → Hp → (Bool → Hp → Prop) → Prop) : Prop :=
  ∀ (pins : List (Addr × Obj)) (s : Shared) (σ : St) (H : Hp) (x : V) (v : Value) (Q : Bool → Hp → Prop), Inv X pins σ H s → RelV x v → r x H Q →
    wpAny (model X.prog X.w) X.A (truthy v) (TP X pins σ Q) X.xe s
def tOp (r : R2) (ta tb : TE) : TE := fun σ H Q => ta σ H fun x H1 => tb σ H1 fun y H2 => r x y H2 Q
def tUn (r : V → Hp → VK → Prop) (ta : TE) : TE := fun σ H Q => ta σ H fun x H1 => r x H1 Q
def rI (C : Int → Int → Prop) (g : Int → Int → V) : R2 := fun x y H Q => ∃ i j, x = .int i ∧ y = .int j ∧ C i j ∧ Q (g i j) H
def rI0 (g : Int → Int → V) : R2 := fun x y H Q => ∃ i j, x = .int i ∧ y = .int j ∧ Q (g i j) H
def rU (g : Int → V) : V → Hp → VK → Prop := fun x H Q => ∃ i, x = .int i ∧ Q (g i) H
section
variable {X : Cx} {a b c : Expr} {ta tb tc : TE} {pos : Pos}
theorem binT (ha : PE X a ta) (hb : PE X b tb) {pins : List (Addr × Obj)} {s : Shared} {σ : St} {H : Hp} {R : V → V → Hp → Prop} (I : Inv X pins σ H s)
    (h : ta σ H fun x H1 => tb σ H1 fun y H2 => R x y H2) {Q : Value → Shared → Prop} {f : Value → Value → Sem Value}
    (hf : ∀ v u s2 x y H2, Inv X pins σ H2 s2 → RelV x v → RelV y u → R x y H2 → wpAny (model X.prog X.w) X.A (f v u) Q X.xe s2) :
    wpAny (model X.prog X.w) X.A (eval a X.env) (fun v s₁ => wpAny (model X.prog X.w) X.A (eval b X.env) (fun u s₂ => wpAny (model X.prog X.w) X.A (f v u) Q X.xe s₂) X.xe s₁) X.xe s := by
  refine thn (ha pins s σ H _ I h) fun v s1 ⟨x, H1, I1, r1, q1⟩ => ?_
  refine thn (hb pins s1 σ H1 _ I1 q1) fun u s2 ⟨y, H2, I2, r2, q2⟩ => ?_
  exact hf v u s2 x y H2 I2 r1 r2 q2
theorem pe_op {op : Operator} {r : R2} (ho : OpR X (binaryOp op) r) (ha : PE X a ta) (hb : PE X b tb) : PE X (.BinOp a op b pos) (tOp r ta tb) := by
  intro pins s σ H Q I h
  exact wpAny_BinOp (binT ha hb I h fun v u s2 x y H2 I2 rx ry q => ho pins s2 σ H2 x y v u Q I2 rx ry q)
theorem pe_un {op : UnaryOp} {r : V → Hp → VK → Prop} (ho : UnR X (unaryOp op) r) (ha : PE X a ta) : PE X (.UnaryOp op a pos) (tUn r ta) := by
  intro pins s σ H Q I h
  exact UnaryOp_ (thn (ha pins s σ H _ I h) fun v s1 ⟨x, H1, I1, r1, q1⟩ => ho pins s1 σ H1 x v Q I1 r1 q1)
theorem opI {f : Value → Value → Sem Value} {C : Int → Int → Prop} {g : Int → Int → Int}
    (rule : ∀ (i j : Int) (t u : Tok) (s : Shared) (Q : Value → Shared → Prop) (E : Value → Shared → Prop), C i j → Q (.int (g i j) s.toks) { s with toks := s.toks + 1 } → wpAny (model X.prog X.w) X.A (f (.int i t) (.int j u)) Q E s) :
    OpR X f (rI C fun i j => .int (g i j)) := by
  intro pins s σ H x y v u Q I rx ry h
  obtain ⟨i, j, rfl, rfl, hc, q⟩ := h
  obtain ⟨t, rfl⟩ := rx
  obtain ⟨t', rfl⟩ := ry
  exact rule i j t t' s _ _ hc ⟨.int (g i j), H, I.tok _, ⟨_, rfl⟩, q⟩
theorem opI0 {f : Value → Value → Sem Value} {g : Int → Int → Int}
    (rule : ∀ (i j : Int) (t u : Tok) (s : Shared) (Q : Value → Shared → Prop) (E : Value → Shared → Prop), Q (.int (g i j) s.toks) { s with toks := s.toks + 1 } → wpAny (model X.prog X.w) X.A (f (.int i t) (.int j u)) Q E s) :
    OpR X f (rI0 fun i j => .int (g i j)) := by
  intro pins s σ H x y v u Q I rx ry h
  obtain ⟨i, j, rfl, rfl, q⟩ := h
  obtain ⟨t, rfl⟩ := rx
  obtain ⟨t', rfl⟩ := ry
  exact rule i j t t' s _ _ ⟨.int (g i j), H, I.tok _, ⟨_, rfl⟩, q⟩
theorem opB0 {f : Value → Value → Sem Value} {g : Int → Int → Bool}
    (rule : ∀ (i j : Int) (t u : Tok) (s : Shared) (Q : Value → Shared → Prop) (E : Value → Shared → Prop), Q (.bool (g i j)) s → wpAny (model X.prog X.w) X.A (f (.int i t) (.int j u)) Q E s) :
    OpR X f (rI0 fun i j => .bl (g i j)) := by
  intro pins s σ H x y v u Q I rx ry h
  obtain ⟨i, j, rfl, rfl, q⟩ := h
  obtain ⟨t, rfl⟩ := rx
  obtain ⟨t', rfl⟩ := ry
  exact rule i j t t' s _ _ ⟨.bl (g i j), H, I, rfl, q⟩
def CDiv (i j : Int) : Prop := 0 < j ∧ j < 1073741824
def CMul (i j : Int) : Prop := (-(2 ^ 64) < i ∧ i < 2 ^ 64) ∨ (-(2 ^ 64) < j ∧ j < 2 ^ 64)
theorem CMul.ok {i j : Int} (h : CMul i j) : IntMulOk i j := by
  rcases h with ⟨h1, h2⟩ | ⟨h1, h2⟩
  · exact .of_left (intBits_le_64 h1 h2)
  · exact .of_right (intBits_le_64 h1 h2)
theorem op_add : OpR X (binaryOp .Add) (rI0 fun i j => .int (i + j)) := opI0 fun _ _ _ _ _ _ _ q => add_int q
theorem op_sub : OpR X (binaryOp .Sub) (rI0 fun i j => .int (i - j)) := opI0 fun _ _ _ _ _ _ _ q => sub_int q
theorem op_mul : OpR X (binaryOp .Mult) (rI CMul fun i j => .int (i * j)) := opI fun _ _ _ _ _ _ _ hc q => mul_int q hc.ok
theorem op_fdiv : OpR X (binaryOp .FloorDiv) (rI CDiv fun i j => .int (i / j)) := opI fun i j _ _ _ _ _ hc q => by
  have h1 : (0 : Int) < j := hc.1
  have h2 : j < 1073741824 := hc.2
  exact floordiv_int (by omega) (by rw [Int.fdiv_eq_ediv_of_nonneg i (by omega)]; exact q) (.inl (PyProof.noPylong_small (by omega)))
theorem unI {f : Value → Sem Value} {g : Int → Int}
    (rule : ∀ (i : Int) (t : Tok) (s : Shared) (Q : Value → Shared → Prop) (E : Value → Shared → Prop), Q (.int (g i) s.toks) { s with toks := s.toks + 1 } → wpAny (model X.prog X.w) X.A (f (.int i t)) Q E s) :
    UnR X f (rU fun i => .int (g i)) := by
  intro pins s σ H x v Q I rx h
  obtain ⟨i, rfl, q⟩ := h
  obtain ⟨t, rfl⟩ := rx
  exact rule i t s _ _ ⟨.int (g i), H, I.tok _, ⟨_, rfl⟩, q⟩
theorem un_neg : UnR X (unaryOp .USub) (rU fun i => .int (-i)) := unI fun _ _ _ _ _ q => neg_int q
end
def scal : V → V → Bool
  | .non, .non => true | .non, .int _ => true | .int _, .non => true | .non, .bl _ => true | .bl _, .non => true | .non, .str _ => true | .str _, .non => true
  | .int _, .int _ => true | .bl _, .bl _ => true | .str _, .str _ => true | .byt _, .byt _ => true
  | .int _, .str _ => true | .str _, .int _ => true | .bl _, .str _ => true | .str _, .bl _ => true
  | _, _ => false
def rEq : R2 := fun x y H Q => scal x y = true ∧ Q (.bl (decide (x = y))) H
def rNe : R2 := fun x y H Q => scal x y = true ∧ Q (.bl (!decide (x = y))) H
theorem dec_int {i j : Int} : decide (V.int i = V.int j) = (i == j) := by
  rw [Bool.eq_iff_iff]
  simp
theorem dec_bl {i j : Bool} : decide (V.bl i = V.bl j) = (i == j) := by
  rw [Bool.eq_iff_iff]
  simp
theorem dec_str {i j : Str} : decide (V.str i = V.str j) = (i == j) := by
  rw [Bool.eq_iff_iff]
  simp
theorem dec_byt {i j : Array UInt8} : decide (V.byt i = V.byt j) = (i.toList == j.toList) := by
  rw [Bool.eq_iff_iff]
  cases i
  cases j
  simp
section
variable {X : Cx} {a b c : Expr} {ta tb tc : TE} {pos : Pos}
theorem fin_bl {pins : List (Addr × Obj)} {σ : St} {H : Hp} {s : Shared} {Q : VK} {k k' : Bool} (I : Inv X pins σ H s) (q : Q (.bl k) H) (e : k = k') : EP X pins σ Q (.bool k') s := by
  subst e
  exact ⟨.bl k, H, I, rfl, q⟩
theorem op_eq : OpR X (compareOp .Eq) rEq := by
  intro pins s σ H x y v u Q I rx ry h
  obtain ⟨hs, q⟩ := h
  cases x with
  | non =>
    cases rx
    cases y with
    | non => cases ry; exact PySem.EqNone.eq_none_none (fin_bl I q (by simp))
    | bl j => cases ry; exact PySem.EqNone.eq_none_bool (fin_bl I q (by simp))
    | int j => obtain ⟨t', rfl⟩ := ry; exact PySem.EqNone.eq_none_int (fin_bl I q (by simp))
    | str j => obtain ⟨t', rfl⟩ := ry; exact PySem.EqNone.eq_none_str (fin_bl I q (by simp))
    | _ => exact absurd (show false = true from hs) Bool.false_ne_true
  | bl i =>
    cases rx
    cases y with
    | non => cases ry; exact PySem.EqNone.eq_bool_none (fin_bl I q (by simp))
    | bl j => cases ry; exact eq_bool (fin_bl I q dec_bl)
    | str j => obtain ⟨t', rfl⟩ := ry; exact PySem.EqMixed.eq_bool_str (fin_bl I q (by simp))
    | _ => exact absurd (show false = true from hs) Bool.false_ne_true
  | int i =>
    obtain ⟨t, rfl⟩ := rx
    cases y with
    | non => cases ry; exact PySem.EqNone.eq_int_none (fin_bl I q (by simp))
    | int j => obtain ⟨t', rfl⟩ := ry; exact eq_int (fin_bl I q dec_int)
    | str j => obtain ⟨t', rfl⟩ := ry; exact PySem.EqMixed.eq_int_str (fin_bl I q (by simp))
    | _ => exact absurd (show false = true from hs) Bool.false_ne_true
  | str i =>
    obtain ⟨t, rfl⟩ := rx
    cases y with
    | non => cases ry; exact PySem.EqNone.eq_str_none (fin_bl I q (by simp))
    | bl j => cases ry; exact PySem.EqMixed.eq_str_bool (fin_bl I q (by simp))
    | int j => obtain ⟨t', rfl⟩ := ry; exact PySem.EqMixed.eq_str_int (fin_bl I q (by simp))
    | str j => obtain ⟨t', rfl⟩ := ry; exact eq_str (fin_bl I q dec_str)
    | _ => exact absurd (show false = true from hs) Bool.false_ne_true
  | byt i =>
    obtain ⟨t, rfl⟩ := rx
    cases y with
    | byt j => obtain ⟨t', rfl⟩ := ry; exact PySem.W.eq_bytes (fin_bl I q dec_byt)
    | _ => exact absurd (show false = true from hs) Bool.false_ne_true
  | _ => cases y <;> exact absurd (show false = true from hs) Bool.false_ne_true
theorem op_ne : OpR X (compareOp .NotEq) rNe := by
  intro pins s σ H x y v u Q I rx ry h
  obtain ⟨hs, q⟩ := h
  cases x with
  | non =>
    cases rx
    cases y with
    | non => cases ry; exact PySem.EqNone.ne_none_none (fin_bl I q (by simp))
    | bl j => cases ry; exact PySem.EqNone.ne_none_bool (fin_bl I q (by simp))
    | int j => obtain ⟨t', rfl⟩ := ry; exact PySem.EqNone.ne_none_int (fin_bl I q (by simp))
    | str j => obtain ⟨t', rfl⟩ := ry; exact PySem.EqNone.ne_none_str (fin_bl I q (by simp))
    | _ => exact absurd (show false = true from hs) Bool.false_ne_true
  | bl i =>
    cases rx
    cases y with
    | non => cases ry; exact PySem.EqNone.ne_bool_none (fin_bl I q (by simp))
    | bl j => cases ry; exact ne_bool (fin_bl I q (congrArg not dec_bl))
    | str j => obtain ⟨t', rfl⟩ := ry; exact PySem.EqMixed.ne_bool_str (fin_bl I q (by simp))
    | _ => exact absurd (show false = true from hs) Bool.false_ne_true
  | int i =>
    obtain ⟨t, rfl⟩ := rx
    cases y with
    | non => cases ry; exact PySem.EqNone.ne_int_none (fin_bl I q (by simp))
    | int j => obtain ⟨t', rfl⟩ := ry; exact ne_int (fin_bl I q (congrArg not dec_int))
    | str j => obtain ⟨t', rfl⟩ := ry; exact PySem.EqMixed.ne_int_str (fin_bl I q (by simp))
    | _ => exact absurd (show false = true from hs) Bool.false_ne_true
  | str i =>
    obtain ⟨t, rfl⟩ := rx
    cases y with
    | non => cases ry; exact PySem.EqNone.ne_str_none (fin_bl I q (by simp))
    | bl j => cases ry; exact PySem.EqMixed.ne_str_bool (fin_bl I q (by simp))
    | int j => obtain ⟨t', rfl⟩ := ry; exact PySem.EqMixed.ne_str_int (fin_bl I q (by simp))
    | str j => obtain ⟨t', rfl⟩ := ry; exact ne_str (fin_bl I q (congrArg not dec_str))
    | _ => exact absurd (show false = true from hs) Bool.false_ne_true
  | byt i =>
    obtain ⟨t, rfl⟩ := rx
    cases y with
    | byt j => obtain ⟨t', rfl⟩ := ry; exact PySem.W.ne_bytes (fin_bl I q (congrArg not dec_byt))
    | _ => exact absurd (show false = true from hs) Bool.false_ne_true
  | _ => cases y <;> exact absurd (show false = true from hs) Bool.false_ne_true
theorem op_lt : OpR X (compareOp .Lt) (rI0 fun i j => .bl (decide (i < j))) := opB0 fun _ _ _ _ _ _ _ q => lt_int q
theorem op_le : OpR X (compareOp .LtE) (rI0 fun i j => .bl (decide (i ≤ j))) := opB0 fun _ _ _ _ _ _ _ q => le_int q
theorem op_gt : OpR X (compareOp .Gt) (rI0 fun i j => .bl (decide (j < i))) := opB0 fun _ _ _ _ _ _ _ q => gt_int q
theorem op_ge : OpR X (compareOp .GtE) (rI0 fun i j => .bl (decide (j ≤ i))) := opB0 fun _ _ _ _ _ _ _ q => ge_int q
theorem nomark (b : Expr) {op : CmpOp} (h : op ≠ .In := by decide) (h2 : op ≠ .NotIn := by decide) : behindInMarks op b = false := by
  have e1 : (op == CmpOp.In) = false := by cases op <;> first | rfl | exact absurd rfl h
  have e2 : (op == CmpOp.NotIn) = false := by cases op <;> first | rfl | exact absurd rfl h2
  cases b <;> simp [behindInMarks, e1, e2]
theorem pe_cmpR {op : CmpOp} {r : R2} (ho : OpR X (compareOp op) r) (ha : PE X a ta) (hb : PE X b tb) (hm : behindInMarks op b = false) : PE X (.Compare a [op] [b] pos) (tOp r ta tb) := by
  intro pins s σ H Q I h
  exact wpAny_Compare1 (binT ha hb I h fun v u s2 x y H2 I2 rx ry q => ho pins s2 σ H2 x y v u Q I2 rx ry q) hm
def tTest (t : TE) : TT := fun σ H Q => t σ H fun x H' => ∃ k, x = .bl k ∧ Q k H'
theorem pt_cmpR {op : CmpOp} {r : R2} (ho : OpR X (compareOp op) r) (ha : PE X a ta) (hb : PE X b tb) (hm : behindInMarks op b = false) : PT X (.Compare a [op] [b] pos) (tTest (tOp r ta tb)) := by
  intro pins s σ H Q I h
  refine wpAny_isTrue_Compare1 (thn (ha pins s σ H _ I h) fun v s1 ⟨x, H1, I1, r1, q1⟩ => thn (hb pins s1 σ H1 _ I1 q1) fun u s2 ⟨y, H2, I2, r2, q2⟩ =>
    thn (ho pins s2 σ H2 x y v u _ I2 r1 r2 q2) fun c s3 ⟨z, H3, I3, r3, k, e, q3⟩ => ?_) hm
  subst e
  cases r3
  exact wpAny_truthy_bool ⟨H3, I3, q3⟩
def tChain (r r' : R2) (ta tb tc : TE) : TE := fun σ H Q => ta σ H fun x H1 => tb σ H1 fun y H2 => r x y H2 fun z H3 => ∃ k, z = .bl k ∧
  (if k = true then tc σ H3 fun w' H4 => r' y w' H4 Q else Q (.bl false) H3)
theorem pe_chain {op op' : CmpOp} {r r' : R2} (ho : OpR X (compareOp op) r) (ho' : OpR X (compareOp op') r') (ha : PE X a ta) (hb : PE X b tb) (hc : PE X c tc)
    (hm : lastMarks [op, op'] [b, c] = false := by with_unfolding_all rfl) : PE X (.Compare a [op, op'] [b, c] pos) (tChain r r' ta tb tc) := by
  intro pins s σ H Q I h
  refine Compare_chain (thn (ha pins s σ H _ I h) fun v s1 ⟨x, H1, I1, r1, q1⟩ => chain_link (thn (hb pins s1 σ H1 _ I1 q1) fun u s2 ⟨y, H2, I2, r2, q2⟩ =>
    thn (ho pins s2 σ H2 x y v u _ I2 r1 r2 q2) fun d s3 ⟨z, H3, I3, r3, k, e, q3⟩ => ?_)) hm
  subst e
  cases r3
  refine wpAny_truthy_bool ?_
  cases k with
  | false => exact ite_ff ⟨.bl false, H3, I3, rfl, q3⟩
  | true => exact ite_tt (chain_last (thn (hc pins s3 σ H3 _ I3 q3) fun w' s4 ⟨z', H4, I4, r4, q4⟩ => ho' pins s4 σ H4 y z' u w' Q I4 r2 r4 q4))
theorem pt_chain {op op' : CmpOp} {r r' : R2} (ho : OpR X (compareOp op) r) (ho' : OpR X (compareOp op') r') (ha : PE X a ta) (hb : PE X b tb) (hc : PE X c tc)
    (hm : lastMarks [op, op'] [b, c] = false := by with_unfolding_all rfl) : PT X (.Compare a [op, op'] [b, c] pos) (tTest (tChain r r' ta tb tc)) := by
  intro pins s σ H Q I h
  refine isTrue_chain (thn (ha pins s σ H _ I h) fun v s1 ⟨x, H1, I1, r1, q1⟩ => test_link (thn (hb pins s1 σ H1 _ I1 q1) fun u s2 ⟨y, H2, I2, r2, q2⟩ =>
    thn (ho pins s2 σ H2 x y v u _ I2 r1 r2 q2) fun d s3 ⟨z, H3, I3, r3, k, e, q3⟩ => ?_)) hm
  subst e
  cases r3
  refine wpAny_truthy_bool ?_
  cases k with
  | false =>
    obtain ⟨k', e', q'⟩ := q3
    cases e'
    exact ite_ff ⟨H3, I3, q'⟩
  | true =>
    refine ite_tt (test_last (thn (hc pins s3 σ H3 _ I3 q3) fun w' s4 ⟨z', H4, I4, r4, q4⟩ => thn (ho' pins s4 σ H4 y z' u w' _ I4 r2 r4 q4) fun d' s5 ⟨z2, H5, I5, r5, k2, e2, q5⟩ => ?_))
    subst e2
    cases r5
    exact wpAny_truthy_bool ⟨H5, I5, q5⟩
def TruV (K : PySem.W.Frag) (x : V) (H : Hp) (k : Bool) : Prop :=
  match x with
  | .non => k = false
  | .bl b => k = b
  | .int i => k = (i != 0)
  | .str y => y.length ≤ sizeLine ∧ k = ((y.length : Int) != 0)
  | .byt y => y.size ≤ sizeLine ∧ k = ((y.size : Int) != 0)
  | .ref p => (∃ xs, SqL K H p xs ∧ k = !xs.isEmpty) ∨ (∃ xs, SqT K H p xs ∧ k = !xs.isEmpty) ∨ ∃ kvs, H p = some (.dK kvs) ∧ k = !kvs.isEmpty
  | _ => False
theorem isEmpty_kv {κ : Type} {kvs : List (κ × V)} {vs : List (κ × Value)} (r : KV kvs vs) : (!vs.isEmpty) = !kvs.isEmpty := by
  cases r <;> rfl
theorem isEmpty_of {xs : List V} {its : List Value} (r : Vals xs its) : (!its.toArray.isEmpty) = !xs.isEmpty := by
  cases r <;> simp
theorem line63 : (sizeLine : Nat) < 2 ^ 63 := by rw [sizeLine_eq]; decide
theorem tru_ok : TruR X (fun x H Q => ∃ k, TruV X.K x H k ∧ Q k H) := by
  intro pins s σ H x v Q I rx h
  obtain ⟨k, e, q⟩ := h
  have hl := line63
  have hs : sizeLine = 16777216 := sizeLine_eq
  cases x with
  | non =>
    cases rx
    have e' : k = false := e
    subst e'
    exact truthy_none ⟨H, I, q⟩
  | bl b =>
    cases rx
    have e' : k = b := e
    subst e'
    exact wpAny_truthy_bool ⟨H, I, q⟩
  | int i =>
    obtain ⟨t, rfl⟩ := rx
    have e' : k = (i != 0) := e
    subst e'
    exact PySem.P.truthy_int ⟨H, I, q⟩
  | str y =>
    obtain ⟨t, rfl⟩ := rx
    obtain ⟨hy, e'⟩ : y.length ≤ sizeLine ∧ k = ((y.length : Int) != 0) := e
    subst e'
    exact PySem.P.truthy_str (by omega) ⟨H, I.tok _, q⟩
  | byt y =>
    obtain ⟨t, rfl⟩ := rx
    obtain ⟨hy, e'⟩ : y.size ≤ sizeLine ∧ k = ((y.size : Int) != 0) := e
    subst e'
    exact PySem.W.truthy_bytes (by omega) ⟨H, I.tok _, q⟩
  | ref p =>
    cases rx
    have e' : (∃ xs, SqL X.K H p xs ∧ k = !xs.isEmpty) ∨ (∃ xs, SqT X.K H p xs ∧ k = !xs.isEmpty) ∨ ∃ kvs, H p = some (.dK kvs) ∧ k = !kvs.isEmpty := e
    rcases e' with ⟨xs, hx, e'⟩ | ⟨xs, hx, e'⟩ | ⟨kvs, hx, e'⟩
    · subst e'
      obtain ⟨its, r, pl, hz⟩ := I.list hx
      have hlen := r.length
      exact wpAny_truthy_list pl.isList (by simp only [List.size_toArray]; omega) ⟨H, I.tok _, by rw [isEmpty_of r]; exact q⟩
    · subst e'
      obtain ⟨its, r, pl, hz⟩ := I.tuple hx
      have hlen := r.length
      exact truthy_tuple pl (by simp only [List.size_toArray]; omega) ⟨H, I.tok _, by rw [isEmpty_of r]; exact q⟩
    · subst e'
      obtain ⟨hz, hS, vs, r, m⟩ : kvs.length ≤ sizeLine ∧ (p == sysModules) = false ∧ ∃ vs, KV kvs vs ∧ s.heap.DictOf (mixKind X.prog X.w) p vs := I.hok p _ hx
      have hlen : kvs.length = vs.length := Paired.length r
      exact wpAny_truthy_dict hS m (by omega) ⟨H, I.tok _, by rw [isEmpty_kv r]; exact q⟩
  | _ => exact (show False from e).elim
theorem pt_truth (ha : PE X a ta) (he : ∀ whole, isTrue a X.env whole = (do let v ← whole; standAt a.pos; holding [v] (truthy v))) :
    PT X a (fun σ H Q => ta σ H fun x H' => ∃ k, TruV X.K x H' k ∧ Q k H') := by
  intro pins s σ H Q I h
  exact isTrue_plain (thn (ha pins s σ H _ I h) fun v s1 ⟨x, H1, I1, r1, q1⟩ => tru_ok pins s1 σ H1 x v Q I1 r1 q1) (he _)
theorem vals1 {x : V} {us : List Value} (r : Vals [x] us) : ∃ u, us = [u] ∧ RelV x u := by
  cases r with
  | cons r1 r2 => cases r2; exact ⟨_, rfl, r1⟩
end
end L2
namespace L2
open PySem PySem.Spec PyProof.Rows
structure ObjM (h : Heap) (x dx C : Addr) (mA : Str → Option Value) : Prop where
  obj : h.get? x = some (PySem.W.instObj C dx)
  ns : h.Ns1 dx mA
  ne : dx ≠ x
theorem lookIn_ns {h : Heap} {dx : Addr} {mA : Str → Option Value} (n : h.Ns1 dx mA) : ∃ od, h.get? dx = some od ∧ ∀ name, PySem.W.lookIn name od = some (mA name) := by
  obtain ⟨o, es, ep, ho, hd, hk, _, hm⟩ := n
  refine ⟨o, ho, fun name => ?_⟩
  have e := hm name
  unfold nsFind findBy at e
  rw [← Array.find?_toList] at e
  unfold PySem.W.lookIn
  rw [hd]
  dsimp only
  split
  · rename_i y q
    rw [q] at e
    exact congrArg some e
  · rename_i q
    rw [q] at e
    have a : es.toList.any (·.refKey) = false := by
      rw [List.any_eq_false]
      intro y hy
      obtain ⟨z, t, hkey⟩ := hk y (Array.mem_toList_iff.mp hy)
      simp [DictEntry.refKey, hkey]
    have a' : ¬ es.toList.any (·.refKey) = true := by rw [a]; exact Bool.false_ne_true
    rw [if_neg a']
    exact congrArg some e
theorem ObjM.look {h : Heap} {x dx C : Addr} {mA : Str → Option Value} (I : ObjM h x dx C mA) : ∃ od, PySem.W.InstAt h x (PySem.W.instObj C dx) C (some od) ∧ ∀ name, PySem.W.lookIn name od = some (mA name) :=
  let ⟨od, ho, hl⟩ := lookIn_ns I.ns
  ⟨od, ⟨I.obj, rfl, rfl, ho⟩, hl⟩
section
variable {prog : Program} {w : World} {A : Around} {E : Value → Shared → Prop} {s : Shared} {K : PySem.W.Frag} {x dx C f : Addr} {mA : Str → Option Value} {name : Str} {v : Value}
theorem get_map {expr : Bool} {Q : Value → Shared → Prop} (X : K.In s.heap) (I : ObjM s.heap x dx C mA) (hg : PySem.W.plainGet K C name = true) (hh : PySem.W.hasDictIn K C = true)
    (ha : PySem.W.findIn K (.ref C) name = some none) (hv : mA name = some v) (hv' : PySem.W.handedIn v = true) (h : Q v { s with toks := s.toks + 1 }) :
    wpAny (model prog w) A (getAttr (.ref x) name expr) Q E s := by
  obtain ⟨od, J, hl⟩ := I.look
  exact PySem.W.get_value X J (PySem.W.plainGet_of hg).1 (PySem.W.findObj_own hh ha rfl (by rw [hl, hv])) hv' h
theorem set_map {ns : List Str} {Q : Unit → Shared → Prop} (X : K.In s.heap) (I : ObjM s.heap x dx C mA)
    (hs : PySem.W.findIn K (.ref C) "__setattr__" = some (some (.builtin "object.__setattr__"))) (hp : PySem.W.plainOver K C = true) (ht : PySem.W.takerIn K C name = some none) (hh : PySem.W.hasDictIn K C = true)
    (hw : PySem.Within mA ns) (hsz : ns.length ≤ sizeLine)
    (h : ∀ h', ObjM h' x dx C (fun y => if y = name then some v else mA y) → Heap.SameBut dx s.heap h' → Q () { s with heap := h', toks := s.toks + 2 }) :
    wpAny (model prog w) A (setAttr (.ref x) name v) Q E s := by
  obtain ⟨od, J, hl⟩ := I.look
  refine PySem.W.set_plain X J hs (PySem.W.osa_open (s := { s with toks := s.toks + 1 }) (r := none) X J hp ht fun b => ?_)
  obtain ⟨cd, hc, hd'⟩ := PySem.W.any_some hh
  have hx : s.heap.get? x = some ⟨.ref C, some dx, .plain, #[]⟩ := I.obj
  refine wpAny_bind (wpAny_pure (wpAny_bind (wpAny_bind (wpAny_loadPart hx (wpAny_bind (PySem.W.Looks.here (s := { s with toks := s.toks + 1 }) (PySem.W.looks_clsIn X hc) ?_))))))
  rw [hd']
  refine wpAny_pure (a := some dx) (wpAny_bind (wpAny_pure (wpAny_bind ?_)))
  refine wpAny_nsSet1 (s := { s with toks := s.toks + 1 }) I.ns fun h' hn2 hs2 => ?_
  obtain ⟨oD, esD, epD, hoD, hdD, hcD⟩ := hn2.count (PySem.Within.cons name v hw)
  refine wpAny_bind (wpAny_lookBehind hoD (by rw [hdD]; exact pastItsLine_dict (Nat.le_trans hcD (by rw [List.length_cons]; omega))) ?_)
  exact wpAny_pure (h _ ⟨(hs2.2 _ (Ne.symm I.ne)).trans I.obj, hn2, I.ne⟩ hs2)
theorem make_map {R : Result → Shared → Prop} {vs : List Value} {kw : List (Str × Value)} (X : K.In s.heap) (hm : PySem.W.makesIn K C = true)
    (hi : PySem.W.findIn K (.ref C) "__init__" = some (some (.ref f))) (hf : PySem.W.typeIn K (.ref f) = some (.type "function"))
    (h : codeAny (model prog w) (A.under (.builtin "type.__call__" ⟨.ref C :: vs, kw⟩)) (.call (.ref f) ⟨.ref (s.heap.objs.size + 1) :: vs, kw⟩) (PySem.W.InitBack (s.heap.objs.size + 1) R)
      { s with heap := (s.heap.push PySem.W.emptyDict).push (PySem.W.instObj C s.heap.objs.size) }) :
    codeAny (model prog w) A (.call (.ref C) ⟨vs, kw⟩) R s := by
  obtain ⟨hh, g, d, t, os⟩ := s
  exact PySem.W.make_core (PySem.W.makes_of X hm) (PySem.W.looks_findIn X hi) (fun self => PySem.W.bind_fn X self hf) (.inl rfl) h
end
def putF (f : Str) (v : V) : List (Str × V) → List (Str × V)
  | [] => [(f, v)]
  | (g, x) :: r => if g = f then (g, v) :: r else (g, x) :: putF f v r
theorem lookup_putF (f g : Str) (v : V) : ∀ fs : List (Str × V), (putF f v fs).lookup g = if g = f then some v else fs.lookup g
  | [] => by
    show List.lookup g [(f, v)] = _
    by_cases h : g = f
    · have hb : (g == f) = true := beq_iff_eq.mpr h
      simp only [List.lookup, hb, if_pos h]
    · have hb : (g == f) = false := beq_eq_false_iff_ne.mpr h
      simp only [List.lookup, hb, if_neg h]
  | (k, x) :: r => by
    have ih := lookup_putF f g v r
    rw [show putF f v ((k, x) :: r) = (if k = f then (k, v) :: r else (k, x) :: putF f v r) from rfl]
    by_cases hk : k = f
    · rw [if_pos hk]
      by_cases h : g = k
      · have hb : (g == k) = true := beq_iff_eq.mpr h
        simp only [List.lookup, hb, if_pos (h.trans hk)]
      · have hb : (g == k) = false := beq_eq_false_iff_ne.mpr h
        simp only [List.lookup, hb, if_neg (fun e : g = f => h (e.trans hk.symm))]
    · rw [if_neg hk]
      by_cases h : g = k
      · have hb : (g == k) = true := beq_iff_eq.mpr h
        simp only [List.lookup, hb, if_neg (fun e : g = f => hk (h.symm.trans e))]
      · have hb : (g == k) = false := beq_eq_false_iff_ne.mpr h
        simp only [List.lookup, hb]
        exact ih
theorem keys_putF (f : Str) (v : V) : ∀ fs : List (Str × V), f ∈ (putF f v fs).map (·.1) ∧ ∀ g, g ∈ fs.map (·.1) → g ∈ (putF f v fs).map (·.1)
  | [] => ⟨by simp [putF], fun g h => by simp at h⟩
  | (k, x) :: r => by
    obtain ⟨i1, i2⟩ := keys_putF f v r
    rw [show putF f v ((k, x) :: r) = (if k = f then (k, v) :: r else (k, x) :: putF f v r) from rfl]
    by_cases hk : k = f
    · rw [if_pos hk]
      subst hk
      exact ⟨by simp, fun g h => by simpa using h⟩
    · rw [if_neg hk]
      refine ⟨?_, fun g h => ?_⟩
      · rw [List.map_cons]
        exact List.mem_cons_of_mem _ i1
      · rw [List.map_cons] at h ⊢
        rcases List.mem_cons.mp h with e | e
        · exact List.mem_cons.mpr (.inl e)
        · exact List.mem_cons_of_mem _ (i2 g e)
theorem length_putF (f : Str) (v : V) : ∀ fs : List (Str × V), (putF f v fs).length ≤ fs.length + 1
  | [] => by simp [putF]
  | (k, x) :: r => by
    have ih := length_putF f v r
    rw [show putF f v ((k, x) :: r) = (if k = f then (k, v) :: r else (k, x) :: putF f v r) from rfl]
    by_cases hk : k = f
    · rw [if_pos hk, List.length_cons, List.length_cons]; omega
    · rw [if_neg hk, List.length_cons, List.length_cons]; omega
theorem RelO.some_of {v : V} {o : Option Value} (r : RelO (some v) o) : ∃ u, o = some u ∧ RelV v u := by
  cases o with
  | none => exact (show False from r).elim
  | some u => exact ⟨u, rfl, r⟩
theorem handed_of {v : V} {u : Value} (r : RelV v u) : PySem.W.handedIn u = true := by
  cases v with
  | non => cases (show u = Value.none from r); rfl
  | bl b => cases (show u = Value.bool b from r); rfl
  | int i => obtain ⟨t, e⟩ := (show ∃ t, u = Value.int i t from r); cases e; rfl
  | str x => obtain ⟨t, e⟩ := (show ∃ t, u = Value.str x t from r); cases e; rfl
  | byt b => obtain ⟨t, e⟩ := (show ∃ t, u = Value.bytes b t from r); cases e; rfl
  | flt b => obtain ⟨t, e⟩ := (show ∃ t, u = Value.float b t from r); cases e; rfl
  | ref a => cases (show u = Value.ref a from r); rfl
  | ty n => cases (show u = Value.type n from r); rfl
section
variable {P : Program} {w : World} {H H' : Hp} {h h' : Heap} {a C dx : Addr} {fs fs' : List (Str × V)}
theorem ins_get (hok : HOk P w H h) (e : H a = some (.ins C dx fs)) : ∃ mA, ObjM h a dx C mA ∧ (∀ f, RelO (fs.lookup f) (mA f)) ∧ PySem.Within mA (fs.map (·.1)) ∧ fs.length ≤ 1000 ∧ H dx = some (.own a) := by
  obtain ⟨d, z, ne, ob, mA, n, r, q⟩ := (show ObjOk P w H h a (.ins C dx fs) from hok a _ e)
  exact ⟨mA, ⟨ob, n, ne⟩, r, q, z, d⟩
end
structure Cls (K : PySem.W.Frag) (C : Addr) : Prop where
  pg : PySem.W.plainGet K C Str.empty = true
  hd : PySem.W.hasDictIn K C = true
  po : PySem.W.plainOver K C = true
  sa : PySem.W.findIn K (.ref C) "__setattr__" = some (some (.builtin "object.__setattr__"))
theorem Cls.get {K : PySem.W.Frag} {C : Addr} (c : Cls K C) (f : Str) : PySem.W.plainGet K C f = true := c.pg
def NoAttr (K : PySem.W.Frag) (C : Addr) (f : Str) : Prop := PySem.W.findIn K (.ref C) f = some none
theorem NoAttr.taker {K : PySem.W.Frag} {C : Addr} {f : Str} (n : NoAttr K C f) : PySem.W.takerIn K C f = some none := by
  unfold PySem.W.takerIn
  rw [show PySem.W.findIn K (.ref C) f = some none from n]
  rfl
section
variable {X : Cx} {pins : List (Addr × Obj)} {σ : St} {H : Hp} {s : Shared} {a C dx : Addr} {fs : List (Str × V)} {f : Str} {v : V} {A : Around} {E : Value → Shared → Prop}
theorem getattr_ok {b : Bool} {Q : Value → Shared → Prop} (I : Inv X pins σ H s) (e : H a = some (.ins C dx fs)) (c : Cls X.K C) (n : NoAttr X.K C f) (l : fs.lookup f = some v)
    (h : ∀ u s', Inv X pins σ H s' → RelV v u → Q u s') : wpAny (model X.prog X.w) A (getAttr (.ref a) f b) Q E s := by
  obtain ⟨mA, O, r, _, _, _⟩ := ins_get I.hok e
  obtain ⟨u, hu, ru⟩ := RelO.some_of (v := v) (o := mA f) (by rw [← l]; exact r f)
  exact get_map I.kIn O (c.get f) c.hd n hu (handed_of ru) (h u _ (I.tok _) ru)
theorem setattr_ok {y : V} {u : Value} {Q : Unit → Shared → Prop} (I : Inv X pins σ H s) (e : H a = some (.ins C dx fs)) (c : Cls X.K C) (n : NoAttr X.K C f) (hl : fs.length < 1000) (ry : RelV y u)
    (h : ∀ s', Inv X pins σ (upd H a (.ins C dx (putF f y fs))) s' → Q () s') : wpAny (model X.prog X.w) A (setAttr (.ref a) f u) Q E s := by
  obtain ⟨mA, O, r, wi, _, ho⟩ := ins_get I.hok e
  have hz : (fs.map (·.1)).length ≤ sizeLine := by rw [List.length_map, sizeLine_eq]; omega
  refine set_map I.kIn O c.sa c.po n.taker c.hd wi hz fun h' O' sb => h _ ?_
  have hd : ∃ o, h'.get? dx = some o := let ⟨o, _, _, e', _⟩ := O'.ns; ⟨o, e'⟩
  refine I.write (x := a) (e := dx) (by rw [e]; exact True.intro) (.inr ho) (fun b q hb z => (sb.2 b hb).trans z) hd ?_
  refine ⟨by rw [upd_ne O.ne]; exact ho, ?_, O.ne, O'.obj, _, O'.ns, fun g => ?_, fun g hg => ?_⟩
  · have := length_putF f y fs; omega
  · show RelO ((putF f y fs).lookup g) (if g = f then some u else mA g)
    rw [lookup_putF]
    by_cases q : g = f
    · rw [if_pos q, if_pos q]; exact ry
    · rw [if_neg q, if_neg q]; exact r g
  · by_cases q : g = f
    · rw [q]; exact (keys_putF f y fs).1
    · refine (keys_putF f y fs).2 g (wi g fun z => hg ?_)
      show (if g = f then some u else mA g) = none
      rw [if_neg q]; exact z
theorem Inv.made (I : Inv X pins σ H s) : Inv X pins σ (upd (upd H s.heap.objs.size (.own (s.heap.objs.size + 1))) (s.heap.objs.size + 1) (.ins C s.heap.objs.size []))
    { s with heap := (s.heap.push PySem.W.emptyDict).push (PySem.W.instObj C s.heap.objs.size) } := by
  have e1 : (s.heap.push PySem.W.emptyDict).get? s.heap.objs.size = some PySem.W.emptyDict := Heap.get?_push_size s.heap rfl
  have e2 : ((s.heap.push PySem.W.emptyDict).push (PySem.W.instObj C s.heap.objs.size)).get? (s.heap.objs.size + 1) = some (PySem.W.instObj C s.heap.objs.size) := by
    have := Heap.get?_push_size (s.heap.push PySem.W.emptyDict) (o := PySem.W.instObj C s.heap.objs.size) rfl
    rwa [Heap.size_push] at this
  have e3 : (s.heap.push PySem.W.emptyDict).Ns s.heap.objs.size (fun _ => none) := ⟨PySem.W.emptyDict, #[], _, e1, rfl, (fun e he => absurd he (by simp)), fun _ => rfl⟩
  have I1 := I.laid (a := s.heap.objs.size) (o := .own (s.heap.objs.size + 1)) (h' := s.heap.push PySem.W.emptyDict) (t' := s.toks) (fun b u q => Heap.get?_push_of_some _ q) (Nat.le_refl _) ⟨_, e1⟩
  refine I1.laid (a := s.heap.objs.size + 1) (o := .ins C s.heap.objs.size []) (t' := s.toks) (fun b u q => Heap.get?_push_of_some _ q) (Nat.le_of_eq (Heap.size_push _ _)) ?_
  have ne : s.heap.objs.size ≠ s.heap.objs.size + 1 := Nat.ne_of_lt (Nat.lt_succ_self _)
  refine ⟨by rw [upd_ne ne, upd_same], Nat.zero_le _, ne, e2, fun _ => none, (Heap.Ns1.of_empty e3).at fun o q => Heap.get?_push_of_some _ q, fun _ => True.intro, fun y hy => absurd rfl hy⟩
theorem attr_of {prog : Program} {w : World} {env : Env} {e : Expr} {f : Str} {pos : Pos} {s : Shared} {Q : Value → Shared → Prop} (hb : attributeBase e f env (eval e env) = eval e env)
    (h : wpAny (model prog w) A (eval e env) (fun o s₁ => wpAny (model prog w) A (getAttr o f true) Q E s₁) E s) : wpAny (model prog w) A (eval (.Attribute e f pos) env) Q E s :=
  Attribute_any_ h (by rw [arm_eval_Attribute, hb])
end
def tFld (K : PySem.W.Frag) (ta : TE) (f : Str) : TE := fun σ H Q => ta σ H fun x H1 => ∃ a C dx fs v, x = .ref a ∧ H1 a = some (.ins C dx fs) ∧ Cls K C ∧ NoAttr K C f ∧ fs.lookup f = some v ∧ Q v H1
def sFld (K : PySem.W.Frag) (ta tv : TE) (f : Str) : TS := fun D σ H => tv σ H fun y H1 => ta σ H1 fun x H2 => ∃ a C dx fs, x = .ref a ∧ H2 a = some (.ins C dx fs) ∧ Cls K C ∧ NoAttr K C f ∧ fs.length < 1000 ∧
  D.nx σ (upd H2 a (.ins C dx (putF f y fs)))
def InOp (X : Cx) (op : Operator) (rd : V → V → Hp → VK → Prop) : Prop :=
  ∀ (pins : List (Addr × Obj)) (s : Shared) (σ : St) (H : Hp) (x y : V) (u v : Value) (Q : VK), Inv X pins σ H s → RelV x u → RelV y v → rd x y H Q → wpAny (model X.prog X.w) X.A (inplaceOp op u v) (EP X pins σ Q) X.xe s
def sFldAug (K : PySem.W.Frag) (ta tv : TE) (rd : V → V → Hp → VK → Prop) (f : Str) : TS := fun D σ H => ta σ H fun x H1 => ∃ a C dx fs v, x = .ref a ∧ H1 a = some (.ins C dx fs) ∧ Cls K C ∧ NoAttr K C f ∧ fs.lookup f = some v ∧
  tv σ H1 fun y H2 => rd v y H2 fun z H3 => ∃ dx' fs', H3 a = some (.ins C dx' fs') ∧ fs'.length < 1000 ∧ D.nx σ (upd H3 a (.ins C dx' (putF f z fs')))
section
variable {X : Cx} {o e value : Expr} {f : Str} {pos pos' tpos : Pos} {ta tv : TE}
theorem pe_fld (he : PE X e ta) (hb : attributeBase e f X.env (eval e X.env) = eval e X.env) : PE X (.Attribute e f pos) (tFld X.K ta f) := by
  intro pins s σ H Q I h
  refine attr_of hb (thn (he pins s σ H _ I h) fun u s1 ⟨x, H1, I1, rx, a, C, dx, fs, v, ex, ea, c, n, l, q⟩ => ?_)
  subst ex
  obtain rfl : u = Value.ref a := rx
  exact getattr_ok I1 ea c n l fun u' s2 I2 ru => ⟨v, H1, I2, ru, q⟩
theorem ps_fld (ha : PE X o ta) (hv : PE X value tv) (hs : swapsWith value (some (.Attribute o f pos')) pos.line X.env = pure false) : PS X (.Assign [.Attribute o f pos'] value pos) (sFld X.K ta tv f) := by
  intro pins s σ H D I h
  refine plainObj_wpAny_Assign_Attribute (thn (hv pins s σ H _ I h) fun u s1 ⟨y, H1, I1, ry, q⟩ => thn (ha pins s1 σ H1 _ I1 q) fun ov s2 ⟨x, H2, I2, rx, a, C, dx, fs, ex, ea, c, n, l, q2⟩ => ?_) hs
  subst ex
  obtain rfl : ov = Value.ref a := rx
  exact setattr_ok I2 ea c n l ry fun s3 I3 => ⟨σ, _, I3, q2⟩
theorem ps_fldaug {op : Operator} {rd : V → V → Hp → VK → Prop} (ha : PE X o ta) (hv : PE X value tv) (hop : InOp X op rd) : PS X (.AugAssign (.Attribute o f tpos) op value pos) (sFldAug X.K ta tv rd f) := by
  intro pins s σ H D I h
  refine wpAny_AugAssign_AttributeAny (thn (ha pins s σ H _ I h) fun ov s1 ⟨x, H1, I1, rx, a, C, dx, fs, v, ex, ea, c, n, l, q⟩ => ?_)
  subst ex
  obtain rfl : ov = Value.ref a := rx
  refine getattr_ok I1 ea c n l fun u s2 I2 ru => thn (hv pins s2 σ H1 _ I2 q) fun w3 s3 ⟨y, H2, I3, ry, q3⟩ => thn (hop pins s3 σ H2 v y u w3 _ I3 ru ry q3) fun w4 s4 ⟨z, H3, I4, rz, dx', fs', ea', l', q4⟩ => ?_
  exact setattr_ok I4 ea' c n l' rz fun s5 I5 => ⟨σ, _, I5, q4⟩
def rAdd : V → V → Hp → VK → Prop := fun x y H Q => ∃ i j, x = .int i ∧ y = .int j ∧ Q (.int (i + j)) H
def rSub : V → V → Hp → VK → Prop := fun x y H Q => ∃ i j, x = .int i ∧ y = .int j ∧ Q (.int (i - j)) H
theorem in_add : InOp X .Add rAdd := by
  rintro pins s σ H x y u v Q I rx ry ⟨i, j, rfl, rfl, q⟩
  obtain ⟨t, rfl⟩ := (show ∃ t, u = Value.int i t from rx)
  obtain ⟨t', rfl⟩ := (show ∃ t', v = Value.int j t' from ry)
  exact PyProof.Rows.iadd_int ⟨.int (i + j), H, I.tok _, ⟨_, rfl⟩, q⟩
theorem in_sub : InOp X .Sub rSub := by
  rintro pins s σ H x y u v Q I rx ry ⟨i, j, rfl, rfl, q⟩
  obtain ⟨t, rfl⟩ := (show ∃ t, u = Value.int i t from rx)
  obtain ⟨t', rfl⟩ := (show ∃ t', v = Value.int j t' from ry)
  exact PyProof.Rows.isub_int ⟨.int (i - j), H, I.tok _, ⟨_, rfl⟩, q⟩
end
section
variable {X : Cx} {pins : List (Addr × Obj)} {σ : St} {H : Hp} {s : Shared} {A : Around} {E : Value → Shared → Prop} {Q : Value → Shared → Prop} {c : Value} {b : Bool}
end
end L2
namespace L2
open PySem PySem.Spec PyProof.Rows
structure Room (k : Nat) (A : Around) : Prop where
  hd : A.handled = none
  dp : A.depth + 3 * k + 5 < recursionLimit
  un : A.units + 16 * k + 200 < cLine
theorem Room.mono {j k : Nat} {A : Around} (r : Room k A) (h : j ≤ k) : Room j A := ⟨r.hd, by have := r.dp; omega, by have := r.un; omega⟩
theorem Room.deeper {k : Nat} {A : Around} (r : Room (k + 1) A) (env : Env) : Room k (A.deeper env) :=
  ⟨r.hd, by have := r.dp; show A.depth + 1 + 3 * k + 5 < _; omega, by have := r.un; show A.units + 3 + 16 * k + 200 < _; omega⟩
theorem Room.in1 {k : Nat} {A : Around} (r : Room (k + 1) A) : Room k A.in1 :=
  ⟨r.hd, by have := r.dp; show A.depth + 3 * k + 5 < _; omega, by have := r.un; show A.units + 1 + 16 * k + 200 < _; omega⟩
theorem make_depth {A : Around} {C : Addr} {us : List Value} {kw : List (Str × Value)} : (A.under (.builtin "type.__call__" ⟨.ref C :: us, kw⟩)).depth = A.depth + 1 := by
  first | rfl | simp [Around.under, Code.weight, Code.isCreation, Code.isGuard, Code.isCaller, Code.frames, Code.isFrame, guardIds]
theorem make_units {A : Around} {C : Addr} {us : List Value} {kw : List (Str × Value)} : (A.under (.builtin "type.__call__" ⟨.ref C :: us, kw⟩)).units = A.units + 1 := by
  first | rfl | simp [Around.under, Code.cUnits, Code.frames, Code.isFrame]
theorem Room.make {k : Nat} {A : Around} (r : Room (k + 1) A) (C : Addr) (us : List Value) (kw : List (Str × Value)) : Room k (A.under (.builtin "type.__call__" ⟨.ref C :: us, kw⟩)) :=
  ⟨r.hd, by have := r.dp; rw [make_depth]; omega, by have := r.un; rw [make_units]; omega⟩
theorem Room.depth {k : Nat} {A : Around} (r : Room k A) : A.depth < recursionLimit := by have := r.dp; omega
theorem Room.units {k : Nat} {A : Around} (r : Room k A) : A.units + 64 < cLine := by have := r.un; omega
def tNil : TA := fun _ H Q => Q [] H
def tCons (ta : TE) (tr : TA) : TA := fun σ H Q => ta σ H fun x H1 => tr σ H1 fun xs H2 => Q (x :: xs) H2
section
variable {X : Cx} {e : Expr} {es : List Expr} {te : TE} {t : TA} {pos : Pos}
theorem pa_nil : PA X [] tNil := fun _ _ _ _ H Q I h => Calls.spliced_nil ⟨[], H, I, .nil, h⟩
theorem pa_cons (ha : PE X e te) (hr : PA X es t) (hs : starEach (e :: es) X.env = (false, eval e X.env) :: starEach es X.env := by rfl) : PA X (e :: es) (tCons te t) := by
  intro pos pins s σ H Q I h
  rw [hs]
  show wpAny _ _ (spliced ((false, eval e X.env) :: backTo pos (starEach es X.env))) _ _ s
  refine Calls.spliced_cons (thn (ha pins s σ H _ I h) fun u s1 ⟨x, H1, I1, r1, q1⟩ => ?_)
  exact thn (hr pos pins s1 σ H1 _ I1 q1) fun us s2 ⟨xs, H2, I2, r2, q2⟩ => ⟨x :: xs, H2, I2, .cons r1 r2, q2⟩
def tTup (t : TA) : TE := fun σ H Q => t σ H fun xs H1 => xs.length ≤ sizeLine ∧ ∀ p, H1 p = none → Q (.ref p) (upd H1 p (.tup xs))
def tLst (t : TA) : TE := fun σ H Q => t σ H fun xs H1 => xs.length ≤ sizeLine ∧ ∀ p, H1 p = none → Q (.ref p) (upd H1 p (.lst xs))
theorem pe_tup {x1} (h : PA X es t) : PE X (.Tuple es x1 pos) (tTup t) := by
  intro pins s σ H Q I hq
  refine wpAny_Tuple_spliced (thn (h pos pins s σ H _ I hq) fun us s1 ⟨xs, H1, I1, r, z, q⟩ => ⟨by rw [← r.length]; exact z, ?_⟩)
  have hf : H1 s1.heap.objs.size = none := I1.hok.fresh (Nat.le_refl _)
  refine ⟨.ref s1.heap.objs.size, upd H1 s1.heap.objs.size (.tup xs), I1.laid (t' := s1.toks) (fun b u e => Heap.get?_push_of_some _ e) (Nat.le_refl _) ?_, rfl, q _ hf⟩
  exact ⟨z, us, r, ⟨_, Heap.get?_push_size _ rfl, rfl, _, rfl⟩⟩
theorem pe_lst (h : PA X es t) : PE X (.List es pos) (tLst t) := by
  intro pins s σ H Q I hq
  refine wpAny_List_spliced (thn (h pos pins s σ H _ I hq) fun us s1 ⟨xs, H1, I1, r, z, q⟩ => ⟨by rw [← r.length]; exact z, ?_⟩)
  have hf : H1 s1.heap.objs.size = none := I1.hok.fresh (Nat.le_refl _)
  refine ⟨.ref s1.heap.objs.size, upd H1 s1.heap.objs.size (.lst xs), I1.laid (t' := s1.toks) (fun b u e => Heap.get?_push_of_some _ e) (Nat.le_refl _) ?_, rfl, q _ hf⟩
  exact ⟨z, us, 0, r, Heap.get?_push_size _ rfl⟩
end
abbrev Sp := List V → Hp → VK → XK → Prop
abbrev CXT := List Env → Hp → Shared → XK → Value → Shared → Prop
structure Env0 (P : Program) (w : World) (K : PySem.W.Frag) (mg : Str → Option Value) (base : Heap) (A : Around) (outer : List Env) (s : Shared) (H : Hp) : Prop where
  frames : A.frames = some outer
  mod : Mod K mg base
  bs : ∀ b o, base.get? b = some o → s.heap.get? b = some o ∧ H b = none
  bsz : base.objs.size ≤ s.heap.objs.size
  funs : s.heap.FunFrames base outer
  frf : ∀ b ∈ frs outer, H b = none
  hok : HOk P w H s.heap
  bare : AllBare s.gens
def CE (outer : List Env) (P : Program) (w : World) (H : Hp) (s : Shared) (Q : VK) (u : Value) (s' : Shared) : Prop :=
  ∃ v H', s'.os = s.os ∧ AllBare s'.gens ∧ Un (frs outer) [] H H' s.heap s'.heap ∧ HOk P w H' s'.heap ∧ RelV v u ∧ Q v H'
def CR (CX : CXT) (outer : List Env) (P : Program) (w : World) (H : Hp) (s : Shared) (Q : VK) (E : XK) (r : Result) (s' : Shared) : Prop :=
  match r with
  | .ok (.ret u) => CE outer P w H s Q u s'
  | .ok _ => False
  | .error e => CX outer H s E e s'
structure FnOk (P : Program) (w : World) (K : PySem.W.Frag) (mg : Str → Option Value) (base : Heap) (CX : CXT) (k : Nat) (f : Addr) (fd : FuncData) (ps : List Str) (sp : Sp) : Prop where
  len : ∀ vs H Q E, sp vs H Q E → vs.length = ps.length
  run : ∀ (A : Around) (outer : List Env) (s : Shared) (H : Hp) (args : Args) (us : List Value) (vs : List V) (Q : VK) (E : XK), Room k A → Env0 P w K mg base A outer s H → BindsTo s fd args (ps.zip us) → Vals vs us → sp vs H Q E →
    codeAny (model P w) A (.call (.ref f) args) (CR CX outer P w H s Q E) s
theorem FnOk.mono {P : Program} {w : World} {K : PySem.W.Frag} {mg : Str → Option Value} {base : Heap} {CX : CXT} {j k : Nat} {f : Addr} {fd : FuncData} {ps : List Str} {sp : Sp} (F : FnOk P w K mg base CX j f fd ps sp) (h : j ≤ k) :
    FnOk P w K mg base CX k f fd ps sp := ⟨F.len, fun A outer s H args us vs Q E hr => F.run A outer s H args us vs Q E (hr.mono h)⟩
theorem FnOk.imp {P : Program} {w : World} {K : PySem.W.Frag} {mg : Str → Option Value} {base : Heap} {CX : CXT} {k : Nat} {f : Addr} {fd : FuncData} {ps : List Str} {sp sp' : Sp} (F : FnOk P w K mg base CX k f fd ps sp)
    (h : ∀ vs H Q E, sp' vs H Q E → sp vs H Q E) : FnOk P w K mg base CX k f fd ps sp' :=
  ⟨fun vs H Q E q => F.len vs H Q E (h _ _ _ _ q), fun A outer s H args us vs Q E hr he hb hv hs => F.run A outer s H args us vs Q E hr he hb hv (h _ _ _ _ hs)⟩
theorem Env0.make {P : Program} {w : World} {K : PySem.W.Frag} {mg : Str → Option Value} {base : Heap} {A : Around} {outer : List Env} {s : Shared} {H : Hp} (e : Env0 P w K mg base A outer s H) (C : Addr) (us : List Value) (kw : List (Str × Value)) :
    Env0 P w K mg base (A.under (.builtin "type.__call__" ⟨.ref C :: us, kw⟩)) outer s H := ⟨by first | exact e.frames | (simpa [Around.under, Code.envs, Code.isFrame, pushEnvs] using e.frames), e.mod, e.bs, e.bsz, e.funs, e.frf, e.hok, e.bare⟩
theorem Env0.in1 {P : Program} {w : World} {K : PySem.W.Frag} {mg : Str → Option Value} {base : Heap} {A : Around} {outer : List Env} {s : Shared} {H : Hp} (e : Env0 P w K mg base A outer s H) :
    Env0 P w K mg base A.in1 outer s H := ⟨e.frames, e.mod, e.bs, e.bsz, e.funs, e.frf, e.hok, e.bare⟩
section
variable {X : Cx} {pins : List (Addr × Obj)} {σ : St} {H : Hp} {s s' : Shared}
theorem Inv.env0 (I : Inv X pins σ H s) : Env0 X.prog X.w X.K X.mg X.base X.A X.stack s H :=
  ⟨I.ok.frames, I.ok.mod, I.bs, Nat.le_trans I.ok.bsz I.sz, I.stack, I.stkFree, I.hok, I.bare⟩
theorem Inv.after {Q : VK} {u : Value} (I : Inv X pins σ H s) (h : CE X.stack X.prog X.w H s Q u s') : EP X pins σ Q u s' := by
  obtain ⟨v, H', os, bare, un, hok, r, q⟩ := h
  obtain ⟨hh, g, d, t, os'⟩ := s'
  obtain rfl : os' = s.os := os
  exact ⟨v, H', I.call (h' := hh) (g' := g) (d' := d) (t' := t) (ch := []) un hok bare (fun b z => absurd z (by simp)), r, q⟩
end
def tCall (sp : Sp) (dvs : List V) (E : XK) (t : TA) : TE := fun σ H Q => t σ H fun vs H1 => sp (vs ++ dvs) H1 Q E
def tMake (C : Addr) (sp : Sp) (dvs : List V) (E : XK) (t : TA) : TE := fun σ H Q => t σ H fun vs H1 => ∀ x dx, H1 x = none → H1 dx = none → dx ≠ x →
  sp (.ref x :: (vs ++ dvs)) (upd (upd H1 dx (.own x)) x (.ins C dx [])) (fun v H2 => v = .non ∧ Q (.ref x) H2) E
def Binds (K : PySem.W.Frag) (fd : FuncData) (ps : List Str) (ds : List Value) : Prop :=
  ∀ (s : Shared) (us : List Value), K.In s.heap → (us ++ ds).length = ps.length → BindsTo s fd ⟨us, []⟩ (ps.zip (us ++ ds))
theorem Binds.all {K : PySem.W.Frag} {fd : FuncData} {ps : List Str} (h : ∀ us : List Value, us.length = ps.length → bindArgs fd ⟨us, []⟩ = pure (ps.zip us)) : Binds K fd ps [] := fun s us _ hl => by
  rw [List.append_nil] at hl ⊢
  exact .of_eq (h us hl)
def Passes (CX : CXT) (X : Cx) (E : XK) : Prop := ∀ (pins : List (Addr × Obj)) (σ : St) (H : Hp) (s : Shared) (e : Value) (s' : Shared), Inv X pins σ H s → CX X.stack H s E e s' → X.xe e s'
section
variable {X : Cx} {CX : CXT} {k : Nat} {f C : Addr} {fd : FuncData} {ps : List Str} {sp : Sp} {dvs : List V} {ds : List Value} {E : XK} {x m : Str} {p pos apos : Pos} {e o : Expr} {es : List Expr} {ta : TE} {t : TA}
theorem run_fn {pins : List (Addr × Obj)} {σ : St} {H : Hp} {s : Shared} {Q : VK} {us : List Value} {vs : List V} (F : FnOk X.prog X.w X.K X.mg X.base CX k f fd ps sp) (hr : Room k X.A) (hb : Binds X.K fd ps ds) (hd : Vals dvs ds) (hx : Passes CX X E)
    (I : Inv X pins σ H s) (r : Vals vs us) (h : sp (vs ++ dvs) H Q E) : wpAny (model X.prog X.w) X.A (call (.ref f) us) (EP X pins σ Q) X.xe s := by
  have r2 : Vals (vs ++ dvs) (us ++ ds) := r.append hd
  have hl : (us ++ ds).length = ps.length := by rw [← r2.length]; exact F.len _ _ _ _ h
  refine wpAny_call (codeAny_mono (F.run X.A X.stack s H ⟨us, []⟩ (us ++ ds) (vs ++ dvs) Q E hr I.env0 (hb s us I.kIn hl) r2 h) fun r s' hq => ?_)
  cases r with
  | error e => exact hx pins σ H s e s' I hq
  | ok fl =>
    cases fl with
    | ret u => exact I.after hq
    | next => exact False.elim hq
    | brk => exact False.elim hq
    | cont => exact False.elim hq
theorem pe_call (F : FnOk X.prog X.w X.K X.mg X.base CX k f fd ps sp) (hr : Room k X.A) (hg : Gl X x) (hm : X.mg x = some (.ref f)) (hk : PySem.W.keepIn X.K (.ref f) = true) (hb : Binds X.K fd ps ds) (hd : Vals dvs ds) (hx : Passes CX X E)
    (ha : PA X (e :: es) t) (hdb : (x == ("__debug__" : Str)) = false := by decide) (he : starEach (e :: es) X.env = (false, eval e X.env) :: starEach es X.env := by rfl) (hpl : (backTo pos (starEach es X.env)).any (·.1) = false := by rfl) :
    PE X (.Call (.Name x p) (e :: es) [] pos) (tCall sp dvs E t) := by
  intro pins s σ H Q I h
  refine wpAny_Call_Name_kw (ld_glob I hg hm ?_ hdb)
  refine PySem.W.callWith_K (h₀ := X.base) I.ok.mod.kin hk (thn (ha pos pins s σ H _ I h) fun us s1 ⟨vs, H1, I1, r, q⟩ => ⟨I1.kIn, ?_⟩) he hpl
  exact run_fn F hr hb hd hx I1 r q
structure Mk (K : PySem.W.Frag) (C f : Addr) : Prop where
  makes : PySem.W.makesIn K C = true
  init : PySem.W.findIn K (.ref C) "__init__" = some (some (.ref f))
  fn : PySem.W.isFn K (.ref f) = true
  kp : PySem.W.keepIn K (.ref C) = true
theorem run_make {pins : List (Addr × Obj)} {σ : St} {H : Hp} {s : Shared} {Q : VK} {us : List Value} {vs : List V} (M : Mk X.K C f) (F : FnOk X.prog X.w X.K X.mg X.base CX k f fd ps sp) (hr : Room (k + 1) X.A) (hb : Binds X.K fd ps ds) (hd : Vals dvs ds)
    (hx : Passes CX X E) (I : Inv X pins σ H s) (r : Vals vs us)
    (h : ∀ x dx, H x = none → H dx = none → dx ≠ x → sp (.ref x :: (vs ++ dvs)) (upd (upd H dx (.own x)) x (.ins C dx [])) (fun v H2 => v = .non ∧ Q (.ref x) H2) E) :
    wpAny (model X.prog X.w) X.A (call (.ref C) us) (EP X pins σ Q) X.xe s := by
  have hq := h (s.heap.objs.size + 1) s.heap.objs.size (I.hok.fresh (Nat.le_succ _)) (I.hok.fresh (Nat.le_refl _)) (Nat.ne_of_lt (Nat.lt_succ_self _))
  have I2 := Inv.made (C := C) I
  have r2 : Vals (V.ref (s.heap.objs.size + 1) :: (vs ++ dvs)) (Value.ref (s.heap.objs.size + 1) :: (us ++ ds)) := .cons rfl (r.append hd)
  have hl : (Value.ref (s.heap.objs.size + 1) :: us ++ ds).length = ps.length := by
    have e := r2.length
    rw [F.len _ _ _ _ hq] at e
    exact e.symm
  refine wpAny_call (make_map (f := f) I.kIn M.makes M.init (beq_iff_eq.mp M.fn) (codeAny_mono (F.run _ X.stack _ _ ⟨Value.ref (s.heap.objs.size + 1) :: us, []⟩ (Value.ref (s.heap.objs.size + 1) :: (us ++ ds)) _ _ E (hr.make C us [])
    (I2.env0.make C us []) (hb _ (Value.ref (s.heap.objs.size + 1) :: us) I2.kIn hl) r2 hq) fun r s' hq' => ?_))
  cases r with
  | error e => exact hx pins σ _ _ e s' I2 hq'
  | ok fl =>
    cases fl with
    | ret u =>
      obtain ⟨v, H', I3, rv, ev, q3⟩ := I2.after hq'
      subst ev
      exact ⟨rv, ⟨V.ref (s.heap.objs.size + 1), H', I3, rfl, q3⟩⟩
    | next => exact False.elim hq'
    | brk => exact False.elim hq'
    | cont => exact False.elim hq'
theorem pe_make (M : Mk X.K C f) (F : FnOk X.prog X.w X.K X.mg X.base CX k f fd ps sp) (hr : Room (k + 1) X.A) (hg : Gl X x) (hm : X.mg x = some (.ref C)) (hb : Binds X.K fd ps ds) (hd : Vals dvs ds) (hx : Passes CX X E)
    (ha : PA X (e :: es) t) (hdb : (x == ("__debug__" : Str)) = false := by decide) (he : starEach (e :: es) X.env = (false, eval e X.env) :: starEach es X.env := by rfl) (hpl : (backTo pos (starEach es X.env)).any (·.1) = false := by rfl) :
    PE X (.Call (.Name x p) (e :: es) [] pos) (tMake C sp dvs E t) := by
  intro pins s σ H Q I h
  refine wpAny_Call_Name_kw (ld_glob I hg hm ?_ hdb)
  refine PySem.W.callWith_K (h₀ := X.base) I.ok.mod.kin M.kp (thn (ha pos pins s σ H _ I h) fun us s1 ⟨vs, H1, I1, r, q⟩ => ⟨I1.kIn, ?_⟩) he hpl
  exact run_make M F hr hb hd hx I1 r q
theorem pe_make0 (M : Mk X.K C f) (F : FnOk X.prog X.w X.K X.mg X.base CX k f fd ps sp) (hr : Room (k + 1) X.A) (hg : Gl X x) (hm : X.mg x = some (.ref C)) (hb : Binds X.K fd ps ds) (hd : Vals dvs ds) (hx : Passes CX X E)
    (hdb : (x == ("__debug__" : Str)) = false := by decide) : PE X (.Call (.Name x p) [] [] pos) (tMake C sp dvs E tNil) := by
  intro pins s σ H Q I h
  refine wpAny_Call_Name_kw (ld_glob I hg hm ?_ hdb)
  exact PySem.W.callWith_K0 I.kIn M.kp (run_make (us := []) M F hr hb hd hx I .nil h)
end
section
variable {X : Cx} {CX : CXT} {k : Nat} {f C : Addr} {fd : FuncData} {ps ks : List Str} {sp : Sp} {E : XK} {x m : Str} {p pos apos kpos : Pos} {e o : Expr} {es : List Expr} {kws : List Keyword} {te ta : TE} {t tk : TA} {nm : Option Str}
variable {g : List Value → List Value → List Value} {gV : List V → List V → List V}
end
structure FnScope (N P : List Str) (sc : Scope) : Prop where
  kind : sc.kind = .function
  co : sc.isCoroutine = false
  gen : sc.isGenerator = false
  nd : N.Nodup
  pre : N.take P.length = P
  par : ∀ x ∈ P, sc.names.lookup x = some .local ∨ sc.names.lookup x = some .cell
  nofree : ∀ y ∈ sc.names, y.2 ≠ .free
theorem bindL_out {kindOf : Str → Option NameKind} {x : Str} : ∀ {binds : List (Str × Value)} {m : Str → Option Value}, (∀ v, (x, v) ∉ binds) → bindL kindOf binds m x = m x
  | [], _, _ => rfl
  | (n, v) :: r, m, h => by
    unfold bindL
    rw [bindL_out fun w hw => h w (List.mem_cons_of_mem _ hw)]
    split
    · have : x ≠ n := by rintro rfl; exact h v List.mem_cons_self
      simp [this]
    · rfl
theorem bindC_out {kindOf : Str → Option NameKind} {x : Str} : ∀ {binds : List (Str × Value)} {m : Str → Option Value}, (∀ v, (x, v) ∉ binds) → bindC kindOf binds m x = m x
  | [], _, _ => rfl
  | (n, v) :: r, m, h => by
    unfold bindC
    rw [bindC_out fun w hw => h w (List.mem_cons_of_mem _ hw)]
    split
    · rfl
    · have : x ≠ n := by rintro rfl; exact h v List.mem_cons_self
      simp [this]
theorem bindL_get {kindOf : Str → Option NameKind} {x : Str} {v : Value} : ∀ {P : List Str} {vs : List Value} {i : Nat} {m : Str → Option Value}, P.Nodup → P[i]? = some x → vs[i]? = some v → kindOf x = some .local →
    bindL kindOf (P.zip vs) m x = some v
  | [], _, _, _, _, h, _, _ => by simp at h
  | _ :: _, [], _, _, _, _, h, _ => by simp at h
  | p :: P, w :: vs, 0, m, nd, h1, h2, hk => by
    simp at h1 h2; subst h1; subst h2
    show bindL kindOf ((p, w) :: P.zip vs) m p = _
    unfold bindL
    rw [bindL_out fun v hv => (List.nodup_cons.mp nd).1 (List.of_mem_zip hv).1, if_pos hk]
    simp
  | p :: P, w :: vs, i + 1, m, nd, h1, h2, hk => by
    show bindL kindOf ((p, w) :: P.zip vs) m x = _
    unfold bindL
    exact bindL_get (i := i) (List.nodup_cons.mp nd).2 (by simpa using h1) (by simpa using h2) hk
theorem bindC_get {kindOf : Str → Option NameKind} {x : Str} {v : Value} : ∀ {P : List Str} {vs : List Value} {i : Nat} {m : Str → Option Value}, P.Nodup → P[i]? = some x → vs[i]? = some v → kindOf x ≠ some .local →
    bindC kindOf (P.zip vs) m x = some v
  | [], _, _, _, _, h, _, _ => by simp at h
  | _ :: _, [], _, _, _, _, h, _ => by simp at h
  | p :: P, w :: vs, 0, m, nd, h1, h2, hk => by
    simp at h1 h2; subst h1; subst h2
    show bindC kindOf ((p, w) :: P.zip vs) m p = _
    unfold bindC
    rw [bindC_out fun v hv => (List.nodup_cons.mp nd).1 (List.of_mem_zip hv).1, if_neg hk]
    simp
  | p :: P, w :: vs, i + 1, m, nd, h1, h2, hk => by
    show bindC kindOf ((p, w) :: P.zip vs) m x = _
    unfold bindC
    exact bindC_get (i := i) (List.nodup_cons.mp nd).2 (by simpa using h1) (by simpa using h2) hk
def start (N : List Str) (vs : List V) : St := vs.map some ++ List.replicate (N.length - vs.length) none
def cxOf (CX : CXT) (P : Program) (w : World) (K : PySem.W.Frag) (mg : Str → Option Value) (base : Heap) (N : List Str) (qual : Str) (scope : Scope) (f : Addr) (cd : Value) (A : Around) (outer : List Env) (s : Shared) (H : Hp) (E : XK) : Cx where
  prog := P
  w := w
  K := K
  mg := mg
  base := base
  A := A.deeper (envOfC qual scope s.heap.objs.size f cd)
  N := N
  s_0 := s
  H_0 := H
  env := envOfC qual scope s.heap.objs.size f cd
  outer := outer
  stack := envOfC qual scope s.heap.objs.size f cd :: outer
  ex := []
  calm := true
  fn := fun _ => true
  pn := []
  xe := fun e s' => wpAny (model P w) (A.deeper (envOfC qual scope s.heap.objs.size f cd)) (leaving (envOfC qual scope s.heap.objs.size f cd) e) (fun _ s'' => CX outer H s E e s'') (fun e' s'' => CX outer H s E e' s'') s'
theorem cell_has {sc : Scope} {n : Nat} {x : Str} (h : sc.names.lookup x = some .cell) : ∃ c, (cellsFrom n sc.names []).lookup x = some c := by
  have q := PySem.W.cellsFrom_some sc.names n [] (.inl h)
  exact Option.isSome_iff_exists.mp q
theorem inv_start {CX : CXT} {P : Program} {w : World} {K : PySem.W.Frag} {mg : Str → Option Value} {base : Heap} {N ps : List Str} {qual : Str} {scope : Scope} {f : Addr} {cd : Value} {A : Around} {outer : List Env} {s s1 : Shared} {H : Hp} {E : XK} {us : List Value} {vs : List V}
    (S : FnScope N ps scope) (hd : A.handled = none) (e0 : Env0 P w K mg base A outer s H) (hl : vs.length = ps.length) (r : Vals vs us)
    (x : InCallC s s.heap.objs.size (bindL (envOfC qual scope s.heap.objs.size f cd).kindOf (ps.zip us) fun _ => none) (cellsFrom (s.heap.objs.size + 1) scope.names []) (bindC (envOfC qual scope s.heap.objs.size f cd).kindOf (ps.zip us) fun _ => none) s1) :
    Inv (cxOf CX P w K mg base N qual scope f cd A outer s H E) [] (start N vs) H s1 := by
  have hpl : ps.length ≤ N.length := by have := congrArg List.length S.pre; rw [List.length_take] at this; omega
  obtain ⟨h1, tk, rfl, hk⟩ := x.done
  have noA : ∀ b : Addr, b ∉ (cxOf CX P w K mg base N qual scope f cd A outer s H E).ex := fun b z => absurd (show b ∈ ([] : List Addr) from z) (by simp)
  refine ⟨⟨e0.mod, S.kind, rfl, rfl, Nat.le_refl _, fun y z c h1 h2 => ?_, fun y hy => ?_, fun y c _ h => ?_, fun _ => hd, Around.frames_deeper e0.frames, .inr ⟨rfl, rfl⟩, fun b z => absurd z (noA b), e0.bs, e0.bsz, fun b _ _ => noA b, fun b z => absurd z (noA b), e0.funs, e0.frf⟩,
    rfl, e0.bare, Un.kept hk, ⟨_, x.toInCall.ns, fun i y v h1 h2 h3 => ?_⟩, fun y c h => ⟨_, x.cell y c h⟩, e0.hok.fresh (Nat.le_refl _), fun y c h => ?_, fun p hp => absurd (show p ∈ ([] : List (Addr × Obj)) from hp) (by simp), e0.hok.kept hk, ?_⟩
  · exact name_of_addr x.apart (PySem.mem_of_lookup h1) (PySem.mem_of_lookup h2)
  · have hy : scope.names.lookup y = some .cell ∨ scope.names.lookup y = some .free := hy
    rcases hy with hy | hy
    · exact cell_has hy
    · exact absurd rfl (S.nofree _ (PySem.mem_of_lookup hy))
  · exact Nat.le_of_lt (x.above y c (PySem.mem_of_lookup h))
  · have hi : i < vs.length := by
      unfold start at h2
      by_cases hi : i < vs.length
      · exact hi
      · rw [List.getElem?_append_right (by simpa using hi)] at h2
        rw [List.getElem?_replicate] at h2
        split at h2 <;> cases h2
    have ha : vs[i]? = some v := by
      unfold start at h2
      rw [List.getElem?_append_left (by simpa using hi), List.getElem?_map] at h2
      cases e : vs[i]? with
      | none => rw [e] at h2; cases h2
      | some a => rw [e] at h2; cases h2; rfl
    obtain ⟨u, hu, rv⟩ := r.get ha
    have hp : ps[i]? = some y := by
      rw [← S.pre, List.getElem?_take_of_lt (by omega)]; exact h1
    have ndP : ps.Nodup := by rw [← S.pre]; exact S.nd.sublist (List.take_sublist _ _)
    refine ⟨u, rv, ?_⟩
    rcases S.par y (List.mem_of_getElem? hp) with k | k
    · exact .inl ⟨k, bindL_get ndP hp hu k⟩
    · obtain ⟨c, e⟩ := cell_has (n := s.heap.objs.size + 1) k
      refine .inr ⟨.inl k, c, e, ?_⟩
      have q := x.cell y c e
      rw [bindC_get ndP hp hu (by show scope.names.lookup y ≠ _; rw [k]; decide)] at q
      exact q
  · exact e0.hok.fresh (Nat.le_of_lt (x.above y c (PySem.mem_of_lookup h)))
  · unfold start
    show _ = N.length
    rw [List.length_append, List.length_map, List.length_replicate]
    omega
theorem fn_of {CX : CXT} {P : Program} {w : World} {K : PySem.W.Frag} {mg : Str → Option Value} {base : Heap} {k : Nat} {f : Addr} {name qual : Str} {params : Arguments} {body : List Stmt} {scope : Scope} {dV kV doc pm cdv ct oc : Value} {an od : Option Addr}
    {osl : Array (Option Value)} {N ps : List Str} {sp : Sp} (lk : K.lookup f = some ⟨oc, od, .func (PySem.W.fnOf name qual params body scope dV kV doc pm an cdv ct), osl⟩) (hcd : PySem.W.codeIn K cdv qual = true) (S : FnScope N ps scope)
    (len : ∀ vs H Q E, sp vs H Q E → vs.length = ps.length)
    (hbody : ∀ (A : Around) (outer : List Env) (s : Shared) (H : Hp) (vs : List V) (Q : VK) (E : XK), Room k (A.deeper (envOfC qual scope s.heap.objs.size f cdv)) → sp vs H Q E →
      ∃ t, PSs (cxOf CX P w K mg base N qual scope f cdv A outer s H E) body t ∧ t { nx := fun _ H' => Q .non H', rt := Q } (start N vs) H) :
    FnOk P w K mg base CX (k + 1) f (PySem.W.fnOf name qual params body scope dV kV doc pm an cdv ct) ps sp := by
  refine ⟨len, fun A outer s H args us vs Q E hr e0 hb r hsp => ?_⟩
  have hl := len _ _ _ _ hsp
  have KX : K.In s.heap := e0.mod.kin.keeps fun b o e => (e0.bs b o e).1
  have lim : s.heap.NoLimit := e0.mod.nolimit.keeps fun b o e => (e0.bs b o e).1
  have hkind : ∀ y ∈ ps.zip us, scope.names.lookup y.1 = some .local ∨ (scope.names.lookup y.1 = some .cell ∧ ((cellsFrom (s.heap.objs.size + 1) scope.names []).lookup y.1).isSome = true) := fun ⟨n, v⟩ hy => by
    rcases S.par n (List.of_mem_zip hy).1 with q | q
    · exact .inl q
    · exact .inr ⟨q, PySem.W.cellsFrom_some _ _ _ (.inl q)⟩
  refine codeAny_call_function hr.depth (KX _ _ lk) rfl S.co S.gen rfl (PySem.W.codeRec_of KX hcd) (hb _ _ _ _ ?_)
  refine wpAny_newFunctionEnv_cells S.kind hkind fun env he s1 x => ?_
  subst he
  refine ⟨lim.keeps x.toInCall.keep, codeAny_func ?_⟩
  obtain ⟨t, ht, hq⟩ := hbody A outer s H vs Q E (hr.deeper _) hsp
  have I : Inv (cxOf CX P w K mg base N qual scope f cdv A outer s H E) [] (start N vs) H s1 := inv_start S hr.hd e0 hl r x
  refine wpAny_mono (ht [] s1 (start N vs) H _ I hq) (fun fl s' hs => ?_) fun e s' hs => hs
  have fin : ∀ {σ' : St} {H' : Hp} {v : V} {u : Value}, Inv (cxOf CX P w K mg base N qual scope f cdv A outer s H E) [] σ' H' s' → RelV v u → Q v H' → CE outer P w H s Q u s' :=
    fun {σ' H' v u} J rv q => ⟨v, H', J.os, J.bare, J.base, J.hok, rv, q⟩
  cases fl with
  | ret u =>
    obtain ⟨v, σ', H', J, rv, q⟩ := hs
    exact fin J rv q
  | next =>
    obtain ⟨σ', H', J, q⟩ := hs
    exact fin (v := V.non) (u := Value.none) J rfl q
  | brk =>
    obtain ⟨_, _, _, q⟩ := hs
    exact False.elim q
  | cont =>
    obtain ⟨_, _, _, q⟩ := hs
    exact False.elim q
end L2
namespace L2
open PySem PySem.Spec PyProof.Rows
section
variable {X : Cx} {x : Str} {p pos : Pos} {e : Expr} {es : List Expr} {t : TA} {id T : String} {r : List V → Hp → VK → Prop}
def tCB (r : List V → Hp → VK → Prop) (t : TA) : TE := fun σ H Q => t σ H fun vs H1 => r vs H1 Q
theorem pe_callB (hc : CallR X (.builtin id) r) (hg : Gl X x) (hm : X.mg x = none) (hv : bootBuiltins x = some (.builtin id)) (ha : PA X (e :: es) t) (hn : x ≠ "__name__" := by decide) (hdb : (x == ("__debug__" : Str)) = false := by decide)
    (he : starEach (e :: es) X.env = (false, eval e X.env) :: starEach es X.env := by rfl) (hpl : (backTo pos (starEach es X.env)).any (·.1) = false := by rfl) : PE X (.Call (.Name x p) (e :: es) [] pos) (tCB r t) := by
  intro pins s σ H Q I h
  refine wpAny_Call_Name_kw (ld_blt I hg hm hv ?_ hn hdb)
  exact PyProof.Rows.callWith_builtin1 (thn (ha pos pins s σ H _ I h) fun us s1 ⟨vs, H1, I1, r1, q1⟩ => hc pins s1 σ H1 vs us Q I1 r1 q1) he hpl
theorem pe_callTy (hc : CallR X (.type T) r) (hg : Gl X x) (hm : X.mg x = none) (hv : bootBuiltins x = some (.type T)) (ha : PA X (e :: es) t) (hn : x ≠ "__name__" := by decide) (hdb : (x == ("__debug__" : Str)) = false := by decide)
    (he : starEach (e :: es) X.env = (false, eval e X.env) :: starEach es X.env := by rfl) (hpl : (backTo pos (starEach es X.env)).any (·.1) = false := by rfl) : PE X (.Call (.Name x p) (e :: es) [] pos) (tCB r t) := by
  intro pins s σ H Q I h
  refine wpAny_Call_Name_kw (ld_blt I hg hm hv ?_ hn hdb)
  exact PyProof.Rows.callWith_type1 (thn (ha pos pins s σ H _ I h) fun us s1 ⟨vs, H1, I1, r1, q1⟩ => hc pins s1 σ H1 vs us Q I1 r1 q1) he hpl
end
end L2
namespace HT
open PySem PyProof.Rows
section
open PySem.SeqAt
open PySem.AutoSeq1 (wpAny_loadPart')
open PySem.MeetsSeq PySem.MeetsSeq2 PySem.MeetsSeq3
end
section
variable {prog : Program} {w : World} {A : Around} {E : Value → Shared → Prop} {s : Shared}
def sIx (n d : Nat) : Option Int → Nat
  | none => d
  | some v => if v < 0 then (v + (n : Int)).toNat else min v.toNat n
theorem sIx_nat (n d k : Nat) : sIx n d (some (k : Int)) = min k n := by
  show (if (k : Int) < 0 then ((k : Int) + (n : Int)).toNat else min (k : Int).toNat n) = min k n
  rw [if_neg (by omega), Int.toNat_natCast]
end
end HT
namespace L2
open PySem PySem.Spec PyProof.Rows
abbrev TO := St → Hp → (Option Int → Hp → Prop) → Prop
def PO (X : Cx) (e : Option Expr) (t : TO) : Prop :=
  ∀ (pins : List (Addr × Obj)) (s : Shared) (σ : St) (H : Hp) (Q : Option Int → Hp → Prop), Inv X pins σ H s → t σ H Q →
    wpAny (model X.prog X.w) X.A (evalPart e X.env) (fun u s' => ∃ o H', Inv X pins σ H' s' ∧ IsPart u o ∧ Q o H') X.xe s
def tPart (t : TE) : TO := fun σ H Q => t σ H fun x H1 => ∃ i, x = .int i ∧ Q (some i) H1
section
variable {X : Cx} {e : Expr} {te : TE} {lo hi : Option Expr} {tl th : TO} {pos p2 : Pos}
theorem po_some (h : PE X e te) : PO X (some e) (tPart te) := by
  intro pins s σ H Q I hw
  rw [evalPart_some]
  refine thn (h pins s σ H _ I hw) fun u s1 ⟨x, H1, I1, r1, q1⟩ => ?_
  obtain ⟨i, rfl, q⟩ := q1
  obtain ⟨t, rfl⟩ := r1
  exact ⟨some i, H1, I1, .int i t, q⟩
def SlR (X : Cx) (r : V → Option Int → Option Int → Hp → VK → Prop) : Prop :=
  ∀ (pins : List (Addr × Obj)) (s : Shared) (σ : St) (H : Hp) (x : V) (v vl vu : Value) (lo hi : Option Int) (sl : Addr) (Q : VK), Inv X pins σ H s → RelV x v → s.heap.IsSliceOf sl vl vu .none → IsPart vl lo → IsPart vu hi → r x lo hi H Q →
    ∃ T id, typeLookup (.type T) "__getitem__" = pure (some (.builtin id)) ∧ s.TypeIs v T ∧ wpAny (model X.prog X.w) X.A (getItem v (.ref sl)) (EP X pins σ Q) X.xe s
def tSl (r : V → Option Int → Option Int → Hp → VK → Prop) (te : TE) (tl th : TO) : TE := fun σ H Q => te σ H fun x H1 => tl σ H1 fun l H2 => th σ H2 fun u H3 => r x l u H3 Q
theorem pe_slice {r : V → Option Int → Option Int → Hp → VK → Prop} (hr : SlR X r) (he : PE X e te) (hl : PO X lo tl) (hu : PO X hi th) : PE X (.Subscript e (.Slice lo hi none p2) pos) (tSl r te tl th) := by
  intro pins s σ H Q I h
  refine Subscript_ (thn (he pins s σ H _ I h) fun v s1 ⟨x, H1, I1, r1, q1⟩ => ?_)
  refine wpAny_Slice (thn (hl pins s1 σ H1 _ I1 q1) fun vl s2 ⟨l, H2, I2, pl, q2⟩ => thn (hu pins s2 σ H2 _ I2 q2) fun vu s3 ⟨u, H3, I3, pu, q3⟩ => ?_)
  rw [evalPart_none]
  refine wpAny_pure ?_
  have I4 : Inv X pins σ H3 { s3 with heap := s3.heap.push { cls := .type "slice", data := .fields #[vl, vu, .none] } } := I3.kept (t' := s3.toks) fun b ob q => Heap.get?_push_of_some _ q
  obtain ⟨T, id, hT, ht, hg⟩ := hr pins { s3 with heap := s3.heap.push { cls := .type "slice", data := .fields #[vl, vu, .none] } } σ H3 x v vl vu l u s3.heap.objs.size Q I4 r1 (Heap.IsSliceOf.new ..) pl pu q3
  show wpAny (model X.prog X.w) X.A (subscriptTail e (.Slice lo hi none p2) v (.ref s3.heap.objs.size)) (EP X pins σ Q) X.xe { s3 with heap := s3.heap.push { cls := .type "slice", data := .fields #[vl, vu, .none] } }
  exact tail_any (ops := [.ref s3.heap.objs.size, v]) ht hT hg (by with_unfolding_all rfl)
def cutV (xs : List V) (lo hi : Option Int) : List V := (xs.drop (HT.sIx xs.length 0 lo)).take (HT.sIx xs.length xs.length hi - HT.sIx xs.length 0 lo)
theorem cutV_length (xs : List V) (lo hi : Option Int) : (cutV xs lo hi).length ≤ xs.length := by
  unfold cutV
  rw [List.length_take, List.length_drop]
  omega
end
end L2
namespace L2
open PySem PySem.Spec PyProof.Rows
def ixN (n : Nat) (i : Int) : Option Nat := if 0 ≤ i then (if i < n then some i.toNat else none) else if -(n : Int) ≤ i then some (i + n).toNat else none
def atI {α : Type} (xs : List α) (i : Int) : Option α := (ixN xs.length i).bind fun j => xs[j]?
theorem ixN_seq {n : Nat} {i : Int} {j : Nat} (h : ixN n i = some j) : seqIndex? i n = some j ∧ j < n ∧ -(n : Int) ≤ i ∧ i < n := by
  unfold ixN at h
  by_cases h0 : 0 ≤ i
  · rw [if_pos h0] at h
    by_cases h1 : i < n
    · rw [if_pos h1] at h
      have e : i.toNat = j := Option.some.inj h
      exact ⟨by rw [seqIndex_of h0 h1, e], by omega, by omega, h1⟩
    · rw [if_neg h1] at h; cases h
  · rw [if_neg h0] at h
    by_cases h1 : -(n : Int) ≤ i
    · rw [if_pos h1] at h
      have e : (i + n).toNat = j := Option.some.inj h
      exact ⟨by rw [seqIndex_neg (by omega) h1, e], by omega, h1, by omega⟩
    · rw [if_neg h1] at h; cases h
theorem atI_get {α : Type} {xs : List α} {i : Int} {v : α} (h : atI xs i = some v) : ∃ j, seqIndex? i xs.length = some j ∧ xs[j]? = some v ∧ j < xs.length ∧ -(xs.length : Int) ≤ i ∧ i < xs.length := by
  unfold atI at h
  cases e : ixN xs.length i with
  | none => rw [e] at h; cases h
  | some j =>
    rw [e] at h
    obtain ⟨h1, h2, h3, h4⟩ := ixN_seq e
    exact ⟨j, h1, h, h2, h3, h4⟩
theorem atI_nat {α : Type} {xs : List α} {j : Nat} {v : α} (h : xs[j]? = some v) : atI xs (j : Int) = some v := by
  have hj : j < xs.length := (List.getElem?_eq_some_iff.mp h).1
  have e : ixN xs.length (j : Int) = some j := by
    unfold ixN
    rw [if_pos (by omega), if_pos (by omega)]; simp
  unfold atI; rw [e]; exact h
theorem atI_last {α : Type} (xs : List α) (v : α) : atI (xs ++ [v]) (-1) = some v := by
  have hl : (xs ++ [v]).length = xs.length + 1 := by simp
  have e : ixN (xs ++ [v]).length (-1) = some xs.length := by
    unfold ixN
    rw [hl, if_neg (by decide), if_pos (by omega)]
    congr 1
    omega
  unfold atI
  rw [e]
  show (xs ++ [v])[xs.length]? = some v
  simp
def PlainIx (b : Expr) : Prop := ∀ o i, subscripted b false o i = operate [o, i] (getItem o i)
def IxR (X : Cx) (r : R2) : Prop :=
  ∀ (value slice : Expr) (pins : List (Addr × Obj)) (s : Shared) (σ : St) (H : Hp) (x y : V) (v u : Value) (Q : VK), Inv X pins σ H s → RelV x v → RelV y u → r x y H Q →
    subscripted slice false v u = operate [v, u] (getItem v u) → wpAny (model X.prog X.w) X.A (subscriptTail value slice v u) (EP X pins σ Q) X.xe s
def MtR (X : Cx) (id : String) (r : V → List V → Hp → VK → Prop) : Prop :=
  ∀ (pins : List (Addr × Obj)) (s : Shared) (σ : St) (H : Hp) (x : V) (xs : List V) (v : Value) (us : List Value) (Q : VK), Inv X pins σ H s → RelV x v → Vals xs us → r x xs H Q →
    wpAny (model X.prog X.w) X.A (call (.builtin id) (v :: us)) (EP X pins σ Q) X.xe s
section
variable {X : Cx} {a b : Expr} {ta tb : TE} {pos : Pos}
theorem pe_ix {r : R2} (hr : IxR X r) (ha : PE X a ta) (hb : PE X b tb) (hs : PlainIx b) : PE X (.Subscript a b pos) (tOp r ta tb) := by
  intro pins s σ H Q I h
  exact Subscript_ (binT ha hb I h fun v u s2 x y H2 I2 rx ry q => hr a b pins s2 σ H2 x y v u Q I2 rx ry q (hs _ _))
def rIxL (K : PySem.W.Frag) : R2 := fun x y H Q => ∃ p xs i v, x = .ref p ∧ y = .int i ∧ SqL K H p xs ∧ atI xs i = some v ∧ Q v H
def rIxT (K : PySem.W.Frag) : R2 := fun x y H Q => ∃ p xs i v, x = .ref p ∧ y = .int i ∧ SqT K H p xs ∧ atI xs i = some v ∧ Q v H
theorem ix_list : IxR X (rIxL X.K) := by
  intro value slice pins s σ H x y v u Q I rx ry h hs
  obtain ⟨p, xs, i, z, rfl, rfl, hq, he, q⟩ := h
  cases rx
  obtain ⟨t, rfl⟩ := ry
  obtain ⟨its, r, pl, hz⟩ := I.list hq
  obtain ⟨j, h1, h2, h3, h4, h5⟩ := atI_get he
  obtain ⟨w, ew, rw'⟩ := r.get h2
  have hl := r.length
  have hn := line63
  have fin : EP X pins σ Q w s := ⟨z, H, I, rw', q⟩
  by_cases h0 : 0 ≤ i
  · have hj : i.toNat = j := by
      rw [seqIndex_of h0 h5] at h1
      exact Option.some.inj h1
    exact item_listR pl.isList h0 (by omega) (by rw [hj]; simpa using ew) fin hs
  · have hj : (i + (its.toArray.size : Int)).toNat = j := by
      rw [seqIndex_neg (by omega) h4] at h1
      rw [List.size_toArray, ← hl]
      exact Option.some.inj h1
    exact subscriptTail_builtinR (x := w) pl.isList.typeIs slot_list_getitem.lookup
      (wpAny_getItem_list_neg (Q := fun r s' => r = w ∧ EP X pins σ Q r s') pl.isList (by omega) (by rw [List.size_toArray] <;> omega) (by omega) (by rw [hj]; simpa using ew) ⟨rfl, fin⟩) hs
theorem ix_tup : IxR X (rIxT X.K) := by
  intro value slice pins s σ H x y v u Q I rx ry h hs
  obtain ⟨p, xs, i, z, rfl, rfl, hq, he, q⟩ := h
  cases rx
  obtain ⟨t, rfl⟩ := ry
  obtain ⟨its, r, pl, hz⟩ := I.tuple hq
  obtain ⟨j, h1, h2, h3, h4, h5⟩ := atI_get he
  obtain ⟨w, ew, rw'⟩ := r.get h2
  have hl := r.length
  have hn := line63
  have fin : EP X pins σ Q w s := ⟨z, H, I, rw', q⟩
  exact subscriptTail_builtinR (x := w) pl.typeIs slot_tuple_getitem.lookup
    (getItem_tuple (j := j) (Q := fun r s' => r = w ∧ EP X pins σ Q r s') pl (by omega) (by omega) (by rw [List.size_toArray, ← hl]; exact h1) (by simpa using ew) ⟨rfl, fin⟩) hs
theorem Inv.lst {pins : List (Addr × Obj)} {σ : St} {H : Hp} {s : Shared} {p : Addr} {xs : List V} (I : Inv X pins σ H s) (h : H p = some (.lst xs)) :
    ∃ (its : List Value) (n : Nat), Vals xs its ∧ s.heap.get? p = some { cls := .type "list", data := .seq its.toArray n } ∧ xs.length ≤ sizeLine := by
  obtain ⟨z, its, n, r, e⟩ := I.hok p _ h
  exact ⟨its, n, r, e, z⟩
theorem slice_bounds (lo hi : Option Int) (n : Nat) : (sliceBounds lo hi none n).1 = ((HT.sIx n 0 lo : Nat) : Int) ∧ (sliceBounds lo hi none n).2.1 = ((HT.sIx n n hi : Nat) : Int) ∧ (sliceBounds lo hi none n).2.2 = 1 := by
  refine ⟨?_, ?_, rfl⟩
  · cases lo with
    | none => simp [sliceBounds, HT.sIx]
    | some i =>
      simp only [sliceBounds, HT.sIx, Option.getD_none, show (1 : Int) > 0 by decide, if_true]
      by_cases h : i < 0
      · simp only [h, if_true] <;> omega
      · simp only [h, if_false] <;> omega
  · cases hi with
    | none => simp [sliceBounds, HT.sIx]
    | some i =>
      simp only [sliceBounds, HT.sIx, Option.getD_none, show (1 : Int) > 0 by decide, if_true]
      by_cases h : i < 0
      · simp only [h, if_true] <;> omega
      · simp only [h, if_false] <;> omega
theorem slicePick_cut (its : List Value) (lo hi : Option Int) : slicePick its.toArray lo hi none = ((its.drop (HT.sIx its.length 0 lo)).take (HT.sIx its.length its.length hi - HT.sIx its.length 0 lo)).toArray := by
  obtain ⟨h1, h2, h3⟩ := slice_bounds lo hi its.toArray.size
  unfold slicePick
  rw [h1, h2, h3]
  simp only [sliceRange_one, pick_run, List.size_toArray] <;> rfl
def rSlL (K : PySem.W.Frag) : V → Option Int → Option Int → Hp → VK → Prop := fun x lo hi H Q => ∃ a xs, x = .ref a ∧ SqL K H a xs ∧ ∀ p, H p = none → Q (.ref p) (upd H p (.lst (cutV xs lo hi)))
theorem sl_list : SlR X (rSlL X.K) := by
  intro pins s σ H x v vl vu lo hi sl Q I rx hs pl pu h
  obtain ⟨a, xs, rfl, hx, q⟩ := h
  cases rx
  obtain ⟨its, r, ht, hz⟩ := I.list hx
  have hlen := r.length
  refine ⟨"list", _, slot_list_getitem.lookup, ht.isList.typeIs, ?_⟩
  refine wpAny_getItem_list_slice ht.isList hs pl pu .none (by simp) ?_ (by rw [List.size_toArray] <;> omega)
  rw [slicePick_cut, ← hlen]
  refine ⟨.ref s.heap.objs.size, _, I.laid (t' := s.toks) (o := .lst (cutV xs lo hi)) (fun b ob q => Heap.get?_push_of_some _ q) (Nat.le_refl _) ?_, rfl, q _ (I.hok.fresh (Nat.le_refl _))⟩
  exact ⟨Nat.le_trans (cutV_length xs lo hi) hz, _, 0, (r.drop (HT.sIx xs.length 0 lo)).take (HT.sIx xs.length xs.length hi - HT.sIx xs.length 0 lo), Heap.get?_push_size _ rfl⟩
def flatV : V → Bool
  | .non => true
  | .bl _ => true
  | .int _ => true
  | .str _ => true
  | _ => false
def eqV : V → V → Bool
  | .non, .non => true
  | .bl a, .bl b => a == b
  | .bl a, .int b => (if a then 1 else 0) == b
  | .int a, .bl b => a == (if b then 1 else 0)
  | .int a, .int b => a == b
  | .str a, .str b => a == b
  | _, _ => false
theorem eqAt_V {A : Around} {s : Shared} {y x : V} {u v : Value} (ry : RelV y u) (rx : RelV x v) (fy : flatV y = true) (fx : flatV x = true) : SeqAt.EqAt A s u v (eqV y x) := by
  cases y with
  | non =>
    cases ry
    cases x with
    | non => cases rx; exact SeqAt.EqAt.same _
    | bl b => cases rx; exact SeqAt.EqAt.none_bool b
    | int b => obtain ⟨t, rfl⟩ := rx; exact SeqAt.EqAt.none_int b t
    | str b => obtain ⟨t, rfl⟩ := rx; exact SeqAt.EqAt.none_str b t
    | _ => exact absurd (show false = true from fx) Bool.false_ne_true
  | bl a =>
    cases ry
    cases x with
    | non => cases rx; exact SeqAt.EqAt.bool_none a
    | bl b => cases rx; exact SeqAt.EqAt.bool_bool a b
    | int b => obtain ⟨t, rfl⟩ := rx; exact SeqAt.EqAt.bool_int a b t
    | str b => obtain ⟨t, rfl⟩ := rx; exact SeqAt.EqAt.bool_str a b t
    | _ => exact absurd (show false = true from fx) Bool.false_ne_true
  | int a =>
    obtain ⟨t', rfl⟩ := ry
    cases x with
    | non => cases rx; exact SeqAt.EqAt.int_none a t'
    | bl b => cases rx; exact SeqAt.EqAt.int_bool a t' b
    | int b => obtain ⟨t, rfl⟩ := rx; exact SeqAt.EqAt.int_int a t' b t
    | str b => obtain ⟨t, rfl⟩ := rx; exact SeqAt.EqAt.int_str a t' b t
    | _ => exact absurd (show false = true from fx) Bool.false_ne_true
  | str a =>
    obtain ⟨t', rfl⟩ := ry
    cases x with
    | non => cases rx; exact SeqAt.EqAt.str_none a t'
    | bl b => cases rx; exact SeqAt.EqAt.str_bool a t' b
    | int b => obtain ⟨t, rfl⟩ := rx; exact SeqAt.EqAt.str_int a t' b t
    | str b => obtain ⟨t, rfl⟩ := rx; exact SeqAt.EqAt.str_str a t' b t
    | _ => exact absurd (show false = true from fx) Bool.false_ne_true
  | _ => exact absurd (show false = true from fy) Bool.false_ne_true
def eqU (x : V) (u : Value) : Bool := match u with
  | .none => eqV .non x
  | .bool b => eqV (.bl b) x
  | .int i _ => eqV (.int i) x
  | .str z _ => eqV (.str z) x
  | _ => false
theorem eqU_of {x y : V} {u : Value} (r : RelV y u) (f : flatV y = true) : eqU x u = eqV y x := by
  cases y with
  | non => cases r; rfl
  | bl b => cases r; rfl
  | int i => obtain ⟨t, rfl⟩ := r; rfl
  | str z => obtain ⟨t, rfl⟩ := r; rfl
  | _ => exact absurd (show false = true from f) Bool.false_ne_true
theorem any_eqU {x : V} : ∀ {xs : List V} {us : List Value}, Vals xs us → xs.all flatV = true → us.any (eqU x) = xs.any fun y => eqV y x
  | _, _, .nil, _ => rfl
  | y :: xs, u :: us, .cons r t, f => by
    rw [List.all_cons, Bool.and_eq_true] at f
    rw [List.any_cons, List.any_cons, eqU_of r f.1, any_eqU t f.2]
theorem mem_eqAt {A : Around} {s : Shared} {x : V} {v : Value} (rx : RelV x v) (fx : flatV x = true) : ∀ {xs : List V} {us : List Value}, Vals xs us → xs.all flatV = true → ∀ u ∈ us, SeqAt.EqAt A s u v (eqU x u)
  | _, _, .nil, _ => fun u hu => by cases hu
  | y :: xs, u :: us, .cons r t, f => fun u' hu => by
    rw [List.all_cons, Bool.and_eq_true] at f
    rcases List.mem_cons.mp hu with rfl | hu
    · rw [eqU_of r f.1]; exact eqAt_V r rx f.1 fx
    · exact mem_eqAt rx fx t f.2 u' hu
def inV (x : V) (xs : List V) : Bool := xs.any fun y => eqV y x
def rIn (K : PySem.W.Frag) (neg : Bool) : R2 := fun x y H Q => ∃ p xs, y = .ref p ∧ (SqL K H p xs ∨ SqT K H p xs) ∧ flatV x = true ∧ xs.all flatV = true ∧ Q (.bl (if neg then !inV x xs else inV x xs)) H
theorem op_in_seq : OpR X (compareOp .In) (rIn X.K false) := by
  intro pins s σ H x y v u Q I rx ry h
  obtain ⟨p, xs, rfl, hq, fx, fs, q⟩ := h
  cases ry
  rcases hq with hq | hq
  · obtain ⟨its, r, pl, hz⟩ := I.list hq
    refine SeqAt.in_listAt (eqU x) pl.isList (fun w hw => mem_eqAt rx fx r fs w (by simpa using hw)) ⟨.bl _, H, I, rfl, ?_⟩
    rw [show its.toArray.any (eqU x) = its.any (eqU x) by simp, any_eqU r fs]
    exact q
  · obtain ⟨its, r, pl, hz⟩ := I.tuple hq
    refine SeqAt.in_tupleAt (eqU x) pl (fun w hw => mem_eqAt rx fx r fs w (by simpa using hw)) ⟨.bl _, H, I, rfl, ?_⟩
    rw [show its.toArray.any (eqU x) = its.any (eqU x) by simp, any_eqU r fs]
    exact q
theorem op_notIn_seq : OpR X (compareOp .NotIn) (rIn X.K true) := by
  intro pins s σ H x y v u Q I rx ry h
  obtain ⟨p, xs, rfl, hq, fx, fs, q⟩ := h
  cases ry
  rcases hq with hq | hq
  · obtain ⟨its, r, pl, hz⟩ := I.list hq
    refine SeqAt.notIn_listAt (eqU x) pl.isList (fun w hw => mem_eqAt rx fx r fs w (by simpa using hw)) ⟨.bl _, H, I, rfl, ?_⟩
    rw [show its.toArray.any (eqU x) = its.any (eqU x) by simp, any_eqU r fs]
    exact q
  · obtain ⟨its, r, pl, hz⟩ := I.tuple hq
    refine SeqAt.notIn_tupleAt (eqU x) pl (fun w hw => mem_eqAt rx fx r fs w (by simpa using hw)) ⟨.bl _, H, I, rfl, ?_⟩
    rw [show its.toArray.any (eqU x) = its.any (eqU x) by simp, any_eqU r fs]
    exact q
theorem call_len_seq : CallR X (.builtin "len") (fun xs H Q => ∃ p ys, xs = [.ref p] ∧ (SqL X.K H p ys ∨ SqT X.K H p ys) ∧ Q (.int ys.length) H) := by
  intro pins s σ H xs us Q I r h
  obtain ⟨p, ys, rfl, hq, q⟩ := h
  obtain ⟨u, rfl, rx⟩ := vals1 r
  cases rx
  have hn := line63
  rcases hq with hq | hq
  · obtain ⟨its, r', pl, hz⟩ := I.list hq
    have hlen := r'.length
    exact Calls.call_len_list pl.isList (by simp only [List.size_toArray] <;> omega) ⟨.int ys.length, H, I.tok _, ⟨s.toks + 1, by rw [List.size_toArray, hlen]⟩, q⟩
  · obtain ⟨its, r', pl, hz⟩ := I.tuple hq
    have hlen := r'.length
    exact len_tuple pl (by simp only [List.size_toArray] <;> omega) ⟨.int ys.length, H, I.tok _, ⟨s.toks + 1, by rw [List.size_toArray, hlen]⟩, q⟩
theorem call_list_of : CallR X (.type "list") (fun xs H Q => ∃ p ys, xs = [.ref p] ∧ (SqL X.K H p ys ∨ SqT X.K H p ys) ∧ ∀ l, H l = none → Q (.ref l) (upd H l (.lst ys))) := by
  intro pins s σ H xs us Q I r h
  obtain ⟨p, ys, rfl, hq, q⟩ := h
  obtain ⟨u, rfl, rx⟩ := vals1 r
  cases rx
  have fin : ∀ (its : List Value), Vals ys its → ys.length ≤ sizeLine → ∀ (h' : Heap) (c' : Nat), (∀ b o', s.heap.get? b = some o' → h'.get? b = some o') →
      h'.get? s.heap.objs.size = some { cls := .type "list", dict := none, data := .seq its.toArray c', slots := #[] } → EP X pins σ Q (.ref s.heap.objs.size) { s with heap := h' } := fun its r' hz h' c' kp e =>
    ⟨.ref s.heap.objs.size, _, I.laid (t' := s.toks) kp (Nat.le_refl _) (show ObjOk X.prog X.w _ h' _ (.lst ys) from ⟨hz, its, c', r', e⟩), rfl, q _ (I.hok.fresh (Nat.le_refl _))⟩
  rcases hq with hq | hq
  · obtain ⟨its, r', pl, hz⟩ := I.list hq
    have hlen := r'.length
    obtain ⟨o, ho, hc, n, hd⟩ := pl.isList
    exact call_list_seq p (.inl rfl) ho hc hd (fun h' c' kp e => fin its r' hz h' c' kp e) (by simp only [List.size_toArray] <;> omega)
  · obtain ⟨its, r', pl, hz⟩ := I.tuple hq
    have hlen := r'.length
    obtain ⟨o, ho, hc, n, hd⟩ := pl
    exact call_list_seq p (.inr rfl) ho hc hd (fun h' c' kp e => fin its r' hz h' c' kp e) (by simp only [List.size_toArray] <;> omega)
def tyV (K : PySem.W.Frag) (T : String) (x : V) (H : Hp) : Prop := match x with
  | .str _ => T = "str"
  | .int _ => T = "int"
  | .ref p => (T = "list" ∧ ∃ xs, SqL K H p xs) ∨ (T = "tuple" ∧ ∃ o, K.lookup p = some o ∧ o.cls = .type "tuple" ∧ o.dict = none) ∨
      (T = "dict" ∧ ((∃ kvs, H p = some (.dK kvs)) ∨ ∃ kvs, H p = some (.dT kvs))) ∨ (T = "set" ∧ ∃ S n, H p = some (.set S n))
  | _ => False
theorem tyV_is {pins : List (Addr × Obj)} {σ : St} {H : Hp} {s : Shared} {T : String} {x : V} {v : Value} (I : Inv X pins σ H s) (r : RelV x v) (ty : tyV X.K T x H) :
    s.TypeIs v T ∧ ∀ a, v = .ref a → ∃ ob, s.heap.get? a = some ob ∧ ob.dict = none := by
  cases x with
  | str z =>
    obtain ⟨t, rfl⟩ := r
    cases (show T = "str" from ty)
    exact ⟨typeIs_str s z t, fun _ e => nomatch e⟩
  | int i =>
    obtain ⟨t, rfl⟩ := r
    cases (show T = "int" from ty)
    exact ⟨typeIs_int s i t, fun _ e => nomatch e⟩
  | ref p =>
    cases r
    rcases ty with ⟨rfl, xs, hq⟩ | ⟨rfl, o, hk, hc, hd⟩ | ⟨rfl, hk⟩ | ⟨rfl, S, n, hk⟩
    · obtain ⟨its, _, pl, _⟩ := I.list hq
      refine ⟨pl.isList.typeIs, fun a e => ?_⟩
      cases e
      obtain ⟨o, n, e, c, hd, _⟩ := pl
      exact ⟨o, e, hd⟩
    · refine ⟨⟨o, I.kIn p o hk, hc⟩, fun a e => ?_⟩
      cases e
      exact ⟨o, I.kIn _ o hk, hd⟩
    · have z : ∃ o, s.heap.get? p = some o ∧ o.ExactDict := by
        rcases hk with ⟨kvs, hk⟩ | ⟨kvs, hk⟩
        · obtain ⟨_, _, _, _, o, _, _, e, ex, _⟩ := I.hok p _ hk
          exact ⟨o, e, ex⟩
        · obtain ⟨_, _, _, _, o, _, _, e, ex, _⟩ := I.hok p _ hk
          exact ⟨o, e, ex⟩
      obtain ⟨o, e, ex⟩ := z
      refine ⟨⟨o, e, ex.1⟩, fun a e2 => ?_⟩
      cases e2
      exact ⟨o, e, ex.2.1⟩
    · obtain ⟨o, _, _, _, e, ex, _⟩ := I.hok p _ hk
      refine ⟨⟨o, e, ex.1⟩, fun a e2 => ?_⟩
      cases e2
      exact ⟨o, e, ex.2.1⟩
  | _ => exact False.elim ty
def tBM (K : PySem.W.Frag) (T : String) (r : V → List V → Hp → VK → Prop) (to : TE) (t : TA) : TE := fun σ H Q => to σ H fun x H1 => tyV K T x H1 ∧ t σ H1 fun xs H2 => r x xs H2 Q
variable {o e : Expr} {es : List Expr} {to : TE} {t : TA} {name : Str} {apos cpos : Pos} {T id : String} {r : V → List V → Hp → VK → Prop}
theorem pe_bm (pa : PlainAttrs T) (slot : Slot T name id) (hty : typeOf (.builtin id) = pure (.type "method_descriptor")) (hm : MtR X id r) (ho : PE X o to) (ha : PA X (e :: es) t)
    (hbase : attributeBase o name X.env (eval o X.env) = eval o X.env := by rfl)
    (hfew : ((backTo cpos (starEach (e :: es) X.env)).all (fun x => !x.1) && (backToKw cpos (keywordEach [] X.env)).all (fun x => x.1.isSome)
      && decide ((e :: es).length + ([] : List Keyword).length + (if ([] : List Keyword).isEmpty then 0 else 1) < 30)) = true := by rfl)
    (hline : (apos.endLine == cpos.line) = true := by rfl) (hs : starEach (e :: es) X.env = (false, eval e X.env) :: starEach es X.env := by rfl) (hplain : (backTo cpos (starEach es X.env)).any (·.1) = false := by rfl) :
    PE X (.Call (.Attribute o name apos) (e :: es) [] cpos) (tBM X.K T r to t) := by
  intro pins s σ H Q I h
  refine wpAny_Call_method_late hbase hfew hline rfl (thn (ho pins s σ H _ I h) fun v s1 ⟨x, H1, I1, r1, ty, q1⟩ => ?_)
  obtain ⟨h1, h2⟩ := tyV_is I1 r1 ty
  refine ⟨T, id, pa, slot, hty, h1, h2, ?_⟩
  have hA := ha cpos pins s1 σ H1 _ I1 q1
  rw [hs] at hA ⊢
  refine Calls.callWith_builtin (by show (false || (backTo cpos (starEach es X.env)).any (·.1)) = false; rw [hplain] <;> rfl) (Calls.evalArgs_plain ?_)
  exact thn hA fun us s2 ⟨vs, H2, I2, r2, q2⟩ => hm pins s2 σ H2 x vs v us Q I2 r1 r2 q2
end
end L2
namespace L2
open PySem PySem.Spec PyProof.Rows
def MtM (X : Cx) (id : String) (r : V → List V → Hp → VK → Prop) : Prop :=
  ∀ (pins : List (Addr × Obj)) (s : Shared) (σ : St) (H : Hp) (x : V) (xs : List V) (v : Value) (us : List Value) (Q : VK), Inv X pins σ H s → RelV x v → Vals xs us → r x xs H Q →
    wpAny (model X.prog X.w) X.A (call (.builtin id) (v :: us)) (EP X pins σ Q) X.xe s
theorem Vals.one : ∀ {x : V} {us : List Value}, Vals [x] us → ∃ u, us = [u] ∧ RelV x u
  | _, _, .cons r .nil => ⟨_, rfl, r⟩
theorem Vals.two : ∀ {x y : V} {us : List Value}, Vals [x, y] us → ∃ u v, us = [u, v] ∧ RelV x u ∧ RelV y v
  | _, _, _, .cons r (.cons q .nil) => ⟨_, _, rfl, r, q⟩
theorem Vals.zero : ∀ {us : List Value}, Vals [] us → us = []
  | _, .nil => rfl
theorem Vals.dropLast {xs : List V} {us : List Value} (h : Vals xs us) : Vals xs.dropLast us.dropLast := by
  induction h with
  | nil => exact .nil
  | cons r t ih =>
    cases t with
    | nil => exact .nil
    | cons q t' => exact .cons r ih
theorem Vals.reverse {xs : List V} {us : List Value} (h : Vals xs us) : Vals xs.reverse us.reverse := by
  induction h with
  | nil => exact .nil
  | cons r t ih => rw [List.reverse_cons, List.reverse_cons]; exact Vals.append ih (.cons r .nil)
section
variable {X : Cx} {pins : List (Addr × Obj)} {σ : St} {H : Hp} {s : Shared} {l b : Addr} {xs ys zs : List V}
theorem Inv.lset {its its' : List Value} {n : Nat} {f : Array Value → Array Value} {t' : Nat} (I : Inv X pins σ H s) (hH : H l = some (.lst xs))
    (e : s.heap.get? l = some { cls := .type "list", data := .seq its.toArray n }) (hf : f its.toArray = its'.toArray) (hv : Vals ys its') (hz : ys.length ≤ sizeLine) :
    Inv X pins σ (upd H l (.lst ys)) { s with heap := s.heap.update l (Obj.mapSeq f), toks := t' } := by
  have q := PySem.IsL.update e f
  rw [hf] at q
  refine I.write (x := l) (e := l) (by rw [hH]; exact trivial) (.inl rfl) (fun b' u hb hu => (Heap.get?_update_other s.heap (Obj.mapSeq f) (Ne.symm hb)).trans hu) ⟨_, q⟩ ?_
  exact ⟨hz, its', _, hv, q⟩
theorem Inv.lnew {its : List Value} {t' : Nat} (I : Inv X pins σ H s) (hv : Vals ys its) (hz : ys.length ≤ sizeLine) :
    Inv X pins σ (upd H s.heap.objs.size (.lst ys)) { s with heap := s.heap.push { cls := .type "list", data := .seq its.toArray }, toks := t' } :=
  I.laid (fun _ _ q => Heap.get?_push_of_some _ q) (Nat.le_refl _) ⟨hz, its, 0, hv, Heap.get?_push_size _ rfl⟩
theorem Inv.fresh (I : Inv X pins σ H s) : H s.heap.objs.size = none := I.hok.fresh (Nat.le_refl _)
theorem Inv.lstM (I : Inv X pins σ H s) (hH : H l = some (.lst xs)) : xs.length ≤ sizeLine ∧ ∃ (its : List Value) (n : Nat), Vals xs its ∧ xs.length = its.length ∧ s.heap.get? l = some { cls := .type "list", data := .seq its.toArray n } := by
  obtain ⟨z, its, n, r, e⟩ := I.hok l _ hH
  exact ⟨z, its, n, r, r.length, e⟩
theorem notLongL {n : Nat} (h : n ≤ sizeLine) : Builtin.List.listTooLong n = false := by
  unfold Builtin.List.listTooLong
  exact decide_eq_false (by omega)
end
section
variable {X : Cx}
def rAppend : V → List V → Hp → VK → Prop := fun x vs H Q => ∃ l xs y, x = .ref l ∧ vs = [y] ∧ H l = some (.lst xs) ∧ xs.length < sizeLine ∧ Q .non (upd H l (.lst (xs ++ [y])))
theorem mt_append : MtM X "list.append" rAppend := by
  intro pins s σ H x vs v us Q I rx rv h
  obtain ⟨l, xs, y, rfl, rfl, hH, hz, q⟩ := h
  cases rx
  obtain ⟨u, rfl, ru⟩ := rv.one
  obtain ⟨z, its, n, r, hl, e⟩ := I.lstM hH
  refine call_meets F.slot_list_append ⟨_, e, rfl⟩ F.entry_list_append (F.args_list_append_2 _ _) (PySem.list_append l its.toArray n u (by rw [List.size_toArray]; omega)) ⟨e, ?_⟩
  refine ⟨.non, _, I.lset (its' := its ++ [u]) hH e (by simp) (r.append (.cons ru .nil)) ?_, rfl, q⟩
  rw [List.length_append, List.length_singleton]
  omega
def rExtend : V → List V → Hp → VK → Prop := fun x vs H Q => ∃ l b xs zs, x = .ref l ∧ vs = [.ref b] ∧ H l = some (.lst xs) ∧ H b = some (.lst zs) ∧ xs.length + zs.length ≤ sizeLine ∧ Q .non (upd H l (.lst (xs ++ zs)))
theorem mt_extend : MtM X "list.extend" rExtend := by
  intro pins s σ H x vs v us Q I rx rv h
  obtain ⟨l, b, xs, zs, rfl, rfl, hH, hB, hz, q⟩ := h
  cases rx
  obtain ⟨u, rfl, ru⟩ := rv.one
  cases ru
  obtain ⟨z, its, n, r, hl, e⟩ := I.lstM hH
  obtain ⟨z2, its2, n2, r2, hl2, e2⟩ := I.lstM hB
  have hsz : its.toArray.size + its2.toArray.size ≤ sizeLine := by rw [List.size_toArray, List.size_toArray]; omega
  have hlong : ¬ (!its.toArray.isEmpty && Builtin.List.listTooLong (its.toArray.size + its2.toArray.size)) = true := by
    rw [notLongL hsz, Bool.and_false]
    exact Bool.false_ne_true
  refine call_meets F.slot_list_extend ⟨_, e, rfl⟩ F.entry_list_extend (F.args_list_extend_2 _ _)
    (AutoSeq1.list_extend_list_list_0 l its.toArray n b its2.toArray n2 hlong (by rw [List.size_toArray]; omega) (by omega)) ⟨e, e2, ?_⟩
  refine ⟨.non, _, I.lset (its' := its ++ its2) hH e (by simp) (r.append r2) ?_, rfl, q⟩
  rw [List.length_append]
  omega
def rCat : R2 := fun x y H Q => ∃ l b xs zs, x = .ref l ∧ y = .ref b ∧ H l = some (.lst xs) ∧ H b = some (.lst zs) ∧ xs.length + zs.length ≤ sizeLine ∧ ∀ p, H p = none → Q (.ref p) (upd H p (.lst (xs ++ zs)))
theorem op_cat : OpR X (binaryOp .Add) rCat := by
  intro pins s σ H x y v u Q I rx ry h
  obtain ⟨l, b, xs, zs, rfl, rfl, hH, hB, hz, q⟩ := h
  cases rx
  cases ry
  obtain ⟨z, its, n, r, hl, e⟩ := I.lstM hH
  obtain ⟨z2, its2, n2, r2, hl2, e2⟩ := I.lstM hB
  refine PySem.P.add_list e e2 ?_ (by rw [List.size_toArray, List.size_toArray]; omega)
  have ea : its.toArray ++ its2.toArray = (its ++ its2).toArray := by simp
  rw [ea]
  exact ⟨.ref _, _, I.lnew (t' := s.toks) (r.append r2) (by rw [List.length_append]; omega), rfl, q _ I.fresh⟩
end
section
variable {prog : Program} {w : World} {A : Around} {E : Value → Shared → Prop} {s : Shared}
end
section
variable {X : Cx}
end
end L2
namespace L2
open PySem PySem.Spec PyProof.Rows
theorem Vals.ints : ∀ {ns : List Int} {us : List Value}, Vals (ns.map V.int) us → IntsAre us ns
  | [], us, h => by
    rw [List.map_nil] at h
    cases h
    exact IntsAre.nil
  | n :: ns, us, h => by
    rw [List.map_cons] at h
    cases h with
    | cons r t =>
      obtain ⟨k, rfl⟩ := r
      exact IntsAre.cons n k (Vals.ints t)
theorem vals_of_ints : ∀ {us : List Value} {ns : List Int}, IntsAre us ns → Vals (ns.map V.int) us
  | _, _, .nil => by rw [List.map_nil]; exact Paired.nil
  | _, _, .cons n t h => by rw [List.map_cons]; exact Paired.cons (show RelV (V.int n) (Value.int n t) from ⟨t, rfl⟩) (vals_of_ints h)
theorem Vals.strs : ∀ {xs : List Str} {us : List Value}, Vals (xs.map V.str) us → StrsAre us xs
  | [], us, h => by
    rw [List.map_nil] at h
    cases h
    exact StrsAre.nil
  | x :: xs, us, h => by
    rw [List.map_cons] at h
    cases h with
    | cons r t =>
      obtain ⟨k, rfl⟩ := r
      exact StrsAre.cons x k (Vals.strs t)
theorem Vals.bls : ∀ {bs : List Bool} {us : List Value}, Vals (bs.map V.bl) us → us = bs.map Value.bool
  | [], us, h => by
    rw [List.map_nil] at h
    cases h
    rfl
  | b :: bs, us, h => by
    rw [List.map_cons] at h
    cases h with
    | cons r t =>
      cases r
      rw [Vals.bls t, List.map_cons]
theorem Vals.ref1 {a : Addr} {us : List Value} (r : Vals [V.ref a] us) : us = [Value.ref a] := by
  cases r with
  | cons r t =>
    cases t
    cases r
    rfl
section
variable {prog : Program} {w : World} {A : Around} {E : Value → Shared → Prop} {s : Shared} {l : Addr} {its : List Value} {ns : List Int} {Q : Value → Shared → Prop}
theorem max_raw (hh : A.handled = none) (hl : s.heap.IsList l its.toArray) (hi : IntsAre its ns) (hne : 0 < ns.length)
    (h : ∀ h' tk M t', (∀ b o, s.heap.get? b = some o → h'.get? b = some o) → M ∈ ns → (∀ a, a ∈ ns → a ≤ M) → Q (.int M t') { s with heap := h', toks := tk }) : wpAny (model prog w) A (call (.builtin "max") [.ref l]) Q E s := by
  obtain ⟨xs, e⟩ := hi.allInts.items
  have hn : numsOf (intItems xs).toList = ns := by rw [← e]; exact hi.numsOf
  rw [nums_intItems] at hn
  subst hn
  rw [e] at hl
  have hsz : 0 < xs.size := by simpa using hne
  refine PySem.max_intList hh hl hsz fun v h' tk hv hk => ?_
  obtain ⟨t, rfl⟩ := intItems_at hv
  obtain ⟨h1, h2⟩ := argBest_gt (numAt xs) (xs.size - 1)
  refine h h' tk _ t hk ?_ fun a ha => ?_
  · rw [numAt_eq]; exact PySem.getD_mem (by rw [List.length_map, Array.length_toList]; omega)
  · obtain ⟨j, hj, rfl⟩ := mem_getD ha
    rw [List.length_map, Array.length_toList] at hj
    rw [← numAt_eq]; exact h2 j (by omega)
end
section
variable {X : Cx}
def rMax (K : PySem.W.Frag) : List V → Hp → VK → Prop := fun vs H Q => ∃ (a : Addr) (ns : List Int), vs = [V.ref a] ∧ SqL K H a (ns.map V.int) ∧ 0 < ns.length ∧ ∀ m, m ∈ ns → (∀ y, y ∈ ns → y ≤ m) → Q (.int m) H
theorem cr_max (hc : X.calm = true) : CallR X (.builtin "max") (rMax X.K) := by
  intro pins s σ H vs us Q I r h
  obtain ⟨a, ns, rfl, hs, hne, q⟩ := h
  obtain ⟨its, rv, hl, _⟩ := I.list hs
  rw [Vals.ref1 r]
  exact max_raw (I.ok.hd hc) hl.isList rv.ints hne fun h' tk m t' hk h1 h2 => ⟨.int _, H, I.kept hk, ⟨_, rfl⟩, q m h1 h2⟩
def rSorted (K : PySem.W.Frag) : List V → Hp → VK → Prop := fun vs H Q => ∃ (a : Addr) (ns : List Int), vs = [V.ref a] ∧ SqL K H a (ns.map V.int) ∧ ns.length < 64 ∧
  ∀ (ns' : List Int) (p : Addr), ns'.Perm ns → ns'.Pairwise (· ≤ ·) → H p = none → Q (.ref p) (upd H p (.lst (ns'.map V.int)))
theorem small64 {n : Nat} (h : n < 64) : n ≤ sizeLine := by rw [sizeLine_eq]; omega
theorem cr_sorted : CallR X (.builtin "sorted") (rSorted X.K) := by
  intro pins s σ H vs us Q I r h
  obtain ⟨a, ns, rfl, hs, h64, q⟩ := h
  obtain ⟨its, rv, hl, _⟩ := I.list hs
  rw [Vals.ref1 r]
  have hi := rv.ints
  refine PyProof.Rows.sorted_ints hl.isList hi (by rw [hi.length]; exact h64) fun out ns' h1 h2 h3 => ?_
  obtain ⟨ep, he'⟩ := PyProof.Rows.sortedAll_at s.heap its out
  have hlen : (ns'.map V.int).length ≤ sizeLine := by rw [List.length_map, h2.length_eq]; exact small64 h64
  exact ⟨.ref _, upd H (s.heap.objs.size + 1) (.lst (ns'.map V.int)), I.laid (t' := s.toks) (fun _ _ => PyProof.Rows.sortedAll_old) (Nat.le_succ _) ⟨hlen, out.toList, ep, vals_of_ints h1, he'⟩, rfl, q ns' _ h2 h3 (I.hok.fresh (Nat.le_succ _))⟩
end
section
variable {X : Cx}
def rIndex (K : PySem.W.Frag) : V → List V → Hp → VK → Prop := fun x xs H Q => ∃ (a : Addr) (ys : List V) (y : V) (j : Nat) (z : V), x = V.ref a ∧ xs = [y] ∧ SqL K H a ys ∧ flatV y = true ∧ ys.all flatV = true ∧ ys[j]? = some z ∧ eqV z y = true ∧
  (∀ (m : Nat) (z' : V), m < j → ys[m]? = some z' → eqV z' y = false) ∧ Q (.int (j : Nat)) H
theorem flat_at {ys : List V} (f : ys.all flatV = true) {j : Nat} {z : V} (h : ys[j]? = some z) : flatV z = true := List.all_eq_true.mp f z (List.mem_of_getElem? h)
theorem mt_index : MtR X "list.index" (rIndex X.K) := by
  intro pins s σ H x xs v us Q I rx rxs h
  obtain ⟨a, ys, y, j, z, rfl, rfl, hs, fy, fys, hz, hzj, hno, q⟩ := h
  cases rx
  cases rxs with
  | cons ry rt =>
    rename_i uy ut
    cases rt
    obtain ⟨its, rv, ⟨⟨cls, dd, data, sl⟩, n, ho, hc, hdn, hd⟩, hlen⟩ := I.list hs
    simp only at hc hd
    subst hc hd
    obtain ⟨u, hu, ru⟩ := rv.get hz
    obtain ⟨hjl, hje⟩ := List.getElem?_eq_some_iff.mp hu
    have hvl := rv.length
    have hj : j < its.toArray.size := by simpa using hjl
    have hsl := sizeLine_eq
    refine call_meets PySem.F.slot_list_index ⟨_, ho, rfl⟩ PySem.F.entry_list_index (PySem.F.args_list_index_2 _ _)
      (SeqAt.list_indexAt a its.toArray n dd sl uy (eqU y) j hj (by omega) ?_ ?_) ⟨ho, fun u' hu' => mem_eqAt ry fy rv fys u' (by simpa using hu'), ?_⟩
    · have e1 : its.toArray[j] = u := by simpa using hje
      rw [e1, eqU_of ru (flat_at fys hz)]
      exact hzj
    · intro m hm hmj
      have hml : m < its.length := by simpa using hm
      have hmy : m < ys.length := by omega
      have hy' : ys[m]? = some ys[m] := List.getElem?_eq_getElem hmy
      obtain ⟨u2, hu2, ru2⟩ := rv.get hy'
      obtain ⟨_, hme⟩ := List.getElem?_eq_some_iff.mp hu2
      have e1 : its.toArray[m] = u2 := by simpa using hme
      rw [e1, eqU_of ru2 (flat_at fys hy')]
      exact hno m _ hmj hy'
    · exact ⟨.int (j : Nat), H, I.tok _, ⟨_, rfl⟩, q⟩
end
section
variable {X : Cx}
end
theorem iter_any {prog : Program} {w : World} {A : Around} {E : Value → Shared → Prop} {s : Shared} {l : Addr} {items : Array Value} {Q : Value → Shared → Prop} (hl : s.heap.IsList l items)
    (h : ∀ s₂ : Shared, s₂ = { s with heap := s.heap.push { cls := .type "list_iterator", data := .fields #[.ref l, .int 0 0] } } →
      (s₂.heap.IsListIter s.heap.objs.size l 0 ∧ s₂.heap.IsList l items) → l ≠ s.heap.objs.size → Q (.ref s.heap.objs.size) s₂) : wpAny (model prog w) A (pyIter (.ref l)) Q E s := by
  have hlt : l < s.heap.objs.size := by obtain ⟨_, e, _⟩ := hl; exact Heap.lt_size e
  exact wpAny_pyIter_list hl (h _ rfl ⟨⟨_, Heap.get?_push_size _ rfl, rfl, rfl⟩, hl.push _⟩ (Nat.ne_of_lt hlt))
theorem truth_bools {prog : Program} {w : World} {A : Around} {bs : List Bool} {its : List Value} (e : its = bs.map Value.bool) :
    TruthOf prog w A (fun i v => its.toArray[i]? = some v) (fun i => bs.getD i false) := fun i v s Q E hv hq => by
  have hv' : its[i]? = some v := by simpa using hv
  rw [e, List.getElem?_map] at hv'
  obtain ⟨b, hb, rfl⟩ := Option.map_eq_some_iff.mp hv'
  have hg : bs.getD i false = b := by rw [List.getD_eq_getElem?_getD, hb] <;> rfl
  have hq' : Q (bs.getD i false) s := hq
  rw [hg] at hq'
  exact wpAny_truthy_bool hq'
theorem any_range : ∀ bs : List Bool, (List.range bs.length).any (fun i => bs.getD i false) = bs.any id
  | [] => rfl
  | b :: bs => by
    rw [List.length_cons, List.range_succ_eq_map, List.any_cons, List.any_map, List.any_cons, ← any_range bs]
    all_goals rfl
section
variable {X : Cx}
def rAny (K : PySem.W.Frag) : List V → Hp → VK → Prop := fun vs H Q => ∃ (a : Addr) (bs : List Bool), vs = [V.ref a] ∧ SqL K H a (bs.map V.bl) ∧ Q (.bl (bs.any id)) H
theorem cr_any (hc : X.calm = true) : CallR X (.builtin "any") (rAny X.K) := by
  intro pins s σ H vs us Q I r h
  obtain ⟨a, bs, rfl, hs, q⟩ := h
  obtain ⟨its, rv, hl, _⟩ := I.list hs
  rw [Vals.ref1 r]
  have hb := rv.bls
  refine call_any_walk (iter_any hl.isList fun s₂ e2 st hne => ?_)
  subst e2
  refine ⟨_, _, _, _, _, _, _, rfl, Walks.list (A := X.A.in1) (I.ok.hd hc) _ a hne its.toArray, st, truth_bools hb, fun h' tk hk => ?_⟩
  refine ⟨.bl _, H, I.kept fun b o eo => hk b o (fun hmem => ?_) (Heap.get?_push_of_some _ eo), ?_, q⟩
  · rcases List.mem_cons.mp hmem with e1 | hmem
    · exact absurd (e1 ▸ Heap.lt_size eo) (Nat.lt_irrefl _)
    · cases hmem
  · show Value.bool _ = Value.bool _
    rw [← any_range, hb, List.size_toArray, List.length_map]
end
mutual
inductive Dp (K : PySem.W.Frag) (H : Hp) : V → PyData → Prop
  | non : Dp K H .non .none
  | bl (b : Bool) : Dp K H (.bl b) (.bool b)
  | int (i : Int) : Dp K H (.int i) (.int i)
  | str (x : Str) : Dp K H (.str x) (.str x)
  | lst {a : Addr} {xs : List V} {ds : List PyData} : SqL K H a xs → DpAll K H xs ds → Dp K H (.ref a) (.list ds)
  | tup {a : Addr} {xs : List V} {ds : List PyData} : SqT K H a xs → DpAll K H xs ds → Dp K H (.ref a) (.tuple ds)
inductive DpAll (K : PySem.W.Frag) (H : Hp) : List V → List PyData → Prop
  | nil : DpAll K H [] []
  | cons {v : V} {vs : List V} {d : PyData} {ds : List PyData} : Dp K H v d → DpAll K H vs ds → DpAll K H (v :: vs) (d :: ds)
end
section
variable {X : Cx} {pins : List (Addr × Obj)} {σ : St} {H : Hp} {s : Shared}
mutual
theorem Dp.reads (I : Inv X pins σ H s) : ∀ (d : PyData) (v : V) (u : Value), Dp X.K H v d → RelV v u → ∃ as, Reads s.heap u d as
  | .none, _, _, h, r => by
    cases h
    cases r
    exact ⟨_, Reads.none⟩
  | .bool b, _, _, h, r => by
    cases h
    cases r
    exact ⟨_, Reads.bool b⟩
  | .int i, _, _, h, r => by
    cases h
    obtain ⟨t, rfl⟩ := r
    exact ⟨_, Reads.int i t⟩
  | .str x, _, _, h, r => by
    cases h
    obtain ⟨t, rfl⟩ := r
    exact ⟨_, Reads.str x t⟩
  | .list ds, _, _, h, r => by
    cases h with
    | lst hs ha =>
      cases r
      obtain ⟨its, rv, ⟨o, n, ho, hc, _, hd⟩, _⟩ := I.list hs
      obtain ⟨as, hr⟩ := Dp.readsAll I ds _ its ha rv
      exact ⟨_, Reads.list ho hc hd hr⟩
  | .tuple ds, _, _, h, r => by
    cases h with
    | tup hs ha =>
      cases r
      obtain ⟨its, rv, ⟨o, ho, hc, n, hd⟩, _⟩ := I.tuple hs
      obtain ⟨as, hr⟩ := Dp.readsAll I ds _ its ha rv
      exact ⟨_, Reads.tuple ho hc hd hr⟩
  | .dict _, _, _, h, _ => by cases h
theorem Dp.readsAll (I : Inv X pins σ H s) : ∀ (ds : List PyData) (vs : List V) (us : List Value), DpAll X.K H vs ds → Vals vs us → ∃ as, ReadsAll s.heap us ds as
  | [], _, _, h, r => by
    cases h
    cases r
    exact ⟨_, ReadsAll.nil⟩
  | d :: ds, _, _, h, r => by
    cases h with
    | cons h1 h2 =>
      cases r with
      | cons r1 r2 =>
        obtain ⟨as, q1⟩ := Dp.reads I d _ _ h1 r1
        obtain ⟨bs, q2⟩ := Dp.readsAll I ds _ _ h2 r2
        exact ⟨_, ReadsAll.cons q1 q2⟩
end
end
section
variable {X : Cx}
def rNeD (K : PySem.W.Frag) : R2 := fun x y H Q => ∃ d e, Dp K H x d ∧ Dp K H y e ∧ SeqAt.shaped d = true ∧ SeqAt.shaped e = true ∧ Q (.bl (!PyData.eqv d e)) H
theorem op_neD (hu : X.A.units + 64 < cLine) : OpR X (compareOp .NotEq) (rNeD X.K) := by
  intro pins s σ H x y v u Q I rx ry h
  obtain ⟨d, e, hd, he, sd, se, q⟩ := h
  obtain ⟨as, r1⟩ := Dp.reads I d x v hd rx
  obtain ⟨bs, r2⟩ := Dp.reads I e y u he ry
  exact SeqAt.compareNe_shaped r1 r2 sd se hu ⟨.bl _, H, I, rfl, q⟩
end
end L2
namespace L2
open PySem PySem.Spec PyProof.Rows
abbrev CellAt (h : Heap) (c : Addr) (v : Option Value) : Prop := h.IsCell c v
def relS (scope sc : Scope) : Scope :=
  { scope with names := scope.names.map fun (n, k) => if (k == .free && sc.kind == .function && sc.names.lookup n == some .cell) then (n, .cell) else (n, k) }
def cloFrom (cells : List (Str × Addr)) : List (Str × NameKind) → List (Str × Addr) → List (Str × Addr)
  | [], acc => acc
  | (n, k) :: r, acc => if k == .free then cloFrom cells r ((n, (cells.lookup n).getD 0) :: acc) else cloFrom cells r acc
theorem closure_loop (env : Env) (f : Str × NameKind → List (Str × Addr) → Sem (ForInStep (List (Str × Addr))))
    (hf : ∀ n k c, f (n, k) c = if k == .free then (do let a ← cellOf env n; pure (.yield ((n, a) :: c))) else pure (.yield c)) :
    ∀ (names : List (Str × NameKind)) (acc : List (Str × Addr)), (∀ y ∈ names, y.2 = .free → ∃ c, env.cells.lookup y.1 = some c) → forIn names acc f = pure (cloFrom env.cells names acc)
  | [], acc, _ => by rw [List.forIn_nil]; rfl
  | (n, k) :: r, acc, h => by
    rw [List.forIn_cons, hf]
    have ih := fun acc => closure_loop env f hf r acc fun y hy => h y (List.mem_cons_of_mem _ hy)
    unfold cloFrom
    by_cases hk : (k == NameKind.free) = true
    · rw [if_pos hk, if_pos hk]
      obtain ⟨c, hc⟩ := h (n, k) List.mem_cons_self (by simpa using hk)
      have e : cellOf env n = pure c := by unfold cellOf; rw [hc]
      rw [e]
      have e2 : (env.cells.lookup n).getD 0 = c := by rw [hc]; rfl
      rw [e2]
      exact ih _
    · rw [if_neg hk, if_neg hk]
      exact ih _
theorem closure_ok {scope : Scope} {env : Env} (h : ∀ y ∈ scope.names, y.2 = .free → ∃ c, env.cells.lookup y.1 = some c) : closureFor scope env = pure (cloFrom env.cells scope.names []) := by
  simp only [closureFor]
  rw [closure_loop env _ (fun n k c => rfl) scope.names [] h]
  rfl
theorem mem_lookup {α : Type} : ∀ {l : List (Str × α)} {n : Str} {c : α}, (n, c) ∈ l → ∃ c', l.lookup n = some c'
  | (k, v) :: r, n, c, h => by
    rw [List.lookup_cons]
    cases hb : n == k with
    | true => exact ⟨_, rfl⟩
    | false =>
      rcases List.mem_cons.mp h with e | h
      · cases e; simp at hb
      · exact mem_lookup h
theorem cloFrom_mem {cells : List (Str × Addr)} : ∀ {names : List (Str × NameKind)} {acc : List (Str × Addr)} {n : Str} {c : Addr}, (n, c) ∈ cloFrom cells names acc → (n, c) ∈ acc ∨ ((n, .free) ∈ names ∧ c = (cells.lookup n).getD 0)
  | [], _, _, _, h => .inl h
  | (m, k) :: r, acc, n, c, h => by
    unfold cloFrom at h
    split at h
    · rename_i hk
      have hk : k = .free := by simpa using hk
      rcases cloFrom_mem h with h | ⟨h1, h2⟩
      · rcases List.mem_cons.mp h with e | h
        · cases e; exact .inr ⟨hk ▸ List.mem_cons_self, rfl⟩
        · exact .inl h
      · exact .inr ⟨List.mem_cons_of_mem _ h1, h2⟩
    · rcases cloFrom_mem h with h | ⟨h1, h2⟩
      · exact .inl h
      · exact .inr ⟨List.mem_cons_of_mem _ h1, h2⟩
theorem cloFrom_acc {cells : List (Str × Addr)} : ∀ {names : List (Str × NameKind)} {acc : List (Str × Addr)} {p : Str × Addr}, p ∈ acc → p ∈ cloFrom cells names acc
  | [], _, _, h => h
  | (m, k) :: r, acc, p, h => by
    unfold cloFrom
    split
    · exact cloFrom_acc (List.mem_cons_of_mem _ h)
    · exact cloFrom_acc h
theorem cloFrom_has {cells : List (Str × Addr)} : ∀ {names : List (Str × NameKind)} {acc : List (Str × Addr)} {n : Str}, (n, .free) ∈ names → (n, (cells.lookup n).getD 0) ∈ cloFrom cells names acc
  | (m, k) :: r, acc, n, h => by
    unfold cloFrom
    rcases List.mem_cons.mp h with e | h
    · cases e
      exact cloFrom_acc List.mem_cons_self
    · split
      · exact cloFrom_has h
      · exact cloFrom_has h
theorem cells_mem : ∀ {names : List (Str × NameKind)} {h : Heap} {acc : List (Str × Addr)} {x : Str} {c : Addr}, (x, c) ∈ cellsFrom h.objs.size names acc →
    (x, c) ∈ acc ∨ ((x, .cell) ∈ names ∧ h.objs.size ≤ c ∧ CellAt (pushCells h names) c none)
  | [], _, _, _, _, h => .inl h
  | (n, k) :: r, h, acc, x, c, hm => by
    unfold cellsFrom at hm
    unfold pushCells
    split at hm
    · rename_i hk
      rw [if_pos hk]
      have hk : k = .cell := by simpa using hk
      rw [← Heap.size_push h { cls := .type "cell", data := .cell none }] at hm
      rcases cells_mem hm with hm | ⟨h1, h2, h3⟩
      · rcases List.mem_cons.mp hm with e | hm
        · cases e
          exact .inr ⟨hk ▸ List.mem_cons_self, Nat.le_refl _, _, pushCells_keeps r _ _ _ (Heap.get?_push_size _ rfl), rfl⟩
        · exact .inl hm
      · rw [Heap.size_push] at h2
        exact .inr ⟨List.mem_cons_of_mem _ h1, Nat.le_of_succ_le h2, h3⟩
    · rename_i hk
      rw [if_neg hk]
      rcases cells_mem hm with hm | ⟨h1, h2, h3⟩
      · exact .inl hm
      · exact .inr ⟨List.mem_cons_of_mem _ h1, h2, h3⟩
theorem cells_acc : ∀ {names : List (Str × NameKind)} {n : Nat} {acc : List (Str × Addr)} {p : Str × Addr}, p ∈ acc → p ∈ cellsFrom n names acc
  | [], _, _, _, h => h
  | (m, k) :: r, n, acc, p, h => by
    unfold cellsFrom
    split
    · exact cells_acc (List.mem_cons_of_mem _ h)
    · exact cells_acc h
theorem cells_has : ∀ {names : List (Str × NameKind)} {n : Nat} {acc : List (Str × Addr)} {x : Str}, (x, .cell) ∈ names → ∃ c, (x, c) ∈ cellsFrom n names acc
  | (m, k) :: r, n, acc, x, h => by
    unfold cellsFrom
    rcases List.mem_cons.mp h with e | h
    · cases e
      exact ⟨n, cells_acc List.mem_cons_self⟩
    · split
      · exact cells_has h
      · exact cells_has h
theorem cells_inj : ∀ {names : List (Str × NameKind)} {h : Heap} {acc : List (Str × Addr)} {x y : Str} {c : Addr}, (∀ p ∈ acc, p.2 < h.objs.size) → (∀ x y c, (x, c) ∈ acc → (y, c) ∈ acc → x = y) →
    (x, c) ∈ cellsFrom h.objs.size names acc → (y, c) ∈ cellsFrom h.objs.size names acc → x = y
  | [], _, _, _, _, _, _, hi, h1, h2 => hi _ _ _ h1 h2
  | (n, k) :: r, h, acc, x, y, c, hl, hi, h1, h2 => by
    unfold cellsFrom at h1 h2
    split at h1
    · rename_i hk
      rw [if_pos hk] at h2
      rw [← Heap.size_push h { cls := .type "cell", data := .cell none }] at h1 h2
      refine cells_inj (h := h.push _) (fun p hp => ?_) (fun x y c a b => ?_) h1 h2
      · rw [Heap.size_push]
        rcases List.mem_cons.mp hp with rfl | hp
        · exact Nat.lt_succ_self _
        · exact Nat.lt_succ_of_lt (hl p hp)
      · rcases List.mem_cons.mp a with e | a <;> rcases List.mem_cons.mp b with e' | b
        · cases e; cases e'; rfl
        · cases e; exact absurd (hl _ b) (Nat.lt_irrefl _)
        · cases e'; exact absurd (hl _ a) (Nat.lt_irrefl _)
        · exact hi _ _ _ a b
    · rename_i hk
      rw [if_neg hk] at h2
      exact cells_inj hl hi h1 h2
theorem newEnv_comp {M : Model} {A : Around} {E : Value → Shared → Prop} {s : Shared} {scope : Scope} {globals : Addr} {closure : List (Str × Addr)} {qual : Str} {func : Option Addr} {code : Value} {around : Env} {builtins : Addr} {Q : Env → Shared → Prop}
    (h : Q (newEnv scope s.heap.objs.size globals (cellsFrom (s.heap.objs.size + 1) scope.names closure) qual func code (some around) builtins)
      { s with heap := pushCells (s.heap.push { cls := .type "dict", data := .dict #[] }) scope.names }) :
    wpAny M A (newFunctionEnv scope globals closure [] qual func code (some around) builtins) Q E s := by
  simp only [newFunctionEnv, Option.isSome_some, if_true]
  refine wpAny_bind (wpAny_alloc ?_)
  refine wpAny_bind (wpAny_layCells _ (fun n k c => rfl) scope.names closure _ _ ?_)
  rw [show ({ s with heap := s.heap.push { cls := .type "dict", data := .dict #[] } } : Shared).heap.objs.size = s.heap.objs.size + 1 from Heap.size_push ..]
  rw [List.forIn_nil]
  exact wpAny_bind (wpAny_pure (wpAny_pure h))
theorem lookup_relS {sc : Scope} : ∀ {names : List (Str × NameKind)} {x : Str} {k : NameKind},
    (names.map fun (n, k) => if (k == NameKind.free && sc.kind == .function && sc.names.lookup n == some .cell) then (n, NameKind.cell) else (n, k)).lookup x = some k →
    ∃ k', names.lookup x = some k' ∧ (k = k' ∨ (k' = .free ∧ k = .cell))
  | [], _, _, h => by simp at h
  | (n, k₀) :: r, x, k, h => by
    have ih := @lookup_relS sc r x k
    have h' : List.lookup x ((if (k₀ == NameKind.free && sc.kind == .function && sc.names.lookup n == some .cell) = true then (n, NameKind.cell) else (n, k₀)) :: (r.map _)) = some k := h
    cases hx : x == n with
    | true =>
      simp only [List.lookup_cons, hx]
      by_cases hc : (k₀ == NameKind.free && sc.kind == .function && sc.names.lookup n == some .cell) = true
      · rw [if_pos hc] at h'
        simp only [List.lookup_cons, hx] at h'
        cases h'
        simp only [Bool.and_eq_true, beq_iff_eq] at hc
        exact ⟨k₀, rfl, .inr ⟨hc.1.1, rfl⟩⟩
      · rw [if_neg hc] at h'
        simp only [List.lookup_cons, hx] at h'
        cases h'
        exact ⟨_, rfl, .inl rfl⟩
    | false =>
      simp only [List.lookup_cons, hx]
      by_cases hc : (k₀ == NameKind.free && sc.kind == .function && sc.names.lookup n == some .cell) = true
      · rw [if_pos hc] at h'
        simp only [List.lookup_cons, hx] at h'
        exact ih h'
      · rw [if_neg hc] at h'
        simp only [List.lookup_cons, hx] at h'
        exact ih h'
structure BlkOk (N : List Str) (sc scope : Scope) (own : List (Str × Nat)) : Prop where
  kind : scope.kind = .function
  uniq : ∀ y ∈ scope.names, scope.names.lookup y.1 = some y.2
  ix : ∀ p ∈ own, N[p.2]? = some p.1
  free : ∀ y ∈ scope.names, y.2 = .free → sc.names.lookup y.1 = some .cell ∨ sc.names.lookup y.1 = some .free
  own : ∀ y ∈ scope.names, y.2 = .local ∨ y.2 = .cell → y.1 ∈ own.map (·.1) ∨ y.1 ∉ N
def wipe (σ : St) : List Nat → St
  | [] => σ
  | v :: vs => (wipe σ vs).set v none
theorem wipe_length (σ : St) : ∀ vs : List Nat, (wipe σ vs).length = σ.length
  | [] => rfl
  | v :: vs => by unfold wipe; rw [List.length_set, wipe_length σ vs]
theorem wipe_some {σ : St} {i : Nat} {x : V} : ∀ {vs : List Nat}, (wipe σ vs)[i]? = some (some x) → σ[i]? = some (some x) ∧ i ∉ vs
  | [], h => ⟨h, by simp⟩
  | v :: vs, h => by
    unfold wipe at h
    by_cases hi : v = i
    · subst hi
      by_cases hv : v < (wipe σ vs).length
      · rw [List.getElem?_set_self hv] at h; cases h
      · rw [List.getElem?_eq_none (by simpa using hv)] at h; cases h
    · rw [List.getElem?_set_ne hi] at h
      obtain ⟨h1, h2⟩ := wipe_some h
      exact ⟨h1, by simp only [List.mem_cons, not_or]; exact ⟨fun e => hi e.symm, h2⟩⟩
abbrev Cx.blk (X : Cx) (s : Shared) (H : Hp) (scope : Scope) (cenv : Env) (fp : List Addr) : Cx := { X with s_0 := s, H_0 := H, env := cenv, outer := X.stack, ex := fp, fn := fun x => scope.names.lookup x == some .cell, pn := [], xe := fun _ _ => False }
section
variable {X : Cx} {pins : List (Addr × Obj)} {σ : St} {H : Hp} {s : Shared}
theorem block_start {scope : Scope} {own : List (Str × Nat)} {fp : List Addr} (I : Inv X pins σ H s) (ok : BlkOk X.N X.env.scope scope own) (hN : X.N.Nodup) (hfp : ∀ b ∈ fp, FpOk X pins H b ∧ b < s.heap.objs.size) :
    Inv (X.blk s H scope (compEnvC scope (cellsFrom (s.heap.objs.size + 1) scope.names (cloFrom X.env.cells scope.names [])) s.heap.objs.size X.env) fp) [] (wipe σ (own.map (·.2))) H { s with heap := pushCells (s.heap.push { cls := .type "dict", data := .dict #[] }) scope.names } := by
  have hfree : ∀ y ∈ scope.names, y.2 = .free → ∃ c, X.env.cells.lookup y.1 = some c := fun y hy e => by
    rcases ok.free y hy e with k | k
    · exact I.ok.has _ (.inl k)
    · exact I.ok.has _ (.inr k)
  generalize hcenv : compEnvC scope (cellsFrom (s.heap.objs.size + 1) scope.names (cloFrom X.env.cells scope.names [])) s.heap.objs.size X.env = cenv
  have kp : ∀ b o, s.heap.get? b = some o → (pushCells (s.heap.push { cls := .type "dict", data := .dict #[] }) scope.names).get? b = some o := fun b o e => pushCells_keeps _ _ _ _ (Heap.get?_push_of_some _ e)
  have hL : cenv.locals = s.heap.objs.size := by rw [← hcenv]; rfl
  have hcl : cenv.cells = cellsFrom (s.heap.objs.size + 1) scope.names (cloFrom X.env.cells scope.names []) := by rw [← hcenv]; rfl
  have hsc : cenv.scope = relS scope X.env.scope := by rw [← hcenv]; rfl
  rw [← Heap.size_push s.heap { cls := .type "dict", data := .dict #[] }] at hcl
  have cm : ∀ {y c}, (y, c) ∈ cloFrom X.env.cells scope.names [] → X.env.cells.lookup y = some c ∧ c < s.heap.objs.size := fun {y c} hm => by
    rcases cloFrom_mem hm with hm | ⟨h1, rfl⟩
    · cases hm
    · obtain ⟨c, hc⟩ := hfree _ h1 rfl
      rw [hc]
      obtain ⟨w, z⟩ := I.cell _ _ hc
      exact ⟨rfl, z.lt⟩
  have mem : ∀ {y c}, cenv.cells.lookup y = some c → (X.env.cells.lookup y = some c ∧ c < s.heap.objs.size) ∨ (s.heap.objs.size + 1 ≤ c ∧ CellAt (pushCells (s.heap.push { cls := .type "dict", data := .dict #[] }) scope.names) c none) := fun {y c} e => by
    rw [hcl] at e
    rcases cells_mem (PySem.mem_of_lookup e) with hm | ⟨_, h2, h3⟩
    · exact .inl (cm hm)
    · rw [Heap.size_push] at h2; exact .inr ⟨h2, h3⟩
  have look : ∀ {y}, scope.names.lookup y = some .free → ∃ c, cenv.cells.lookup y = some c ∧ X.env.cells.lookup y = some c := fun {y} hl => by
    have hy : (y, NameKind.free) ∈ scope.names := PySem.mem_of_lookup hl
    obtain ⟨c', e'⟩ := mem_lookup (cells_acc (names := scope.names) (n := (s.heap.push { cls := .type "dict", data := .dict #[] }).objs.size) (cloFrom_has (cells := X.env.cells) (acc := []) hy))
    rw [← hcl] at e'
    refine ⟨c', e', ?_⟩
    rw [hcl] at e'
    rcases cells_mem (PySem.mem_of_lookup e') with hm | ⟨h1, _, _⟩
    · exact (cm hm).1
    · have := ok.uniq _ h1
      rw [hl] at this; cases this
  have okB : (X.blk s H scope cenv fp).Ok := by
    refine ⟨I.ok.mod, by show cenv.scope.kind = _; rw [hsc]; exact ok.kind, by show cenv.globals = _; rw [← hcenv]; exact I.ok.glob, by show cenv.builtins = _; rw [← hcenv]; exact I.ok.blt, by show s.heap.objs.size ≤ cenv.locals; rw [hL]; exact Nat.le_refl _,
      fun y z c e1 e2 => ?_, fun y hy => ?_, fun y c z e => ?_, I.ok.hd, I.ok.frames, .inl rfl, fun b hb => ⟨?_, fun y c e z => ?_⟩, I.bs, Nat.le_trans I.ok.bsz I.sz, fun b o e hb => ?_, fun b hb z => ?_, I.stack, I.stkFree⟩
    · have e1 : cenv.cells.lookup y = some c := e1
      have e2 : cenv.cells.lookup z = some c := e2
      rw [hcl] at e1 e2
      refine cells_inj (fun p hp => ?_) (fun y z c a b => I.ok.inj y z c (cm a).1 (cm b).1) (PySem.mem_of_lookup e1) (PySem.mem_of_lookup e2)
      rw [Heap.size_push]
      exact Nat.lt_succ_of_lt (cm (y := p.1) (c := p.2) hp).2
    · show ∃ c, cenv.cells.lookup y = some c
      have key : ∀ k, cenv.kindOf y = some k → (k = .cell ∨ k = .free) → ∃ c, cenv.cells.lookup y = some c := fun k hk hk' => by
        unfold Env.kindOf at hk
        rw [hsc] at hk
        obtain ⟨k', e, r⟩ := lookup_relS hk
        have : k' = .cell ∨ k' = .free := by
          rcases r with rfl | ⟨rfl, _⟩
          · exact hk'
          · exact .inr rfl
        rcases this with rfl | rfl
        · obtain ⟨c, hm⟩ := cells_has (n := (s.heap.push { cls := .type "dict", data := .dict #[] }).objs.size) (acc := cloFrom X.env.cells scope.names []) (PySem.mem_of_lookup e)
          obtain ⟨c', e'⟩ := mem_lookup hm
          exact ⟨c', by rw [hcl]; exact e'⟩
        · obtain ⟨c, h1, _⟩ := look e
          exact ⟨c, h1⟩
      rcases hy with hy | hy
      · exact key _ hy (.inl rfl)
      · exact key _ hy (.inr rfl)
    · have z : (scope.names.lookup y == some NameKind.cell) = true := z
      have z : scope.names.lookup y = some .cell := by simpa using z
      have e : cenv.cells.lookup y = some c := e
      rw [hcl] at e
      rcases cells_mem (PySem.mem_of_lookup e) with hm | ⟨_, h2, _⟩
      · rcases cloFrom_mem hm with hm | ⟨h1, _⟩
        · cases hm
        · have q := ok.uniq _ h1
          rw [z] at q; cases q
      · rw [Heap.size_push] at h2
        exact Nat.le_of_succ_le h2
    · show b ≠ cenv.locals
      rw [hL]; exact Nat.ne_of_lt (hfp b hb).2
    · have e : cenv.cells.lookup y = some c := e
      rcases mem e with ⟨h1, _⟩ | ⟨h1, _⟩
      · exact (hfp b hb).1.2.2.2.2.1 y c h1 z
      · have h2 : s.heap.objs.size + 1 ≤ b := by rw [← z]; exact h1
        exact absurd (Nat.lt_of_lt_of_le (hfp b hb).2 (Nat.le_of_succ_le h2)) (Nat.lt_irrefl _)
    · rcases (hfp b hb).1.2.2.2.1 with z | z
      · exact I.ok.noex b o e z
      · exact absurd (Nat.lt_of_lt_of_le (Heap.lt_size e) (Nat.le_trans I.ok.bsz z)) (Nat.lt_irrefl _)
    · rcases List.mem_cons.mp (I.stkSub b z) with z | z
      · exact (hfp b hb).1.2.1 z
      · exact (hfp b hb).1.2.2.1 z
  refine ⟨okB, rfl, I.bare, Un.kept kp, ⟨fun _ => none, ?_, fun i y av e1 e2 e3 => ?_⟩, fun y c e => ?_, ?_, fun y c e => ?_, fun p hp => ?_, I.hok.kept kp, by rw [wipe_length]; exact I.len⟩
  · show Heap.Ns _ cenv.locals _
    rw [hL]
    exact Heap.Ns.keeps (Heap.Ns.new ..) fun b o e => pushCells_keeps _ _ _ _ e
  · obtain ⟨e2, hne⟩ := wipe_some e2
    have hfr : scope.names.lookup y = some .free ∧ (cenv.kindOf y = some .cell ∨ cenv.kindOf y = some .free) := by
      have key : ∀ k, cenv.scope.names.lookup y = some k → k = .local ∨ k = .cell ∨ k = .free → scope.names.lookup y = some .free ∧ (cenv.kindOf y = some .cell ∨ cenv.kindOf y = some .free) := fun k hk hk' => by
        have hk0 := hk
        rw [hsc] at hk
        obtain ⟨k', e, r⟩ := lookup_relS hk
        have no : ¬ (k' = .local ∨ k' = .cell) := fun hh => by
          rcases ok.own _ (PySem.mem_of_lookup e) hh with e' | e'
          · obtain ⟨p, hp, hpy⟩ := List.mem_map.mp e'
            have e3 := ok.ix p hp
            have : p.1 = y := hpy
            rw [this] at e3
            exact hne (List.mem_map.mpr ⟨p, hp, nodup_ix hN e3 e1⟩)
          · exact e' (List.mem_of_getElem? e1)
        rcases r with rfl | ⟨rfl, rfl⟩
        · rcases hk' with rfl | rfl | rfl
          · exact absurd (.inl rfl) no
          · exact absurd (.inr rfl) no
          · exact ⟨e, .inr hk0⟩
        · exact ⟨e, .inl hk0⟩
      have e3 : Vis cenv.scope y := e3
      rcases e3 with e3 | e3 | e3
      · exact key _ e3 (.inl rfl)
      · exact key _ e3 (.inr (.inl rfl))
      · exact key _ e3 (.inr (.inr rfl))
    obtain ⟨m, hn, hl⟩ := I.loc
    have hvis : Vis X.env.scope y := (ok.free _ (PySem.mem_of_lookup hfr.1) rfl).elim (fun k => .inr (.inl k)) (fun k => .inr (.inr k))
    obtain ⟨w, r, q⟩ := hl i y av e1 e2 hvis
    refine ⟨w, r, .inr ⟨hfr.2, ?_⟩⟩
    obtain ⟨c, h1, h2⟩ := look hfr.1
    rcases q with ⟨k, _⟩ | ⟨_, c', e', z⟩
    · have k : X.env.scope.names.lookup y = some .local := k
      rcases ok.free _ (PySem.mem_of_lookup hfr.1) rfl with k' | k' <;> rw [show X.env.scope.names.lookup y = _ from k'] at k <;> cases k
    · rw [h2] at e'; cases e'
      exact ⟨c, h1, z.keeps kp⟩
  · have e : cenv.cells.lookup y = some c := e
    rcases mem e with ⟨h1, _⟩ | ⟨_, z⟩
    · obtain ⟨w, z⟩ := I.cell y c h1
      exact ⟨w, z.keeps kp⟩
    · exact ⟨_, z⟩
  · show H cenv.locals = none
    rw [hL]; exact I.hok.fresh (Nat.le_refl _)
  · have e : cenv.cells.lookup y = some c := e
    rcases mem e with ⟨h1, _⟩ | ⟨h1, _⟩
    · exact I.freeC y c h1
    · exact I.hok.fresh (Nat.le_of_succ_le h1)
  · exact absurd (show p ∈ ([] : List (Addr × Obj)) ++ [] from hp) (by simp)
theorem app_ok {E : Value → Shared → Prop} {D : Addr} {xs : List V} {y : V} {v : Value} {Q : Value → Shared → Prop} (I : Inv X pins σ H s) (hD : H D = some (.lst xs)) (hz : xs.length < sizeLine) (r : RelV y v)
    (h : ∀ s', Inv X pins σ (upd H D (.lst (xs ++ [y]))) s' → Q .none s') : wpAny (model X.prog X.w) X.A (call (.builtin "list.append") [.ref D, v]) Q E s := by
  obtain ⟨hz', its, n, ri, e⟩ := I.hok D _ hD
  have hl := ri.length
  refine append_at (hsz := by rw [List.size_toArray]; omega) e fun h' sb ho' => ?_
  refine h { s with heap := h' } (I.write (t' := s.toks) (by rw [hD]; trivial) (.inl rfl) (fun b u hb q => (sb.2 b hb).trans q) ⟨_, ho'⟩ ⟨by rw [List.length_append]; exact hz, its ++ [v], n + 1, ri.append (.cons r .nil), ?_⟩)
  rw [ho']
  simp
def PTs (X : Cx) (ifs : List Expr) (t : TT) : Prop :=
  ∀ (pins : List (Addr × Obj)) (s : Shared) (σ : St) (H : Hp) (Q : Bool → Hp → Prop), Inv X pins σ H s → t σ H Q →
    wpAny (model X.prog X.w) X.A (forIn ifs true fun c r => if r = true then do let ok ← isTrue c X.env (eval c X.env); pure (ForInStep.yield ok) else pure (ForInStep.yield r)) (TP X pins σ Q) X.xe s
def tYes : TT := fun _ H Q => Q true H
theorem pts_nil : PTs X [] tYes := fun _ _ _ H _ I h => wpAny_tests_nil ⟨H, I, h⟩
theorem pts_one {c : Expr} {t : TT} (h : PT X c t) : PTs X [c] t := fun pins s σ H Q I hw => wpAny_tests_one (h pins s σ H Q I hw)
end
theorem thnF {α : Type} {t : Sem α} {Q Q' : α → Shared → Prop} {M : Model} {A : Around} {E : Value → Shared → Prop} {s : Shared} (h : wpAny M A t Q (fun _ _ => False) s) (hQ : ∀ a s, Q a s → Q' a s) : wpAny M A t Q' E s := wpAny_mono h hQ fun _ _ z => False.elim z
theorem compLoop_any {prog : Program} {w : World} {A : Around} {R : Result → Shared → Prop} {s : Shared} {elt target iter : Expr} {ifs : List Expr} {scope : Scope} {pos : Pos} {it acc : Value} {env : Env} (I : Nat → Shared → Prop)
    (turn : ∀ n s, I n s → wpAny (model prog w) A (pyNext it) (fun r s₁ => match r with
      | none => R (.ok .next) s₁
      | some v => wpAny (model prog w) A (letOwnedTupleGo target it v) (fun _ s₁' => wpAny (model prog w) A (assign target env v) (fun _ s₂ =>
          wpAny (model prog w) A (forIn ifs true fun c r => if r = true then do let ok ← isTrue c env (eval c env); pure (ForInStep.yield ok) else pure (ForInStep.yield r)) (fun ok s₃ =>
            if ok = true then wpAny (model prog w) A (eval elt env) (fun x s₄ =>
              wpAny (model prog w) A (call (.builtin "list.append") [acc, x]) (fun _ s₅ => ∃ m, m < n ∧ I m s₅) (notedBy (model prog w) A env fun e s' => R (.error e) s') s₄) (notedBy (model prog w) A env fun e s' => R (.error e) s') s₃
            else ∃ m, m < n ∧ I m s₃) (notedBy (model prog w) A env fun e s' => R (.error e) s') s₂) (notedBy (model prog w) A env fun e s' => R (.error e) s') s₁') (notedBy (model prog w) A env fun e s' => R (.error e) s') s₁) (notedBy (model prog w) A env fun e s' => R (.error e) s') s)
    (n : Nat) (h : I n s) :
    codeAny (model prog w) A (.compLoop (.ListComp elt [⟨target, iter, ifs, 0⟩] scope pos) 0 it acc env) R s := by
  refine codeAny_loop rfl I (fun n s hI => ?_) n h
  show wpAny _ A ((compTurn (.ListComp elt [⟨target, iter, ifs, 0⟩] scope pos) 0 it acc env).onRaise (fun x => do noteFrame x env; theTreesLotGoes x)) _ _ s
  refine wpAny_noted ?_
  rw [compTurn_list]
  refine wpAny_bind (wpAny_standAt (wpAny_bind (wpAny_mono (turn n s hI) (fun r s₁ h₁ => ?_) fun _ _ h' => h')))
  cases r with
  | none => exact wpAny_pure h₁
  | some v =>
    refine wpAny_bind (wpAny_mono h₁ (fun _ s₁' h₁' => ?_) fun _ _ h' => h')
    refine wpAny_bind (wpAny_mono h₁' (fun _ s₂ h₂ => wpAny_bind (wpAny_mono h₂ (fun ok s₃ h₃ => ?_) fun _ _ h' => h')) fun _ _ h' => h')
    cases ok with
    | false => exact wpAny_pure ⟨rfl, h₃⟩
    | true =>
      exact wpAny_bind (wpAny_bind (wpAny_mono h₃ (fun x s₄ h₄ => wpAny_bind (wpAny_mono h₄ (fun _ s₅ h₅ => wpAny_pure (wpAny_pure ⟨rfl, h₅⟩)) fun _ _ h' => h')) fun _ _ h' => h'))
section
variable {X : Cx}
def tLc (wi : TI) (g : TG) (tt : TT) (te : TE) (vs : List Nat) : TE := fun σ H Q => wi σ H fun J H1 => ∀ D, H1 D = none → ∃ W : Nat → Nat → Hp → Prop, (∃ m, W 0 m (upd H1 D (.lst []))) ∧ ∀ i m H, W i m H →
  (J.stop i H ∧ Q (.ref D) H) ∨ (J.go i H ∧ ∃ Nx : Hp → Prop, (∀ H', Nx H' → ∃ m', m' < m ∧ W (i + 1) m' H') ∧ ∀ x H', J.yld i H x H' → g x (wipe σ vs) H' fun σ2 H2 => wipe σ2 vs = wipe σ vs ∧ tt σ2 H2 fun b H3 =>
    if b = true then te σ2 H3 fun y H4 => ∃ acc, H4 D = some (.lst acc) ∧ acc.length < sizeLine ∧ Nx (upd H4 D (.lst (acc ++ [y]))) else Nx H3)
theorem lc_core {pins : List (Addr × Obj)} {s : Shared} {σ : St} {H : Hp} {Q : VK} {elt tg iter : Expr} {ifs : List Expr} {scope : Scope} {own : List (Str × Nat)} {pos pos' : Pos} {wi : TI} {g : TG} {tt : TT} {te : TE} {use : Option (Value → Sem Unit)} {Qf : Value → Shared → Prop}
    (hc : X.calm = true) (hN : X.N.Nodup) (I : Inv X pins σ H s) (hi : PI X tg iter wi) (ok : BlkOk X.N X.env.scope scope own)
    (hg : ∀ (s : Shared) (H : Hp) (C : Addr) (cl : List (Str × Addr)) (fp : List Addr), PG (X.blk s H scope (compEnvC scope cl C X.env) fp) tg g) (ht : ∀ (s : Shared) (H : Hp) (C : Addr) (cl : List (Str × Addr)) (fp : List Addr), PTs (X.blk s H scope (compEnvC scope cl C X.env) fp) ifs tt)
    (he : ∀ (s : Shared) (H : Hp) (C : Addr) (cl : List (Str × Addr)) (fp : List Addr), PE (X.blk s H scope (compEnvC scope cl C X.env) fp) elt te) (hs : ∀ x, foldedSetIterable iter X.env x = pure x)
    (h : tLc wi g tt te (own.map (·.2)) σ H Q)
    (hRR : ∀ D C s' m H', Inv X pins σ H' s' → Q (.ref D) H' → s'.heap.Ns C m → FpOk X pins H' C → compPost (model X.prog X.w) X.A X.xe use Qf (.ref D) C (.ok .next) s') :
    wpAny (model X.prog X.w) X.A (comprehension (.ListComp elt [⟨tg, iter, ifs, 0⟩] scope pos) scope X.env pos' (newList []) false (eval iter X.env) use) Qf X.xe s := by
  have hfree : ∀ y ∈ scope.names, y.2 = .free → ∃ c, X.env.cells.lookup y.1 = some c := fun y hy e => by
    rcases ok.free y hy e with k | k
    · exact I.ok.has _ (.inl k)
    · exact I.ok.has _ (.inr k)
  refine wpAny_comprehension_free (use := use) rfl hs (closure_ok hfree) ok.kind (fun y hy e => by rw [ok.uniq y hy, e])
    (thn (hi pins s σ H _ I h) fun xv s1 hx => thn hx fun itv s2 h2 => ?_)
  obtain ⟨it, fp, tn, J, H2, e, I2, T, st2, f2, q⟩ := h2
  subst e
  refine wpAny_newObj_type (newEnv_comp ?_) (by show 0 ≤ sizeLine; decide)
  generalize hD : s2.heap.objs.size = D
  have hDn : H2 D = none := I2.hok.fresh (Nat.le_of_eq hD)
  obtain ⟨W, ⟨m0, w0⟩, turn⟩ := q D hDn
  generalize hs3 : ({ s2 with heap := s2.heap.push { cls := .type "list", data := .seq ([] : List Value).toArray } } : Shared) = s3
  have I3 : Inv X pins σ (upd H2 D (.lst [])) s3 := by
    rw [← hs3]
    refine I2.laid (t' := s2.toks) (fun b o e => Heap.get?_push_of_some _ e) (Nat.le_of_eq hD) ⟨Nat.zero_le _, [], 0, .nil, ?_⟩
    rw [← hD]
    exact Heap.get?_push_size _ rfl
  have h3 : s3.heap = s2.heap.push { cls := .type "list", data := .seq ([] : List Value).toArray } := by rw [← hs3]
  have sz : ∀ b ∈ fp, b < s2.heap.objs.size := fun b hb => by
    obtain ⟨o, e, _⟩ := T.obj _ _ st2 b hb
    exact Heap.lt_size e
  have f3 : ∀ b ∈ fp, FpOk X pins (upd H2 D (.lst [])) b ∧ b < s3.heap.objs.size := fun b hb => by
    have hlt := sz b hb
    refine ⟨⟨?_, (f2 b hb).2⟩, by rw [h3, Heap.size_push]; exact Nat.lt_succ_of_lt hlt⟩
    rw [upd_ne (by rw [← hD]; exact Nat.ne_of_lt hlt)]
    exact (f2 b hb).1
  have st3 : tn 0 s3.heap := T.keep _ _ _ st2 fun b _ o e => by rw [h3]; exact Heap.get?_push_of_some _ e
  have I4 := block_start I3 ok hN f3
  have pg := hg s3 (upd H2 D (.lst [])) s3.heap.objs.size (cellsFrom (s3.heap.objs.size + 1) scope.names (cloFrom X.env.cells scope.names [])) fp
  have pt := ht s3 (upd H2 D (.lst [])) s3.heap.objs.size (cellsFrom (s3.heap.objs.size + 1) scope.names (cloFrom X.env.cells scope.names [])) fp
  have pe := he s3 (upd H2 D (.lst [])) s3.heap.objs.size (cellsFrom (s3.heap.objs.size + 1) scope.names (cloFrom X.env.cells scope.names [])) fp
  show codeAny _ _ (.compStart (.ListComp elt [⟨tg, iter, ifs, 0⟩] scope pos) 0 (.ref it) (.ref D) (compEnvC scope (cellsFrom (s3.heap.objs.size + 1) scope.names (cloFrom X.env.cells scope.names [])) s3.heap.objs.size X.env)) (compPost (model X.prog X.w) X.A X.xe use Qf (.ref D) s3.heap.objs.size) { s3 with heap := pushCells (s3.heap.push { cls := .type "dict", data := .dict #[] }) scope.names }
  have nfp : ∀ b ∈ fp, (upd H2 D (.lst [])) b = none := fun b hb => (f3 b hb).1.1
  generalize hce : compEnvC scope (cellsFrom (s3.heap.objs.size + 1) scope.names (cloFrom X.env.cells scope.names [])) s3.heap.objs.size X.env = ce at I4 pg pt pe ⊢
  have cL : ce.locals = s3.heap.objs.size := by subst hce; rfl
  generalize hH3 : upd H2 D (.lst []) = H3 at I3 I4 pg pt pe w0 nfp f3
  generalize hs4 : ({ s3 with heap := pushCells (s3.heap.push { cls := .type "dict", data := .dict #[] }) scope.names } : Shared) = s4 at I4 ⊢
  have st4 : tn 0 s4.heap := T.keep _ _ _ st3 fun b _ o e => by rw [← hs4]; exact pushCells_keeps _ _ _ _ (Heap.get?_push_of_some _ e)
  have stat : ∀ {σ' : St} {H' : Hp} {s' : Shared}, Inv (X.blk s3 H3 scope ce fp) [] σ' H' s' → (∀ b ∈ fp, H' b = none) → ∀ b ∈ fp, FpOk (X.blk s3 H3 scope ce fp) [] H' b := fun {σ' H' s'} I' hn b hb =>
    ⟨hn b hb, (I'.ok.exf b hb).1, I'.ok.exfs b hb, .inl hb, fun x c e => (I'.ok.exf b hb).2 x c e, fun p hp => absurd (show p ∈ ([] : List (Addr × Obj)) ++ [] from hp) (by simp)⟩
  have loop : codeAny (model X.prog X.w) X.A (.compLoop (.ListComp elt [⟨tg, iter, ifs, 0⟩] scope pos) 0 (.ref it) (.ref D) ce) (compPost (model X.prog X.w) X.A X.xe use Qf (.ref D) s3.heap.objs.size) s4 := by
    refine compLoop_any (fun n s' => ∃ i H', Inv (X.blk s3 H3 scope ce fp) [] (wipe σ (own.map (·.2))) H' s' ∧ tn i s'.heap ∧ (∀ b ∈ fp, H' b = none) ∧ W i n H') ?_ m0 ⟨0, H3, I4, st4, nfp, w0⟩
    rintro n s5 ⟨i, H5, I5, st5, n5, w5⟩
    rcases turn i n H5 w5 with ⟨stop, qq⟩ | ⟨go, Nx, hNx, step⟩
    · have td := T.done (X.blk s3 H3 scope ce fp) rfl rfl rfl hc i [] s5 _ H5 (fun _ _ => False) I5 (stat I5 n5) st5 stop
      refine thnF td fun r s6 ⟨hr, I6⟩ => ?_
      subst hr
      have I7 : Inv X pins σ H5 s6 := I3.call' (ch := fp) I6.os I6.base I6.hok I6.bare fun b hb => ⟨(f3 b hb).1.2.2.2.1, (f3 b hb).1.2.1, (f3 b hb).1.2.2.2.2.1, (f3 b hb).1.2.2.2.2.2⟩
      have nC : H5 s3.heap.objs.size = none := by
        have z : H5 ce.locals = none := I6.free
        rw [cL] at z
        exact z
      obtain ⟨m, hn, _⟩ := I6.loc
      have hn : s6.heap.Ns ce.locals m := hn
      rw [cL] at hn
      exact hRR D s3.heap.objs.size s6 m H5 I7 qq hn (I3.fpOk (Nat.le_refl _) nC)
    · have ti := T.item (X.blk s3 H3 scope ce fp) rfl rfl rfl hc i [] s5 _ H5 (fun _ _ => False) I5 (stat I5 n5) st5 go
      refine thnF ti fun r s6 ⟨u, hr, h6⟩ => ?_
      subst hr
      refine thnF h6 fun _ s7 ⟨x, H7, I7, r7, y7, st7, n7⟩ => ?_
      have I7' := I7.pinned (stat I7 n7) (T.obj _ _ st7)
      refine thnF (pg _ s7 _ H7 x u _ I7' r7 (step x H7 y7)) fun _ s8 ⟨σ8, H8, I8, hw8, q8⟩ => ?_
      refine thnF (pt _ s8 σ8 H8 _ I8 q8) fun b s9 ⟨H9, I9, q9⟩ => ?_
      have fin : ∀ {s' : Shared} {H' : Hp}, Inv (X.blk s3 H3 scope ce fp) ([] ++ pinsAt fp s7.heap) σ8 H' s' → Nx H' → ∃ m, m < n ∧ ∃ i H', Inv (X.blk s3 H3 scope ce fp) [] (wipe σ (own.map (·.2))) H' s' ∧ tn i s'.heap ∧ (∀ b ∈ fp, H' b = none) ∧ W i m H' := fun {s' H'} I' nx => by
        obtain ⟨m', hm, w'⟩ := hNx H' nx
        have pin' : ∀ b ∈ fp, ∀ o, s7.heap.get? b = some o → s'.heap.get? b = some o ∧ H' b = none := fun b hb o e =>
          let z := I'.pin (b, o) (List.mem_append_right _ (List.mem_append_right _ (mem_pinsAt hb e)))
          ⟨z.1, z.2.1⟩
        have hl : (wipe σ (own.map (·.2))).length = σ8.length := by rw [← hw8, wipe_length]
        refine ⟨m', hm, i + 1, H', (I'.unpinned (pins := [])).weak hl (fun j v e => ?_), T.keep _ _ _ st7 fun b hb o e => (pin' b hb o e).1, fun b hb => ?_, w'⟩
        · rw [← hw8] at e
          exact (wipe_some e).1
        · obtain ⟨o, e, _⟩ := T.obj _ _ st7 b hb
          exact (pin' b hb o e).2
      cases b with
      | false =>
        simp only [Bool.false_eq_true, if_false] at q9 ⊢
        exact fin I9 q9
      | true =>
        simp only [if_true] at q9 ⊢
        refine thnF (pe _ s9 σ8 H9 _ I9 q9) fun z s10 ⟨yv, H10, I10, r10, acc, hD10, hz10, nx⟩ => ?_
        exact app_ok (X := X.blk s3 H3 scope ce fp) I10 hD10 hz10 r10 fun s11 I11 => fin I11 nx
  exact codeAny_compStart_list loop (T.self X.A 0 _ _ _ st4 loop)
theorem pe_lc {elt tg iter : Expr} {ifs : List Expr} {scope : Scope} {own : List (Str × Nat)} {pos : Pos} {wi : TI} {g : TG} {tt : TT} {te : TE} (hc : X.calm = true) (hN : X.N.Nodup) (hi : PI X tg iter wi) (ok : BlkOk X.N X.env.scope scope own)
    (hg : ∀ (s : Shared) (H : Hp) (C : Addr) (cl : List (Str × Addr)) (fp : List Addr), PG (X.blk s H scope (compEnvC scope cl C X.env) fp) tg g) (ht : ∀ (s : Shared) (H : Hp) (C : Addr) (cl : List (Str × Addr)) (fp : List Addr), PTs (X.blk s H scope (compEnvC scope cl C X.env) fp) ifs tt)
    (he : ∀ (s : Shared) (H : Hp) (C : Addr) (cl : List (Str × Addr)) (fp : List Addr), PE (X.blk s H scope (compEnvC scope cl C X.env) fp) elt te) (hs : ∀ x, foldedSetIterable iter X.env x = pure x := by intro _; rfl) :
    PE X (.ListComp elt [⟨tg, iter, ifs, 0⟩] scope pos) (tLc wi g tt te (own.map (·.2))) := by
  intro pins s σ H Q I h
  rw [eval_ListComp]
  refine lc_core hc hN I hi ok hg ht he hs h fun D C s' m H' I' q hn f => ⟨m, hn, fun h'' sb => ?_⟩
  obtain ⟨f0, f1, f2, f3, f4, f5⟩ := f
  exact ⟨.ref D, H', I'.turned (t' := s'.toks) (fun b o hb e => (sb.2 b hb).trans e) f0 f1 f3 f4 f5, rfl, q⟩
theorem ps_setLc {i : Nat} {y : Str} {py : Pos} {elt tg iter : Expr} {ifs : List Expr} {scope : Scope} {own : List (Str × Nat)} {pos spos : Pos} {wi : TI} {g : TG} {tt : TT} {te : TE} (hc : X.calm = true) (hN : X.N.Nodup) (hy : X.N[i]? = some y) (hyl : X.env.scope.names.lookup y = some .local)
    (hsw : swapsWith (.ListComp elt [⟨tg, iter, ifs, 0⟩] scope pos) (some (.Name y py)) spos.line X.env = pure true) (hi : PI X tg iter wi) (ok : BlkOk X.N X.env.scope scope own)
    (hg : ∀ (s : Shared) (H : Hp) (C : Addr) (cl : List (Str × Addr)) (fp : List Addr), PG (X.blk s H scope (compEnvC scope cl C X.env) fp) tg g) (ht : ∀ (s : Shared) (H : Hp) (C : Addr) (cl : List (Str × Addr)) (fp : List Addr), PTs (X.blk s H scope (compEnvC scope cl C X.env) fp) ifs tt)
    (he : ∀ (s : Shared) (H : Hp) (C : Addr) (cl : List (Str × Addr)) (fp : List Addr), PE (X.blk s H scope (compEnvC scope cl C X.env) fp) elt te) (hs : ∀ x, foldedSetIterable iter X.env x = pure x := by intro _; rfl) :
    PS X (.Assign [.Name y py] (.ListComp elt [⟨tg, iter, ifs, 0⟩] scope pos) spos) (tAsg (tLc wi g tt te (own.map (·.2))) (gName i)) := by
  intro pins s σ H D I h
  rw [exec_Assign_Name_used _ _ _ _ hsw]
  refine wpAny_bind (wpAny_standAt (wpAny_bind ?_))
  show wpAny _ X.A (do let _ ← comprehension (.ListComp elt [⟨tg, iter, ifs, 0⟩] scope pos) scope X.env (firstIterPos [⟨tg, iter, ifs, 0⟩] pos) (newList []) false (eval iter X.env) (some (assign (.Name y py) X.env))) _ _ s
  have h : tLc wi g tt te (own.map (·.2)) σ H (fun x H1 => gName i x σ H1 D.nx) := h
  refine wpAny_bind (thn (lc_core (Qf := fun _ s' => SP X pins D .next s') hc hN I hi ok hg ht he hs h fun L C s' m H' I' q hn f => ?_) fun _ s' hq => wpAny_pure (wpAny_pure hq))
  show wpAny _ _ (assign (.Name y py) X.env (.ref L)) _ _ _
  refine wpAny_assign_Name (store_ok2 (v := V.ref L) I' hN hy (.inl hyl) rfl (fun s2 I2 ⟨a, sb, ha⟩ => ?_) (.inr hyl))
  obtain ⟨f0, f1, f2, f3, f4, f5⟩ := f
  have haC : C ≠ a := by
    rcases ha with z | z
    · rw [z]; exact f1
    · exact fun e => f4 y a z e.symm
  refine ⟨m, hn.sameBut sb haC, fun h3 sb3 => ?_⟩
  exact ⟨_, H', I2.turned (t' := s2.toks) (fun b o hb e => (sb3.2 b hb).trans e) f0 f1 f3 f4 f5, q⟩
theorem sw_true {elt : Expr} {gs : List Comprehension} {scope : Scope} {pos py : Pos} {y : Str} {l : Nat} {env : Env} (hk : env.scope.kind = .function) (hy : env.scope.names.lookup y = some .local) (hl : (py.line == pos.line) = true)
    (ha : (scope.names.any fun (n, k) => n == y && (k == .local || k == .cell)) = false) : swapsWith (.ListComp elt gs scope pos) (some (.Name y py)) l env = pure true := by
  have ky : env.kindOf y = some .local := hy
  have hb : env.blockKind = .function := by unfold Env.blockKind; rw [hk]; rfl
  unfold swapsWith
  simp only [hb, ky, ha, Expr.pos, hl]
  rfl
end
theorem lc_range {lo : Int} {n : Nat} {g : TG} {tt : TT} {te : TE} {vs : List Nat} {σ : St} {H1 : Hp} {D : Addr} {Qd : Hp → Prop} (Pv : Nat → Hp → Prop) (h0 : Pv 0 (upd H1 D (.lst [])))
    (hs : ∀ i H, i < n → Pv i H → g (.int (lo + i)) (wipe σ vs) H fun σ2 H2 => wipe σ2 vs = wipe σ vs ∧ tt σ2 H2 fun b H3 =>
      if b = true then te σ2 H3 fun y H4 => ∃ acc, H4 D = some (.lst acc) ∧ acc.length < sizeLine ∧ Pv (i + 1) (upd H4 D (.lst (acc ++ [y]))) else Pv (i + 1) H3) (hd : ∀ H, Pv n H → Qd H) :
    ∃ W : Nat → Nat → Hp → Prop, (∃ m, W 0 m (upd H1 D (.lst []))) ∧ ∀ i m H, W i m H →
      ((Itr lo n).stop i H ∧ Qd H) ∨ ((Itr lo n).go i H ∧ ∃ Nx : Hp → Prop, (∀ H', Nx H' → ∃ m', m' < m ∧ W (i + 1) m' H') ∧ ∀ x H', (Itr lo n).yld i H x H' → g x (wipe σ vs) H' fun σ2 H2 => wipe σ2 vs = wipe σ vs ∧ tt σ2 H2 fun b H3 =>
        if b = true then te σ2 H3 fun y H4 => ∃ acc, H4 D = some (.lst acc) ∧ acc.length < sizeLine ∧ Nx (upd H4 D (.lst (acc ++ [y]))) else Nx H3) := by
  refine ⟨fun i m H => m = n - i ∧ i ≤ n ∧ Pv i H, ⟨n, by simp, Nat.zero_le _, h0⟩, ?_⟩
  rintro i m H ⟨rfl, hi, p⟩
  by_cases hlt : i < n
  · refine .inr ⟨hlt, Pv (i + 1), fun H' p' => ⟨n - (i + 1), by omega, rfl, hlt, p'⟩, fun x H' y => ?_⟩
    obtain ⟨e, y⟩ := y
    subst e y
    exact hs i _ hlt p
  · have e : i = n := by omega
    subst e
    exact .inl ⟨Nat.le_refl _, hd H p⟩
theorem lc_list {K : PySem.W.Frag} {a : Addr} {xs : List V} {g : TG} {tt : TT} {te : TE} {vs : List Nat} {σ : St} {H1 : Hp} {D : Addr} {Qd : Hp → Prop} (Pv : Nat → Hp → Prop) (h0 : Pv 0 (upd H1 D (.lst []))) (hl : ∀ i H, i ≤ xs.length → Pv i H → SqL K H a xs)
    (hs : ∀ i x H, xs[i]? = some x → Pv i H → g x (wipe σ vs) H fun σ2 H2 => wipe σ2 vs = wipe σ vs ∧ tt σ2 H2 fun b H3 =>
      if b = true then te σ2 H3 fun y H4 => ∃ acc, H4 D = some (.lst acc) ∧ acc.length < sizeLine ∧ Pv (i + 1) (upd H4 D (.lst (acc ++ [y]))) else Pv (i + 1) H3) (hd : ∀ H, Pv xs.length H → Qd H) :
    ∃ W : Nat → Nat → Hp → Prop, (∃ m, W 0 m (upd H1 D (.lst []))) ∧ ∀ i m H, W i m H →
      ((Itl K a).stop i H ∧ Qd H) ∨ ((Itl K a).go i H ∧ ∃ Nx : Hp → Prop, (∀ H', Nx H' → ∃ m', m' < m ∧ W (i + 1) m' H') ∧ ∀ x H', (Itl K a).yld i H x H' → g x (wipe σ vs) H' fun σ2 H2 => wipe σ2 vs = wipe σ vs ∧ tt σ2 H2 fun b H3 =>
        if b = true then te σ2 H3 fun y H4 => ∃ acc, H4 D = some (.lst acc) ∧ acc.length < sizeLine ∧ Nx (upd H4 D (.lst (acc ++ [y]))) else Nx H3) := by
  refine ⟨fun i m H => m = xs.length - i ∧ i ≤ xs.length ∧ Pv i H, ⟨xs.length, by simp, Nat.zero_le _, h0⟩, ?_⟩
  rintro i m H ⟨rfl, hi, p⟩
  have q := hl i H hi p
  by_cases hlt : i < xs.length
  · refine .inr ⟨⟨xs, xs[i], q, by simp [hlt]⟩, Pv (i + 1), fun H' p' => ⟨xs.length - (i + 1), by omega, rfl, hlt, p'⟩, fun x H' y => ?_⟩
    obtain ⟨e, y⟩ := y
    subst e
    exact hs i x _ (y xs q) p
  · have e : i = xs.length := by omega
    subst e
    exact .inl ⟨⟨xs, q, Nat.le_refl _⟩, hd H p⟩
def blkC (N : List Str) (sc scope : Scope) (own : List (Str × Nat)) : Bool :=
  (match scope.kind with | .function => true | _ => false) && (scope.names.all fun y => decide (scope.names.lookup y.1 = some y.2)) && (own.all fun p => decide (N[p.2]? = some p.1)) &&
    (scope.names.all fun y => match y.2 with
      | .free => (match sc.names.lookup y.1 with | some .cell => true | some .free => true | _ => false)
      | .local => decide (y.1 ∈ own.map (·.1)) || decide (y.1 ∉ N)
      | .cell => decide (y.1 ∈ own.map (·.1)) || decide (y.1 ∉ N)
      | _ => true)
theorem blkOk_by {N : List Str} {sc scope : Scope} {own : List (Str × Nat)} (h : blkC N sc scope own = true) : BlkOk N sc scope own := by
  unfold blkC at h
  simp only [Bool.and_eq_true, List.all_eq_true, decide_eq_true_eq] at h
  obtain ⟨⟨⟨h1, h2⟩, h3⟩, h4⟩ := h
  refine ⟨?_, h2, h3, fun y hy e => ?_, fun y hy e => ?_⟩
  · split at h1
    · assumption
    · cases h1
  · have q := h4 y hy
    simp only [e] at q
    split at q <;> first | exact .inl (by assumption) | exact .inr (by assumption) | cases q
  · have q := h4 y hy
    rcases e with e | e <;> (simp only [e, Bool.or_eq_true, decide_eq_true_eq] at q; exact q)
end L2
namespace L2
open PySem PySem.Spec PyProof.Rows
section
variable {prog : Program} {w : World} {A : Around} {R : Result → Shared → Prop} {s : Shared} {elt t0 i0 t1 i1 : Expr} {ifs0 ifs1 : List Expr} {scope : Scope} {pos : Pos} {it acc : Value} {env : Env}
end
section
variable {X : Cx}
end
end L2
namespace L2
open PySem PySem.Spec PyProof.Rows
section
variable {κ : Type} [DecidableEq κ]
def valV (kvs : List (κ × V)) (k : κ) : Option V := (kvs.find? fun kv => decide (kv.1 = k)).map (·.2)
def putK (kvs : List (κ × V)) (k : κ) (v : V) : List (κ × V) :=
  if (kvs.any fun kv => decide (kv.1 = k)) = true then kvs.map (fun kv => if kv.1 = k then (kv.1, v) else kv) else kvs ++ [(k, v)]
def dropK (kvs : List (κ × V)) (k : κ) : List (κ × V) := kvs.filter fun kv => decide (kv.1 ≠ k)
theorem valV_pos {p : κ × V} {r : List (κ × V)} {k : κ} (e : p.1 = k) : valV (p :: r) k = some p.2 := by simp [valV, List.find?_cons, e]
theorem valV_neg {p : κ × V} {r : List (κ × V)} {k : κ} (e : ¬ p.1 = k) : valV (p :: r) k = valV r k := by simp [valV, List.find?_cons, e]
theorem valV_any (k : κ) : ∀ kvs : List (κ × V), (kvs.any fun kv => decide (kv.1 = k)) = (valV kvs k).isSome
  | [] => rfl
  | p :: r => by
    rw [List.any_cons]
    by_cases e : p.1 = k
    · simp only [valV_pos e, decide_eq_true e, Bool.true_or, Option.isSome_some]
    · rw [valV_neg e, decide_eq_false e, Bool.false_or]; exact valV_any k r
theorem length_putK (kvs : List (κ × V)) (k : κ) (v : V) : (putK kvs k v).length ≤ kvs.length + 1 := by
  unfold putK
  split
  · rw [List.length_map]; omega
  · rw [List.length_append, List.length_cons, List.length_nil]; omega
theorem putK_new {kvs : List (κ × V)} {k : κ} (v : V) (h : valV kvs k = none) : putK kvs k v = kvs ++ [(k, v)] := by
  unfold putK
  rw [valV_any, h]
  exact if_neg (by decide)
theorem RelO.isSome_eq {o : Option V} {u : Option Value} (r : RelO o u) : o.isSome = u.isSome := by
  cases o with
  | none => cases u with
    | none => rfl
    | some _ => exact (show False from r).elim
  | some _ => cases u with
    | none => exact (show False from r).elim
    | some _ => rfl
theorem RelO.getD {o : Option V} {u : Option Value} {d : V} {d' : Value} (r : RelO o u) (rd : RelV d d') : RelV (o.getD d) (u.getD d') := by
  cases o with
  | none => cases u with
    | none => exact rd
    | some _ => exact (show False from r).elim
  | some _ => cases u with
    | none => exact (show False from r).elim
    | some _ => exact r
theorem KV.val {kvs : List (κ × V)} {vs : List (κ × Value)} (r : KV kvs vs) (k : κ) : RelO (valV kvs k) (valueAt vs k) := by
  unfold KV at r
  induction r with
  | nil => exact True.intro
  | @cons p q ps qs h t ih =>
    obtain ⟨h1, h2⟩ := h
    by_cases e : p.1 = k
    · have e' : q.1 = k := h1.symm.trans e
      have b : valueAt (q :: qs) k = some q.2 := by simp [valueAt, List.find?_cons, e']
      rw [valV_pos e, b]; exact h2
    · have e' : ¬ q.1 = k := fun z => e (h1.trans z)
      have b : valueAt (q :: qs) k = valueAt qs k := by simp [valueAt, List.find?_cons, e']
      rw [valV_neg e, b]; exact ih
theorem KV.any {kvs : List (κ × V)} {vs : List (κ × Value)} (r : KV kvs vs) (k : κ) : (kvs.any fun kv => decide (kv.1 = k)) = vs.any fun kv => decide (kv.1 = k) := by
  unfold KV at r
  induction r with
  | nil => rfl
  | cons h t ih => rw [List.any_cons, List.any_cons, ih, h.1]
theorem KV.repl {kvs : List (κ × V)} {vs : List (κ × Value)} (r : KV kvs vs) (k : κ) {y : V} {u : Value} (ry : RelV y u) :
    KV (kvs.map fun kv => if kv.1 = k then (kv.1, y) else kv) (vs.map fun kv => if kv.1 = k then (kv.1, u) else kv) := by
  unfold KV at r ⊢
  induction r with
  | nil => exact .nil
  | @cons p q ps qs h t ih =>
    rw [List.map_cons, List.map_cons]
    refine .cons ?_ ih
    obtain ⟨h1, h2⟩ := h
    by_cases e : p.1 = k
    · rw [if_pos e, if_pos (h1.symm.trans e)]; exact ⟨h1, ry⟩
    · rw [if_neg e, if_neg (fun z => e (h1.trans z))]; exact ⟨h1, h2⟩
theorem KV.put {kvs : List (κ × V)} {vs : List (κ × Value)} (r : KV kvs vs) (k : κ) {y : V} {u : Value} (ry : RelV y u) : KV (putK kvs k y) (stored vs k u) := by
  unfold putK stored
  rw [r.any k]
  by_cases e : (vs.any fun kv => decide (kv.1 = k)) = true
  · rw [if_pos e, if_pos e]; exact r.repl k ry
  · rw [if_neg e, if_neg e]; exact Paired.snoc r ⟨rfl, ry⟩
theorem KV.drop {kvs : List (κ × V)} {vs : List (κ × Value)} (r : KV kvs vs) (k : κ) : KV (dropK kvs k) (without vs k) := by
  unfold KV at r ⊢
  unfold dropK without
  induction r with
  | nil => exact .nil
  | @cons p q ps qs h t ih =>
    obtain ⟨h1, h2⟩ := h
    rw [List.filter_cons, List.filter_cons]
    by_cases e : p.1 = k
    · have a : ¬ decide (p.1 ≠ k) = true := by simp [e]
      have b : ¬ decide (q.1 ≠ k) = true := by simp [h1.symm.trans e]
      rw [if_neg a, if_neg b]; exact ih
    · have e' : ¬ q.1 = k := fun z => e (h1.trans z)
      have a : decide (p.1 ≠ k) = true := by simp [e]
      have b : decide (q.1 ≠ k) = true := by simp [e']
      rw [if_pos a, if_pos b]; exact .cons ⟨h1, h2⟩ ih
theorem KV.length {kvs : List (κ × V)} {vs : List (κ × Value)} (r : KV kvs vs) : kvs.length = vs.length := Paired.length r
end
theorem kV_is {P : Program} {w : World} {k : Key} {u : Value} (r : RelV (kV k) u) : (mixKind P w).is k u = true := by
  cases k with
  | inl i => obtain ⟨t, e⟩ := (show ∃ t, u = Value.int i t from r); subst e; exact mixKind_int P w i t
  | inr x => obtain ⟨t, e⟩ := (show ∃ t, u = Value.str x t from r); subst e; exact mixKind_str P w x t
theorem items_are {P : Program} {w : World} : ∀ {ks : List Key} {us : List Value}, Vals (ks.map kV) us → ItemsAre (mixKind P w) ks us
  | [], _, r => by rw [List.map_nil] at r; cases r; exact .nil
  | k :: ks, _, r => by
    rw [List.map_cons] at r
    cases r with
    | cons h t => exact .cons (kV_is h) (items_are t)
abbrev KT (H : Hp) : List (List Key × V) → List (List Key × Addr × Value) → Prop := Paired fun p q => p.1 = q.1 ∧ H q.2.1 = some (.tup (p.1.map kV)) ∧ RelV p.2 q.2.2
theorem KT.val {H : Hp} {kvs : List (List Key × V)} {xs : List (List Key × Addr × Value)} (r : KT H kvs xs) (k : List Key) : RelO (valV kvs k) ((atKey xs k).map (·.2)) := by
  induction r with
  | nil => exact True.intro
  | @cons p q ps qs h t ih =>
    obtain ⟨h1, _, h2⟩ := h
    by_cases e : p.1 = k
    · have e' : q.1 = k := h1.symm.trans e
      have b : atKey (q :: qs) k = some q.2 := by simp [atKey, List.find?_cons, e']
      rw [valV_pos e, b]; exact h2
    · have e' : ¬ q.1 = k := fun z => e (h1.trans z)
      have b : atKey (q :: qs) k = atKey qs k := by simp [atKey, List.find?_cons, e']
      rw [valV_neg e, b]; exact ih
theorem KT.repl {H : Hp} {kvs : List (List Key × V)} {xs : List (List Key × Addr × Value)} (r : KT H kvs xs) (k : List Key) {y : V} {u : Value} (ry : RelV y u) :
    KT H (kvs.map fun kv => if kv.1 = k then (kv.1, y) else kv) (xs.map (putAt k u)) := by
  induction r with
  | nil => exact .nil
  | @cons p q ps qs h t ih =>
    rw [List.map_cons, List.map_cons]
    refine .cons ?_ ih
    obtain ⟨h1, h2, h3⟩ := h
    unfold putAt
    by_cases e : p.1 = k
    · rw [if_pos e, if_pos (h1.symm.trans e)]; exact ⟨h1, h2, ry⟩
    · rw [if_neg e, if_neg (fun z => e (h1.trans z))]; exact ⟨h1, h2, h3⟩
theorem KT.put {H : Hp} {kvs : List (List Key × V)} {xs : List (List Key × Addr × Value)} (r : KT H kvs xs) (k : List Key) {b : Addr} {y : V} {u : Value} (hb : H b = some (.tup (k.map kV))) (ry : RelV y u) :
    KT H (putK kvs k y) (storedH xs k b u) := by
  have e : (kvs.any fun kv => decide (kv.1 = k)) = (atKey xs k).isSome := by
    rw [valV_any, (r.val k).isSome_eq, Option.isSome_map]
  unfold putK storedH
  rw [e]
  by_cases q : (atKey xs k).isSome = true
  · rw [if_pos q, if_pos q]; exact r.repl k ry
  · rw [if_neg q, if_neg q]; exact Paired.snoc r ⟨rfl, hb, ry⟩
theorem KT.keeps {H H' : Hp} {kvs : List (List Key × V)} {xs : List (List Key × Addr × Value)} (r : KT H kvs xs) (ht : ∀ b ys, H b = some (.tup ys) → H' b = some (.tup ys)) : KT H' kvs xs :=
  Paired.mapP r fun _ _ z => ⟨z.1, ht _ _ z.2.1, z.2.2⟩
section
variable {P : Program} {w : World} {H : Hp} {h : Heap} {a : Addr}
theorem rd_of {u : HO} (ok : HOk P w H h) (e : Rd H a u) : ObjOk P w H h a u := e.ok ok
theorem dk_rd {kvs : List (Key × V)} (ok : HOk P w H h) (e : Rd H a (.dK kvs)) : kvs.length ≤ sizeLine ∧ (a == sysModules) = false ∧ ∃ vs, KV kvs vs ∧ h.DictOf (mixKind P w) a vs :=
  show ObjOk P w H h a (.dK kvs) from rd_of ok e
theorem dk_of {kvs : List (Key × V)} (ok : HOk P w H h) (e : H a = some (.dK kvs)) : kvs.length ≤ sizeLine ∧ (a == sysModules) = false ∧ ∃ vs, KV kvs vs ∧ h.DictOf (mixKind P w) a vs := dk_rd ok (.inl e)
theorem key_of {ks : List Key} (ok : HOk P w H h) (e : H a = some (.tup (ks.map kV))) : (tupleKind (mixKind P w)).is h ks a := by
  obtain ⟨_, its, r, o, h1, h2, n, h3⟩ := (show ObjOk P w H h a (.tup (ks.map kV)) from ok a _ e)
  exact ⟨o, its.toArray, n, h1, h2, h3, by simpa using items_are r⟩
theorem dt_rd {kvs : List (List Key × V)} (ok : HOk P w H h) (e : Rd H a (.dT kvs)) : kvs.length ≤ sizeLine ∧ (a == sysModules) = false ∧
    ∃ xs, KT H kvs xs ∧ h.DictOfH (tupleKind (mixKind P w)) a xs := by
  obtain ⟨z, y, xs, r, o, es, ep, h1, h2, h3, h4, h5⟩ := (show ObjOk P w H h a (.dT kvs) from rd_of ok e)
  refine ⟨z, y, xs, r, o, es, ep, h1, h2, h3, h4, fun x hx => ?_, h5⟩
  have all : ∀ {l : List (List Key × V)} {m : List (List Key × Addr × Value)}, KT H l m → ∀ x ∈ m, (tupleKind (mixKind P w)).is h x.1 x.2.1 := by
    intro l m q
    induction q with
    | nil => intro x hx; exact nomatch hx
    | @cons p q ps qs hq t ih =>
      intro x hx
      rcases List.mem_cons.mp hx with e | hx
      · subst e
        exact key_of ok (by rw [← hq.1]; exact hq.2.1)
      · exact ih x hx
  exact all r x hx
theorem dt_of {kvs : List (List Key × V)} (ok : HOk P w H h) (e : H a = some (.dT kvs)) : kvs.length ≤ sizeLine ∧ (a == sysModules) = false ∧
    ∃ xs, KT H kvs xs ∧ h.DictOfH (tupleKind (mixKind P w)) a xs := dt_rd ok (.inl e)
end
def DGet (H : Hp) (a : Addr) (y : V) (r : Option V) : Prop :=
  (∃ kvs k, Rd H a (.dK kvs) ∧ y = kV k ∧ r = valV kvs k) ∨ ∃ kvs k b, Rd H a (.dT kvs) ∧ y = .ref b ∧ H b = some (.tup (k.map kV)) ∧ r = valV kvs k
def DPut (H : Hp) (a : Addr) (y v : V) (H' : Hp) : Prop :=
  (∃ kvs k, H a = some (.dK kvs) ∧ y = kV k ∧ kvs.length < sizeLine ∧ H' = upd H a (.dK (putK kvs k v))) ∨
  ∃ kvs k b, H a = some (.dT kvs) ∧ y = .ref b ∧ H b = some (.tup (k.map kV)) ∧ kvs.length < sizeLine ∧ H' = upd H a (.dT (putK kvs k v))
theorem DGet.k {H : Hp} {a : Addr} {kvs : List (Key × V)} {k : Key} (e : H a = some (.dK kvs)) : DGet H a (kV k) (valV kvs k) := .inl ⟨kvs, k, .inl e, rfl, rfl⟩
theorem DGet.t {H : Hp} {a b : Addr} {kvs : List (List Key × V)} {k : List Key} (e : H a = some (.dT kvs)) (eb : H b = some (.tup (k.map kV))) : DGet H a (.ref b) (valV kvs k) := .inr ⟨kvs, k, b, .inl e, rfl, eb, rfl⟩
theorem DPut.k {H : Hp} {a : Addr} {kvs : List (Key × V)} {k : Key} {v : V} (e : H a = some (.dK kvs)) (hl : kvs.length < sizeLine) : DPut H a (kV k) v (upd H a (.dK (putK kvs k v))) := .inl ⟨kvs, k, e, rfl, hl, rfl⟩
theorem DPut.t {H : Hp} {a b : Addr} {kvs : List (List Key × V)} {k : List Key} {v : V} (e : H a = some (.dT kvs)) (eb : H b = some (.tup (k.map kV))) (hl : kvs.length < sizeLine) :
    DPut H a (.ref b) v (upd H a (.dT (putK kvs k v))) := .inr ⟨kvs, k, b, e, rfl, eb, hl, rfl⟩
section
variable {X : Cx} {pins : List (Addr × Obj)} {σ : St} {H : Hp} {s : Shared} {a : Addr} {y v : V} {u r : Value} {o : Option V} {A : Around} {E : Value → Shared → Prop}
theorem Inv.big (I : Inv X pins σ H s) : sysModules < s.heap.objs.size := by
  have h : mainGlobals < s.heap.objs.size := (I.mod.glob.keeps I.bk).lt
  exact Nat.lt_trans (by decide) h
theorem d_getItem {Q : Value → Shared → Prop} (hu : A.units + 1 < cLine) (I : Inv X pins σ H s) (g : DGet H a y (some v)) (ry : RelV y u) (h : ∀ w' s', Inv X pins σ H s' → RelV v w' → Q w' s') :
    wpAny (model X.prog X.w) A (getItem (.ref a) u) Q E s := by
  rcases g with ⟨kvs, k, e, ey, l⟩ | ⟨kvs, k, b, e, ey, eb, l⟩
  · subst ey
    obtain ⟨z, hd, vs, rel, dd⟩ := dk_rd I.hok e
    obtain ⟨w', hw, rw'⟩ := RelO.some_of (v := v) (o := valueAt vs k) (by rw [l]; exact rel.val k)
    exact wpAny_getItem_of (kV_is ry) dd.mapOf hw (h w' _ (I.tok _) rw')
  · subst ey
    cases (show u = Value.ref b from ry)
    obtain ⟨z, hd, xs, rel, dd⟩ := dt_rd I.hok e
    obtain ⟨w', hw, rw'⟩ := RelO.some_of (v := v) (o := (atKey xs k).map (·.2)) (by rw [l]; exact rel.val k)
    obtain ⟨p, hp, hp2⟩ := Option.map_eq_some_iff.mp hw
    refine wpAny_getItem_heap (tupleKind_room_in1 hu) (key_of I.hok eb) dd hp ?_
    rw [hp2]
    exact h w' _ (I.tok _) rw'
theorem d_notIn {Q : Value → Shared → Prop} (hu : A.units + 1 < cLine) (I : Inv X pins σ H s) (g : DGet H a y o) (ry : RelV y u) (h : ∀ s', Inv X pins σ H s' → Q (.bool (!o.isSome)) s') :
    wpAny (model X.prog X.w) A (compareOp .NotIn u (.ref a)) Q E s := by
  rcases g with ⟨kvs, k, e, ey, l⟩ | ⟨kvs, k, b, e, ey, eb, l⟩
  · subst ey
    obtain ⟨z, hd, vs, rel, dd⟩ := dk_rd I.hok e
    refine wpAny_notIn_of (kV_is ry) hd dd.mapOf ?_
    rw [← (rel.val k).isSome_eq, ← l]
    exact h _ (I.tok _)
  · subst ey
    cases (show u = Value.ref b from ry)
    obtain ⟨z, hd, xs, rel, dd⟩ := dt_rd I.hok e
    refine wpAny_notIn_heap (tupleKind_room_in1 hu) (key_of I.hok eb) hd dd ?_
    have q := (rel.val k).isSome_eq
    rw [Option.isSome_map] at q
    rw [← q, ← l]
    exact h _ (I.tok _)
theorem d_write {h' : Heap} {t' : Nat} {ob : HO} (I : Inv X pins σ H s) (mu : Mut (H a)) (hs : Heap.SameBut a s.heap h') (he : ∃ q, h'.get? a = some q) (new : ObjOk X.prog X.w (upd H a ob) h' a ob) :
    Inv X pins σ (upd H a ob) { s with heap := h', toks := t' } :=
  I.write (x := a) (e := a) mu (.inl rfl) (fun b q hb z => (hs.2 b hb).trans z) he new
theorem dk_new {P : Program} {w : World} {H' : Hp} {h' : Heap} {kvs : List (Key × V)} {vs : List (Key × Value)} (z : kvs.length ≤ sizeLine) (hd : (a == sysModules) = false) (rel : KV kvs vs) (dd : h'.DictOf (mixKind P w) a vs) :
    ObjOk P w H' h' a (.dK kvs) := ⟨z, hd, vs, rel, dd⟩
theorem d_setItem {H' : Hp} {Q : Unit → Shared → Prop} (hu : A.units + 1 < cLine) (I : Inv X pins σ H s) (g : DPut H a y v H') (ry : RelV y u) (rv : RelV v r) (h : ∀ s', Inv X pins σ H' s' → Q () s') :
    wpAny (model X.prog X.w) A (setItem (.ref a) u r) Q E s := by
  rcases g with ⟨kvs, k, e, ey, l, eH⟩ | ⟨kvs, k, b, e, ey, eb, l, eH⟩
  · subst ey eH
    obtain ⟨z, hd, vs, rel, dd⟩ := dk_of I.hok e
    have hz : vs.length ≤ sizeLine := by rw [← rel.length]; exact z
    have hl : (putK kvs k v).length ≤ sizeLine := by have := length_putK kvs k v; omega
    refine wpAny_setItem_pairs (hsz := hz) (kV_is ry) dd fun h' dd' hs => h _ ?_
    have he : ∃ q, h'.get? a = some q := let ⟨q, _, _, hq, _⟩ := dd'; ⟨q, hq⟩
    exact d_write I (by rw [e]; exact True.intro) hs he (dk_new hl hd (rel.put k rv) dd')
  · subst ey eH
    cases (show u = Value.ref b from ry)
    obtain ⟨z, hd, xs, rel, dd⟩ := dt_of I.hok e
    have hz : xs.length ≤ sizeLine := by rw [← Paired.length rel]; exact z
    have hl : (putK kvs k v).length ≤ sizeLine := by have := length_putK kvs k v; omega
    refine wpAny_setItem_heap (hsz := hz) (tupleKind_room_in1 hu) (key_of I.hok eb) dd fun h' dd' hs => h _ ?_
    obtain ⟨q, es, ep, hq, h2, h3, h4, _, h5⟩ := dd'
    refine d_write I (by rw [e]; exact True.intro) hs ⟨q, hq⟩ ⟨hl, hd, _, (rel.put k eb rv).keeps fun c ys ec => ?_, q, es, ep, hq, h2, h3, h4, h5⟩
    rw [upd_ne (ne_of ec e (fun z => nomatch z))]
    exact ec
end
section
variable {X : Cx} {pins : List (Addr × Obj)} {σ : St} {H : Hp} {s : Shared} {a : Addr} {kvs : List (Key × V)} {k : Key} {u : Value} {A : Around} {E : Value → Shared → Prop}
theorem d_len {Q : Value → Shared → Prop} (I : Inv X pins σ H s) (e : Rd H a (.dK kvs)) (h : ∀ t s', Inv X pins σ H s' → Q (.int kvs.length t) s') : wpAny (model X.prog X.w) A (call (.builtin "len") [.ref a]) Q E s := by
  obtain ⟨z, hd, vs, rel, dd⟩ := dk_rd I.hok e
  refine call_len_dict hd dd (by rw [← rel.length]; rw [sizeLine_eq] at z; omega) ?_
  rw [← rel.length]
  exact h _ _ (I.tok _)
end
def NoSl (i : Expr) : Prop := ∀ ov iv, subscripted i false ov iv = operate [ov, iv] (getItem ov iv)
theorem subD_of {prog : Program} {w : World} {A : Around} {E : Value → Shared → Prop} {s : Shared} {env : Env} {value slice : Expr} {pos : Pos} {T id : String} {Q : Value → Shared → Prop}
    (hl : typeLookup (.type T) "__getitem__" = pure (some (.builtin id))) (hs : NoSl slice)
    (h : wpAny (model prog w) A (eval value env) (fun o s₁ => wpAny (model prog w) A (eval slice env) (fun i s₂ => s₂.TypeIs o T ∧ wpAny (model prog w) A (getItem o i) Q E s₂) E s₁) E s) :
    wpAny (model prog w) A (eval (.Subscript value slice pos) env) Q E s := by
  refine Subscript_ (wpAny_mono h (fun o s₁ h₁ => wpAny_mono h₁ (fun i s₂ h₂ => ?_) fun _ _ x => x) fun _ _ x => x)
  obtain ⟨hT, h₂⟩ := h₂
  unfold subscriptTail
  refine wpAny_bind ?_
  rw [getitemInPython_of_ne hT.not_modules]
  refine wpAny_bind (wpAny_specialOf hT hl ?_)
  have fin : wpAny (model prog w) A (subscripted slice false o i) (fun r s₃ => wpAny (model prog w) A (letTemporaryGo value o r >>= fun _ => pure r) Q E s₃) E s₂ := by
    rw [hs o i]
    exact wpAny_operating (wpAny_mono h₂ (fun r s₃ h₃ => wpAny_bind (wpAny_letTemporaryGo (wpAny_pure h₃))) fun _ _ x => x)
  first
    | exact wpAny_pure (wpAny_bind fin)
    | exact wpAny_bind (wpAny_pure (wpAny_bind fin))
    | exact wpAny_bind fin
theorem dict_typeIs {X : Cx} {pins : List (Addr × Obj)} {σ : St} {H : Hp} {s : Shared} {a : Addr} {y : V} {o : Option V} (I : Inv X pins σ H s) (g : DGet H a y o) : s.TypeIs (.ref a) "dict" := by
  rcases g with ⟨kvs, k, e, _, _⟩ | ⟨kvs, k, b, e, _, _, _⟩
  · obtain ⟨_, _, vs, _, dd⟩ := dk_rd I.hok e
    exact dd.typeIs
  · obtain ⟨_, _, xs, _, dd⟩ := dt_rd I.hok e
    exact dd.typeIs
def tDGet (td ty : TE) : TE := fun σ H Q => td σ H fun x H1 => ty σ H1 fun y H2 => ∃ a v, x = .ref a ∧ DGet H2 a y (some v) ∧ Q v H2
def tDNotIn (ty td : TE) : TE := fun σ H Q => ty σ H fun y H1 => td σ H1 fun x H2 => ∃ a o, x = .ref a ∧ DGet H2 a y o ∧ Q (.bl (!o.isSome)) H2
def sDPut (td ty tv : TE) : TS := fun D σ H => tv σ H fun v H1 => td σ H1 fun x H2 => ty σ H2 fun y H3 => ∃ a H4, x = .ref a ∧ DPut H3 a y v H4 ∧ D.nx σ H4
section
variable {X : Cx} {o i e value : Expr} {pos pos' tpos : Pos} {td ty tv : TE}
theorem pe_dget (hu : X.A.units + 1 < cLine) (ho : PE X o td) (hi : PE X i ty) (hs : NoSl i) : PE X (.Subscript o i pos) (tDGet td ty) := by
  intro pins s σ H Q I h
  refine subD_of PySem.F.slot_dict_getitem.lookup hs (thn (ho pins s σ H _ I h) fun u s1 ⟨x, H1, I1, rx, q1⟩ => thn (hi pins s1 σ H1 _ I1 q1) fun iv s2 ⟨y, H2, I2, ry, a, v, ex, g, q2⟩ => ?_)
  subst ex
  obtain rfl : u = Value.ref a := rx
  exact ⟨dict_typeIs I2 g, d_getItem hu I2 g ry fun w' s3 I3 rw' => ⟨v, H2, I3, rw', q2⟩⟩
theorem pc_dnotin (hu : X.A.units + 1 < cLine) (hi : PE X i ty) (ho : PE X o td) : PC X .NotIn i o (tDNotIn ty td) := by
  intro pins s σ H Q I h
  refine thn (hi pins s σ H _ I h) fun iv s1 ⟨y, H1, I1, ry, q1⟩ => thn (ho pins s1 σ H1 _ I1 q1) fun u s2 ⟨x, H2, I2, rx, a, ov, ex, g, q2⟩ => ?_
  subst ex
  obtain rfl : u = Value.ref a := rx
  exact d_notIn hu I2 g ry fun s3 I3 => ⟨.bl (!ov.isSome), H2, I3, rfl, q2⟩
theorem ps_dput (hu : X.A.units + 1 < cLine) (ho : PE X o td) (hi : PE X i ty) (hv : PE X value tv) (hs : swapsWith value (some (.Subscript o i pos')) pos.line X.env = pure false) :
    PS X (.Assign [.Subscript o i pos'] value pos) (sDPut td ty tv) := by
  intro pins s σ H D I h
  refine wpAny_Assign_Subscript (thn (hv pins s σ H _ I h) fun r s1 ⟨v, H1, I1, rv, q1⟩ => thn (ho pins s1 σ H1 _ I1 q1) fun u s2 ⟨x, H2, I2, rx, q2⟩ => thn (hi pins s2 σ H2 _ I2 q2) fun iv s3 ⟨y, H3, I3, ry, a, H4, ex, g, q3⟩ => ?_) hs
  subst ex
  obtain rfl : u = Value.ref a := rx
  exact d_setItem hu I3 g ry rv fun s4 I4 => ⟨σ, H4, I4, q3⟩
end
theorem dk_empty {P : Program} {w : World} {H : Hp} (h : Heap) (hb : sysModules < h.objs.size) : ObjOk P w H (h.push { cls := .type "dict", data := .dict #[] }) h.objs.size (.dK []) :=
  ⟨Nat.zero_le _, beq_eq_false_iff_ne.mpr (Ne.symm (Nat.ne_of_lt hb)), [], .nil, Heap.DictOf.new h⟩
theorem dt_empty {P : Program} {w : World} {H : Hp} (h : Heap) (hb : sysModules < h.objs.size) : ObjOk P w H (h.push { cls := .type "dict", data := .dict #[] }) h.objs.size (.dT []) :=
  ⟨Nat.zero_le _, beq_eq_false_iff_ne.mpr (Ne.symm (Nat.ne_of_lt hb)), [], .nil, _, #[], 0, Heap.get?_push_size _ rfl, ⟨rfl, rfl, rfl⟩, rfl, rfl, List.nodup_nil⟩
def tDNewK : TE := fun _ H Q => ∀ p, H p = none → Q (.ref p) (upd H p (.dK []))
section
variable {X : Cx} {pos : Pos}
theorem pe_dnewK : PE X (.Dict [] [] pos) tDNewK := fun pins s σ H Q I h =>
  wpAny_Dict_empty ⟨.ref s.heap.objs.size, _, I.laid (a := s.heap.objs.size) (o := .dK []) (t' := s.toks) (fun _ _ q => Heap.get?_push_of_some _ q) (Nat.le_refl _) (dk_empty s.heap I.big), rfl, h _ (I.hok.fresh (Nat.le_refl _))⟩
end
structure M1 (X : Cx) (o : Expr) (m : Str) (apos : Pos) (e : Expr) (cpos : Pos) : Prop where
  base : attributeBase o m X.env (eval o X.env) = eval o X.env
  few : ((backTo cpos (starEach [e] X.env)).all (fun x => !x.1) && (backToKw cpos (keywordEach [] X.env)).all (fun x => x.1.isSome)
    && decide (([e] : List Expr).length + ([] : List Keyword).length + (if ([] : List Keyword).isEmpty then 0 else 1) < 30)) = true
  line : (apos.endLine == cpos.line) = true
  trees : backTo cpos (starEach [e] X.env) = [(false, eval e X.env)]
structure M2 (X : Cx) (o : Expr) (m : Str) (apos : Pos) (e f : Expr) (cpos : Pos) : Prop where
  base : attributeBase o m X.env (eval o X.env) = eval o X.env
  few : ((backTo cpos (starEach [e, f] X.env)).all (fun x => !x.1) && (backToKw cpos (keywordEach [] X.env)).all (fun x => x.1.isSome)
    && decide (([e, f] : List Expr).length + ([] : List Keyword).length + (if ([] : List Keyword).isEmpty then 0 else 1) < 30)) = true
  line : (apos.endLine == cpos.line) = true
  trees : backTo cpos (starEach [e, f] X.env) = [(false, eval e X.env), (false, eval f X.env)]
def IsD (H : Hp) (a : Addr) : Prop := (∃ kvs, Rd H a (.dK kvs)) ∨ ∃ kvs, Rd H a (.dT kvs)
theorem isD_at {X : Cx} {pins : List (Addr × Obj)} {σ : St} {H : Hp} {s : Shared} {a : Addr} (I : Inv X pins σ H s) (d : IsD H a) :
    s.TypeIs (.ref a) "dict" ∧ (∀ b, Value.ref a = .ref b → ∃ ob, s.heap.get? b = some ob ∧ ob.dict = none) ∧ (a == sysModules) = false := by
  rcases d with ⟨kvs, e⟩ | ⟨kvs, e⟩
  · obtain ⟨_, hd, vs, _, dd⟩ := dk_rd I.hok e
    refine ⟨dd.typeIs, fun b q => ?_, hd⟩
    cases q
    obtain ⟨ob, _, _, h1, h2, _⟩ := dd
    exact ⟨ob, h1, h2.2.1⟩
  · obtain ⟨_, hd, xs, _, dd⟩ := dt_rd I.hok e
    refine ⟨dd.typeIs, fun b q => ?_, hd⟩
    cases q
    obtain ⟨ob, _, _, h1, h2, _⟩ := dd
    exact ⟨ob, h1, h2.2.1⟩
section
variable {X : Cx} {pins : List (Addr × Obj)} {σ : St} {H : Hp} {s : Shared} {a : Addr} {y d : V} {u r : Value} {o : Option V} {A : Around} {E : Value → Shared → Prop}
theorem d_get2 {Q : Value → Shared → Prop} (hu : A.units + 1 < cLine) (I : Inv X pins σ H s) (g : DGet H a y o) (ry : RelV y u) (rd : RelV d r) (h : ∀ w' s', Inv X pins σ H s' → RelV (o.getD d) w' → Q w' s') :
    wpAny (model X.prog X.w) A (call (.builtin "dict.get") [.ref a, u, r]) Q E s := by
  rcases g with ⟨kvs, k, e, ey, l⟩ | ⟨kvs, k, b, e, ey, eb, l⟩
  · subst ey
    obtain ⟨z, hd, vs, rel, dd⟩ := dk_rd I.hok e
    refine call_meetsIn PySem.F.slot_dict_get dd.typeIs PySem.F.entry_dict_get (PySem.F.args_dict_get_3 _ _ _) (meets_dict_get_default (mixKind X.prog X.w) a (kV_is ry) hd r) ⟨_, dd.mapOf, h _ _ (I.tok _) ?_⟩
    rw [l]
    exact (rel.val k).getD rd
  · subst ey
    cases (show u = Value.ref b from ry)
    obtain ⟨z, hd, xs, rel, dd⟩ := dt_rd I.hok e
    refine call_meetsIn PySem.F.slot_dict_get dd.typeIs PySem.F.entry_dict_get (PySem.F.args_dict_get_3 _ _ _) (meetsH_dict_get_default (tupleKind (mixKind X.prog X.w)) a b hd r) ⟨tupleKind_room_in1 hu, k, xs, key_of I.hok eb, dd, h _ _ (I.tok _) ?_⟩
    rw [l]
    exact (rel.val k).getD rd
end
def tDGet2 (td ty tx : TE) : TE := fun σ H Q => td σ H fun x H1 => ∃ a, x = .ref a ∧ IsD H1 a ∧ ty σ H1 fun y H2 => tx σ H2 fun z H3 => ∃ o, DGet H3 a y o ∧ Q (o.getD z) H3
section
variable {X : Cx} {o e f : Expr} {apos cpos : Pos} {td ty tx : TE}
theorem pe_dget2 (hu : X.A.units + 1 < cLine) (ho : PE X o td) (he : PE X e ty) (hf : PE X f tx) (m : M2 X o "get" apos e f cpos) : PE X (.Call (.Attribute o "get" apos) [e, f] [] cpos) (tDGet2 td ty tx) := by
  intro pins s σ H Q I h
  refine wpAny_Call_method m.base m.few m.line PySem.F.plainAttrs_dict PySem.F.slot_dict_get PySem.F.type_dict_get (thn (ho pins s σ H _ I h) fun u s1 ⟨x, H1, I1, rx, a, ex, d, q1⟩ => ?_)
  subst ex
  obtain rfl : u = Value.ref a := rx
  obtain ⟨t1, t2, _⟩ := isD_at I1 d
  refine ⟨t1, t2, ?_⟩
  rw [m.trees]
  refine Calls.callWith_builtin rfl (Calls.evalArgs_plain (Calls.spliced_cons (thn (he pins s1 σ H1 _ I1 q1) fun iv s2 ⟨y, H2, I2, ry, q2⟩ =>
    Calls.spliced_cons (thn (hf pins s2 σ H2 _ I2 q2) fun fv s3 ⟨z, H3, I3, rz, ov, g, q3⟩ => Calls.spliced_nil ?_))))
  exact d_get2 hu I3 g ry rz fun w' s4 I4 rw' => ⟨_, H3, I4, rw', q3⟩
end
section
variable {X : Cx} {pins : List (Addr × Obj)} {σ : St} {H : Hp} {s : Shared} {a : Addr} {kvs : List (Key × V)} {A : Around} {E : Value → Shared → Prop}
end
section
variable {X : Cx} {pins : List (Addr × Obj)} {σ : St} {H : Hp} {s : Shared} {a : Addr} {y : V} {u : Value} {A : Around} {E : Value → Shared → Prop}
end
end L2
namespace L2
open PySem PySem.Spec PyProof.Rows
section
variable {prog : Program} {w : World} {A : Around} {E : Value → Shared → Prop}
end
section
variable {X : Cx}
end
end L2
namespace L2
open PySem PySem.Spec PyProof.Rows
section
variable {X : Cx} {pins : List (Addr × Obj)} {σ : St} {H : Hp} {s : Shared} {h' : Heap}
theorem Inv.turnedNew {t' : Nat} {ch : List Addr} {T : Addr} {ob : HO} (I : Inv X pins σ H s) (k : ∀ b o, b ∉ ch → s.heap.get? b = some o → h'.get? b = some o) (hf : ∀ b ∈ ch, FpOk X pins H b) (hT : s.heap.objs.size ≤ T)
    (new : ObjOk X.prog X.w (upd H T ob) h' T ob) : Inv X pins σ (upd H T ob) { s with heap := h', toks := t' } := by
  have hn : H T = none := I.hok.fresh hT
  have nit : ∀ b u, H b = some u → b ∉ ch := fun b u e z => by
    have q := (hf b z).1
    rw [q] at e; cases e
  refine I.step (g' := s.gens) (d' := s.drawn) (ch := ch) (fun b hb => ⟨(hf b hb).2.2.2.1, (hf b hb).2.1, (hf b hb).2.2.2.2.1, (hf b hb).2.2.2.2.2⟩) (fun b o _ _ hc e _ => k b o hc e) (fun b o _ _ hc e _ => ⟨o.slots, k b o hc e⟩)
    (fun b o _ e n => ?_) (fun b o hc e => ⟨o, k b o hc e⟩) (fun b xs e => ?_) (fun b o u e => ?_) (fun b ps e => ⟨#[], ?_⟩) (fun m hm => ?_) (fun b u e => ?_) I.bare
  · rw [upd_ne (Nat.ne_of_lt (Nat.lt_of_lt_of_le (Heap.lt_size e) hT))]; exact n
  · rw [upd_ne (ne_of_none e hn)]; exact e
  · rw [upd_ne (ne_of_none e hn)]; exact e
  · rw [upd_ne (ne_of_none e hn), e]; simp
  · obtain ⟨o, es, ep, ho, r⟩ := hm
    exact ⟨o, es, ep, k _ o (fun z => (hf _ z).2.1 rfl) ho, r⟩
  · by_cases hb : b = T
    · subst hb
      rw [upd_same] at e
      cases e
      exact new
    · rw [upd_ne hb] at e
      refine (I.hok b u e).stay (fun c v hc q => k c v ?_ q) (fun c q => by rw [upd_ne (ne_of_none q hn)]; exact q) fun c xs q => by rw [upd_ne (ne_of_none q hn)]; exact q
      rcases hc with z | z
      · rw [z]; exact nit b u e
      · exact nit c _ z
end
section
variable {X : Cx}
end
def RgC (i j c : Int) (n : Nat) : Prop := c ≠ 0 ∧ c.natAbs < 1073741824 ∧ Builtin.Range.small i j c = true ∧ Builtin.Range.rangeSize i j c = n
theorem RgC.neg {i j : Int} (ha : -(2 ^ 62) ≤ i) (ha' : i < 2 ^ 62) (hb : -(2 ^ 62) ≤ j) (hb' : j < 2 ^ 62) : RgC i j (-1) (i - j).toNat :=
  ⟨by decide, by decide, PySem.W.small_down ha ha' hb hb', PySem.W.rangeSize_downNat i j⟩
section
variable {X : Cx} {tg : Expr}
end
section
variable {X : Cx} {tg : Expr}
end
section
variable {prog : Program} {w : World} {A : Around} {E : Value → Shared → Prop} {s : Shared}
end
section
variable {X : Cx} {pins : List (Addr × Obj)} {σ : St} {H : Hp} {s : Shared} {d : Addr} {o : Obj}
end
section
variable {P : Program} {w : World} {K : PySem.W.Frag} {tg : Expr} {d : Addr} {o : Obj} {es : Array DictEntry} {ep : Nat}
end
section
variable {X : Cx} {tg e : Expr} {td : TE} {apos cpos : Pos}
end
def Ite (K : PySem.W.Frag) (a : Addr) : It :=
  ⟨fun i H => ∃ (xs : List V) (x : V), SqL K H a xs ∧ xs[i]? = some x, fun i H v H' => ∃ T x, v = .ref T ∧ H T = none ∧ H' = upd H T (.tup [.int (i : Nat), x]) ∧ ∀ xs, SqL K H a xs → xs[i]? = some x, fun i H => ∃ xs : List V, SqL K H a xs ∧ xs.length ≤ i⟩
theorem turn_enum {P : Program} {w : World} {K : PySem.W.Frag} {elts : List Expr} {kk : Nat} {tpos : Pos} (a e it : Addr) :
    Turn P w K (.Tuple elts kk tpos) (Ite K a) [e, it] e (fun i h => (∃ old, IsEnum h e it ((i : Nat) : Int) old) ∧ h.IsListIter it a i ∧ e ≠ it) where
  mem := by simp
  obj := fun i h st b hb => by
    obtain ⟨⟨old, he⟩, ⟨o, ho, hc, hd⟩, _⟩ := st
    have e' : b = e ∨ b = it := by simpa using hb
    rcases e' with z | z
    · rw [z]; exact ⟨_, he, fun v q => nomatch q⟩
    · rw [z]; exact ⟨o, ho, fun v q => by rw [hd] at q; cases q⟩
  keep := fun i h h' st k => let ⟨⟨old, he⟩, hi, hne⟩ := st; ⟨⟨old, k e (by simp) _ he⟩, hi.at fun o q => k it (by simp) o q, hne⟩
  item := by
    intro X hP hw hK hc i pins s σ H E I hf st hg
    subst hP hw hK
    obtain ⟨⟨old, he⟩, hit, hne⟩ := st
    obtain ⟨xs, x, hq, hx⟩ := hg
    obtain ⟨its, rv, p, hz⟩ := I.list hq
    obtain ⟨u, hu, ru⟩ := rv.get hx
    have hel : e < s.heap.objs.size := Heap.lt_size he
    have hil : it < s.heap.objs.size := by obtain ⟨_, q, _⟩ := hit; exact Heap.lt_size q
    refine wpAny_pyNext_enum_item he hit p.isList (x := u) (by simpa using hu) hne fun h' ho hit' hT hsz hk => ?_
    refine ⟨_, rfl, wpAny_letOwnedTupleGo_enum (s := { s with heap := h', toks := s.toks + 1 }) ho fun h'' he' sb => ?_⟩
    have hT2 : h''.get? s.heap.objs.size = some { cls := .type "tuple", data := .seq #[.int i s.toks, u] } := (sb.2 _ (Nat.ne_of_gt hel)).trans hT
    have new : ObjOk X.prog X.w (upd H s.heap.objs.size (.tup [.int (i : Nat), x])) h'' s.heap.objs.size (.tup [.int (i : Nat), x]) :=
      ⟨by show 2 ≤ sizeLine; decide, [.int i s.toks, u], .cons ⟨_, rfl⟩ (.cons ru .nil), ⟨_, hT2, rfl, _, rfl⟩⟩
    have I1 : Inv X pins σ (upd H s.heap.objs.size (.tup [.int (i : Nat), x])) { s with heap := h'', toks := s.toks + 1 } :=
      I.turnedNew (ch := [e, it]) (fun b ob hb q => (sb.2 b (fun z => hb (by simp [z]))).trans (hk b ob (fun z => hb (by simp [z])) (fun z => hb (by simp [z])) q)) hf (Nat.le_refl _) new
    refine ⟨.ref s.heap.objs.size, _, I1, rfl, ⟨_, x, rfl, I.hok.fresh (Nat.le_refl _), rfl, fun ys hy => by rw [I.list_inj hy hq]; exact hx⟩, ⟨⟨u, ?_⟩, hit'.at fun o q => (sb.2 it (Ne.symm hne)).trans q, hne⟩, fun b hb => ?_⟩
    · have e1 : ((i + 1 : Nat) : Int) = (i : Int) + 1 := by omega
      rw [e1]; exact he'
    · have hb' : b < s.heap.objs.size := by
        have e' : b = e ∨ b = it := by simpa using hb
        rcases e' with z | z
        · rw [z]; exact hel
        · rw [z]; exact hil
      rw [upd_ne (Nat.ne_of_lt hb')]
      exact (hf b hb).1
  done := by
    intro X hP hw hK hc i pins s σ H E I hf st hg
    subst hP hw hK
    obtain ⟨⟨old, he⟩, hit, hne⟩ := st
    obtain ⟨xs, hq, hx⟩ := hg
    obtain ⟨its, rv, p, hz⟩ := I.list hq
    obtain ⟨f0, f1, f2, f3, f4, f5⟩ := hf it (by simp)
    have hl := rv.length
    exact wpAny_pyNext_enum_end (I.ok.hd hc) he hit p.isList (by simp; omega) fun h' eb => ⟨rfl, I.turned (t' := s.toks) (fun b o hb q => eb b o hb q) f0 f1 f3 f4 f5⟩
  self := fun A i s Q E st h => let ⟨⟨_, he⟩, _⟩ := st; wpAny_pyIter_enum he h
def iEnum (K : PySem.W.Frag) (ta : TA) : TI := fun σ H R => ta σ H fun vs H1 => ∃ a xs, vs = [.ref a] ∧ SqL K H1 a xs ∧ R (Ite K a) H1
theorem pi_enum {X : Cx} {e : Expr} {ta : TA} {p pos tpos : Pos} {elts : List Expr} {kk : Nat} (hg : Gl X "enumerate") (hm : X.mg "enumerate" = none) (ha : PA X [e] ta) (hs : starEach [e] X.env = [(false, eval e X.env)] := by rfl) :
    PI X (.Tuple elts kk tpos) (.Call (.Name "enumerate" p) [e] [] pos) (iEnum X.K ta) := by
  intro pins s σ H R I h
  refine Call_ (ld_blt I hg hm boot_enumerate (PyProof.Rows.callWith_type1 (thn (ha pos pins s σ H _ I h) fun us s1 ⟨vs, H1, I1, r1, q1⟩ => ?_) hs rfl))
  obtain ⟨a, xs, ex, hq, q⟩ := q1
  subst ex
  cases r1 with
  | cons r rr =>
    cases rr
    cases r
    obtain ⟨its, rv, p', hz⟩ := I1.list hq
    refine call_enumerate_list p'.isList fun h' he hit hsz hk => wpAny_pyIter_enum he ?_
    have I2 : Inv X pins σ H1 { s1 with heap := h' } := I1.kept (t' := s1.toks) hk
    refine ⟨s1.heap.objs.size + 1, [s1.heap.objs.size + 1, s1.heap.objs.size], _, _, H1, rfl, I2, turn_enum a (s1.heap.objs.size + 1) s1.heap.objs.size, ⟨⟨.none, he⟩, hit, Nat.succ_ne_self _⟩, fun b hb => ?_, q⟩
    have e' : b = s1.heap.objs.size + 1 ∨ b = s1.heap.objs.size := by simpa using hb
    have hle : s1.heap.objs.size ≤ b := by
      rcases e' with z | z
      · rw [z]; exact Nat.le_add_right _ _
      · rw [z]; exact Nat.le_refl _
    exact I1.fpOk hle (I1.hok.fresh hle)
end L2
section 
namespace Bits
open PySem PyProof.Rows
end Bits
end 
section 
namespace TL
open PySem PySem.Builtin PySem.Builtin.Str PySem.StrLaws
abbrev tl (x : Str) : List Nat := x.cps.toList
theorem len_tl (x : Str) : x.length = (tl x).length := by simp [tl, Str.length]
def pre (S l : List Nat) : Bool := l.take S.length == S
def par (S : List Nat) : List Nat → List Nat → Option (List Nat × List Nat)
  | _, [] => none
  | acc, c :: r => if pre S (c :: r) = true then some (acc, (c :: r).drop S.length) else par S (acc ++ [c]) r
theorem len1 {y : Str} (hy : tl y ≠ []) : 1 ≤ y.length := by
  have e2 : 0 < (tl y).length := List.length_pos_iff.mpr hy
  rw [len_tl y]
  exact e2
end TL
end 
namespace L2
open PySem PySem.Spec PyProof.Rows
section
variable {X : Cx} {pins : List (Addr × Obj)} {σ : St} {H : Hp} {s : Shared} {Q : VK}
end
section
variable {X : Cx}
end
section
variable {X : Cx} {o e : Expr} {to te : TE}
end
end L2
namespace L2
open PySem PySem.Spec PyProof.Rows
section
variable {X : Cx}
end
theorem IsPart.raw {v : Value} {o : Option Int} (p : IsPart v o) : ∃ l : Option (Int × Tok), v = partValue l ∧ l.map (·.1) = o := by
  cases p with
  | none => exact ⟨none, rfl, rfl⟩
  | int i t => exact ⟨some (i, t), rfl, rfl⟩
end L2
namespace Att
open PySem PySem.W PySem.Calls PyProof.Rows
section
variable {prog : Program} {w : World} {A : Around} {E : Value → Shared → Prop} {s : Shared} {K : Frag}
end
end Att
namespace L2
open PySem PySem.Spec PyProof.Rows
end L2
namespace L2
open PySem PySem.Spec PyProof.Rows
end L2
namespace L2
open PySem PySem.Spec PyProof.Rows
def inClass (s : Stmt) (j : Nat) : Stmt := match s with
  | .ClassDef _ _ _ body _ _ _ _ _ _ _ => body.getD j (.Pass ⟨0, 0, 0, 0⟩)
  | _ => .Pass ⟨0, 0, 0, 0⟩
def defArgs (s : Stmt) : Arguments := match s with
  | .FunctionDef _ a _ _ _ _ _ _ _ _ => a
  | _ => { posonlyargs := [], args := [], vararg := none, kwonlyargs := [], kw_defaults := [], kwarg := none, defaults := [] }
def defBody (s : Stmt) : List Stmt := match s with
  | .FunctionDef _ _ b _ _ _ _ _ _ _ => b
  | _ => []
def defScope (s : Stmt) : Scope := match s with
  | .FunctionDef _ _ _ _ _ _ sc _ _ _ => sc
  | _ => { kind := .function, names := [], isGenerator := false, isCoroutine := false }
abbrev CX0 : CXT := fun _ _ _ _ _ _ => False
abbrev E0 : XK := fun _ _ _ => False
theorem pass0 {X : Cx} : Passes CX0 X E0 := fun _ _ _ _ _ _ _ h => h.elim
structure Fun (K : PySem.W.Frag) (x qual : Str) (st : Stmt) (f : Addr) (fd : FuncData) : Prop where
  ex : ∃ (oc : Value) (od : Option Addr) (kV doc pm : Value) (an : Option Addr) (cdv ct : Value) (osl : Array (Option Value)),
    fd = PySem.W.fnOf x qual (defArgs st) (defBody st) (defScope st) .none kV doc pm an cdv ct ∧ K.lookup f = some ⟨oc, od, .func fd, osl⟩ ∧ PySem.W.codeIn K cdv qual = true
  kp : PySem.W.keepIn K (.ref f) = true
section
variable {P : Program} {w : World} {K : PySem.W.Frag} {mg : Str → Option Value} {base : Heap}
theorem Fun.ok {x qual : Str} {st : Stmt} {f : Addr} {fd : FuncData} {N ps : List Str} {k : Nat} {sp : Sp} (F : Fun K x qual st f fd) (S : FnScope N ps (defScope st)) (len : ∀ vs H Q E, sp vs H Q E → vs.length = ps.length)
    (hbody : ∀ (cdv : Value) (A : Around) (outer : List Env) (s : Shared) (H : Hp) (vs : List V) (Q : VK) (E : XK), Room k (A.deeper (envOfC qual (defScope st) s.heap.objs.size f cdv)) → sp vs H Q E →
      ∃ t, PSs (cxOf CX0 P w K mg base N qual (defScope st) f cdv A outer s H E).nox (defBody st) t ∧ t { nx := fun _ H' => Q .non H', rt := Q } (start N vs) H) : FnOk P w K mg base CX0 (k + 1) f fd ps sp := by
  obtain ⟨oc, od, kV, doc, pm, an, cdv, ct, osl, rfl, lk, hcd⟩ := F.ex
  refine fn_of lk hcd S len fun A outer s H vs Q E hr hsp => ?_
  obtain ⟨t, h, q⟩ := hbody cdv A outer s H vs Q E hr hsp
  exact ⟨t, h.nox, q⟩
theorem Fun.binds {x qual : Str} {st : Stmt} {f : Addr} {fd : FuncData} {ps : List Str} (F : Fun K x qual st f fd)
    (h : ∀ (kV doc pm : Value) (an : Option Addr) (cdv ct : Value) (us : List Value), us.length = ps.length → bindArgs (PySem.W.fnOf x qual (defArgs st) (defBody st) (defScope st) .none kV doc pm an cdv ct) ⟨us, []⟩ = pure (ps.zip us)) : Binds K fd ps [] := by
  obtain ⟨oc, od, kV, doc, pm, an, cdv, ct, osl, rfl, lk, hcd⟩ := F.ex
  exact .all (h kV doc pm an cdv ct)
theorem fun_mk {x qual : Str} {st : Stmt} {f : Addr} {oc : Value} {od an : Option Addr} {osl : Array (Option Value)} {kV doc pm cdv ct : Value} (l : K.lookup f = some ⟨oc, od, .func (PySem.W.fnOf x qual (defArgs st) (defBody st) (defScope st) .none kV doc pm an cdv ct), osl⟩)
    (c : PySem.W.codeIn K cdv qual = true) (k : PySem.W.keepIn K (.ref f) = true) : Fun K x qual st f (PySem.W.fnOf x qual (defArgs st) (defBody st) (defScope st) .none kV doc pm an cdv ct) := ⟨⟨oc, od, kV, doc, pm, an, cdv, ct, osl, rfl, l, c⟩, k⟩
end
theorem hu_of {A : Around} {k : Nat} (hr : Room k A) : A.units + 1 < cLine := Nat.lt_of_le_of_lt (Nat.add_le_add_left (by decide : 1 ≤ 64) _) hr.units
theorem small1000 {n : Nat} (h : n ≤ 1000) : n < sizeLine := Nat.lt_of_le_of_lt h (by decide)
section
variable {X : Cx}
theorem pv (i : Nat) {x : Str} {pos : Pos} (hN : X.N[i]? = some x := by rfl) (hv : Vis X.env.scope x := by first | exact Or.inl rfl | exact Or.inr (Or.inl rfl) | exact Or.inr (Or.inr rfl)) (hd : (x == ("__debug__" : Str)) = false := by decide)
    (hcd : (x == ("__classdict__" : Str)) = false := by decide) : PE X (.Name x pos) (tVar i) := pe_var hN hv hd hcd
theorem call_lenD : CallR X (.builtin "len") (fun xs H Q => ∃ a kvs, xs = [V.ref a] ∧ H a = some (.dK kvs) ∧ Q (.int kvs.length) H) := by
  intro pins s σ H xs us Q I r h
  obtain ⟨a, kvs, rfl, ha, q⟩ := h
  obtain ⟨u, rfl, ru⟩ := vals1 r
  cases ru
  exact d_len I (.inl ha) fun t s' I' => ⟨.int kvs.length, H, I', ⟨t, rfl⟩, q⟩
end
theorem iteT {A B : Prop} (h : A) : if true = true then A else B := by
  rw [if_pos rfl]
  exact h
theorem ite2 {c A B : Prop} [Decidable c] (h1 : c → A) (h2 : ¬ c → B) : if c then A else B := by
  by_cases h : c
  · rw [if_pos h]
    exact h1 h
  · rw [if_neg h]
    exact h2 h
def Same (H H' : Hp) : Prop := ∀ b o, H b = some o → H' b = some o
theorem Same.refl (H : Hp) : Same H H := fun _ _ h => h
theorem Same.trans {H H1 H2 : Hp} (a : Same H H1) (b : Same H1 H2) : Same H H2 := fun c o h => b c o (a c o h)
theorem Same.free {H H' : Hp} (e : Same H H') {l : Addr} (h : H' l = Option.none) : H l = Option.none := by
  cases q : H l with
  | none => rfl
  | some o =>
    rw [e l o q] at h
    cases h
theorem Same.seq {K : PySem.W.Frag} {H H' : Hp} {a : Addr} {xs : List V} (e : Same H H') (h : SqL K H a xs) : SqL K H' a xs := by
  rcases h with (h | ⟨o, h⟩) | h
  · exact .inl (.inl (e _ _ h))
  · exact .inl (.inr ⟨o, e _ _ h⟩)
  · exact .inr h
section
variable {κ : Type} [DecidableEq κ]
end
theorem at_of {xs : List V} {z : Int} {j : Nat} {v : V} (e : z = (j : Int)) (h : xs[j]? = some v) : atI xs z = some v := by
  rw [e]
  exact atI_nat h
theorem nd_ix {α : Type} {l : List α} (hN : l.Nodup) {i j : Nat} {x : α} (a : l[i]? = some x) (b : l[j]? = some x) : i = j := by
  obtain ⟨h1, e1⟩ := List.getElem?_eq_some_iff.mp a
  obtain ⟨h2, e2⟩ := List.getElem?_eq_some_iff.mp b
  exact (List.getElem_inj hN).mp (e1.trans e2.symm)
theorem Same.made {H H1 : Hp} {x dx C : Addr} (nx : H x = Option.none) (nd : H dx = Option.none) (k : ∀ b o, (upd (upd H dx (.own x)) x (.ins C dx [])) b = some o → b ≠ x → H1 b = some o) : Same H H1 := fun b o e =>
  k b o (by rw [upd_ne (ne_of_none e nx), upd_ne (ne_of_none e nd)]; exact e) (ne_of_none e nx)
end L2
end
section
section
set_option Elab.async false
set_option linter.all false
set_option maxRecDepth 100000
set_option maxHeartbeats 2000000
namespace L2
open PySem PySem.Spec PyProof.Rows
open PySem.W (WData Codec OpenSpec Well WellAll ReadsW ReadsAllW)
mutual
inductive Dw (K : PySem.W.Frag) (H : Hp) : V → WData → Prop
  | non : Dw K H .non .none
  | bl (b : Bool) : Dw K H (.bl b) (.bool b)
  | int (i : Int) : Dw K H (.int i) (.int i)
  | str (x : Str) : Dw K H (.str x) (.str x)
  | byt (b : Array UInt8) : Dw K H (.byt b) (.bytes b.toList)
  | lst {a : Addr} {xs : List V} {ds : List WData} : SqL K H a xs → DwAll K H xs ds → Dw K H (.ref a) (.list ds)
  | tup {a : Addr} {xs : List V} {ds : List WData} : SqT K H a xs → DwAll K H xs ds → Dw K H (.ref a) (.tuple ds)
inductive DwAll (K : PySem.W.Frag) (H : Hp) : List V → List WData → Prop
  | nil : DwAll K H [] []
  | cons {v : V} {vs : List V} {d : WData} {ds : List WData} : Dw K H v d → DwAll K H vs ds → DwAll K H (v :: vs) (d :: ds)
end
theorem dw_ints {K : PySem.W.Frag} {H : Hp} : ∀ ns : List Int, DwAll K H (ns.map V.int) (ns.map WData.int)
  | [] => .nil
  | n :: r => .cons (.int n) (dw_ints r)
theorem ints_dw {K : PySem.W.Frag} {H : Hp} : ∀ (ns : List Int) (xs : List V), DwAll K H xs (ns.map WData.int) → xs = ns.map V.int
  | [], xs, h => by
    cases h
    rfl
  | n :: r, xs, h => by
    cases h with
    | cons h1 h2 =>
      cases h1
      rw [ints_dw r _ h2] <;> rfl
section
variable {P : Program} {w : World} {K : PySem.W.Frag} {H : Hp} {h : Heap} {R : PySem.W.WRecords} {cl : Str → Option Addr}
theorem sqL_at {a : Addr} {xs : List V} (hok : HOk P w H h) (KX : K.In h) (q : SqL K H a xs) : ∃ (its : List Value) (o : Obj) (n : Nat), Vals xs its ∧ h.get? a = some o ∧ o.cls = .type "list" ∧ o.data = .seq its.toArray n := by
  rcases q with q | ⟨o, its, n, e, hc, _, hd, _, hv⟩
  · obtain ⟨_, its, n, hv, e⟩ := (show ObjOk P w H h a (.lst xs) from q.ok hok)
    exact ⟨its, _, n, hv, e, rfl, rfl⟩
  · exact ⟨its.toList, o, n, hv, KX _ _ e, hc, by simp [hd]⟩
theorem sqT_at {a : Addr} {xs : List V} (hok : HOk P w H h) (KX : K.In h) (q : SqT K H a xs) : ∃ (its : List Value) (o : Obj) (n : Nat), Vals xs its ∧ h.get? a = some o ∧ o.cls = .type "tuple" ∧ o.data = .seq its.toArray n := by
  rcases q with q | ⟨o, its, n, e, hc, hd, _, hv⟩
  · obtain ⟨_, its, hv, o, e, hc, n, hd⟩ := (show ObjOk P w H h a (.tup xs) from q.ok hok)
    exact ⟨its, o, n, hv, e, hc, hd⟩
  · exact ⟨its.toList, o, n, hv, KX _ _ e, hc, by simp [hd]⟩
mutual
theorem Dw.reads (hok : HOk P w H h) (KX : K.In h) : ∀ (d : WData) (v : V) (u : Value), Dw K H v d → RelV v u → ∃ as, ReadsW R cl h u d as
  | .none, _, _, x, r => by
    cases x
    cases r
    exact ⟨_, ReadsW.none⟩
  | .bool b, _, _, x, r => by
    cases x
    cases r
    exact ⟨_, ReadsW.bool b⟩
  | .int i, _, _, x, r => by
    cases x
    obtain ⟨t, rfl⟩ := r
    exact ⟨_, ReadsW.int i t⟩
  | .str s, _, _, x, r => by
    cases x
    obtain ⟨t, rfl⟩ := r
    exact ⟨_, ReadsW.str s t⟩
  | .bytes b, _, _, x, r => by
    cases x
    obtain ⟨t, rfl⟩ := r
    exact ⟨_, ReadsW.bytes _ t⟩
  | .list ds, _, _, x, r => by
    cases x with
    | lst hs ha =>
      cases r
      obtain ⟨its, o, n, rv, ho, hc, hd⟩ := sqL_at hok KX hs
      obtain ⟨as, hr⟩ := Dw.readsAll hok KX ds _ its ha rv
      exact ⟨_, ReadsW.list ho hc hd hr⟩
  | .tuple ds, _, _, x, r => by
    cases x with
    | tup hs ha =>
      cases r
      obtain ⟨its, o, n, rv, ho, hc, hd⟩ := sqT_at hok KX hs
      obtain ⟨as, hr⟩ := Dw.readsAll hok KX ds _ its ha rv
      exact ⟨_, ReadsW.tuple ho hc hd hr⟩
  | .float _, _, _, x, _ => by cases x
  | .dict _, _, _, x, _ => by cases x
  | .bytearray _, _, _, x, _ => by cases x
  | .set _, _, _, x, _ => by cases x
  | .frozenset _, _, _, x, _ => by cases x
  | .obj _ _, _, _, x, _ => by cases x
theorem Dw.readsAll (hok : HOk P w H h) (KX : K.In h) : ∀ (ds : List WData) (vs : List V) (us : List Value), DwAll K H vs ds → Vals vs us → ∃ as, ReadsAllW R cl h us ds as
  | [], _, _, x, r => by
    cases x
    cases r
    exact ⟨_, ReadsAllW.nil⟩
  | d :: ds, _, _, x, r => by
    cases x with
    | cons h1 h2 =>
      cases r with
      | cons r1 r2 =>
        obtain ⟨as, q1⟩ := Dw.reads hok KX d _ _ h1 r1
        obtain ⟨bs, q2⟩ := Dw.readsAll hok KX ds _ _ h2 r2
        exact ⟨_, ReadsAllW.cons q1 q2⟩
end
end
mutual
def plW : WData → Bool
  | .none => true
  | .bool _ => true
  | .int _ => true
  | .str _ => true
  | .bytes _ => true
  | .list xs => plWs xs
  | .tuple xs => plWs xs
  | _ => false
def plWs : List WData → Bool
  | [] => true
  | x :: r => plW x && plWs r
end
theorem plWs_map {α : Type} {f : α → WData} (h : ∀ a, plW (f a) = true) : ∀ l : List α, plWs (l.map f) = true
  | [] => rfl
  | x :: r => by
    show (plW (f x) && plWs (r.map f)) = true
    rw [h x, plWs_map h r] <;> rfl
theorem pl_enc : ∀ (c : Codec) (a : c.denote), plW (c.enc a) = true
  | .unit, _ => rfl
  | .bool, _ => rfl
  | .int _ _, _ => rfl
  | .nat _ _, _ => rfl
  | .u8, _ => rfl
  | .bytes _ _, _ => rfl
  | .text _ _ _ _, _ => rfl
  | .list _ _ c, a => plWs_map (fun x => pl_enc c x) a
  | .pair c d, a => by
    show (plW (c.enc a.1) && (plW (d.enc a.2) && true)) = true
    rw [pl_enc c a.1, pl_enc d a.2] <;> rfl
  | .triple c d e, a => by
    show (plW (c.enc a.1) && (plW (d.enc a.2.1) && (plW (e.enc a.2.2) && true))) = true
    rw [pl_enc c a.1, pl_enc d a.2.1, pl_enc e a.2.2] <;> rfl
  | .option c, none => rfl
  | .option c, some x => pl_enc c x
theorem pl_encAll : ∀ (cs : List Codec) (a : Codec.denoteAll cs), plWs (Codec.encAll cs a) = true
  | [], _ => rfl
  | c :: cs, a => by
    show (plW (c.enc a.1) && plWs (Codec.encAll cs a.2)) = true
    rw [pl_enc c a.1, pl_encAll cs a.2] <;> rfl
theorem weight_mem : ∀ {xs : List WData} {d : WData}, d ∈ xs → d.weight ≤ WData.weightAll xs
  | [], d, h => absurd h (by simp)
  | x :: r, d, h => by
    show d.weight ≤ x.weight + 1 + WData.weightAll r
    rcases List.mem_cons.mp h with e | m
    · rw [e]
      omega
    · have z := weight_mem m
      omega
def toV : Value → V
  | .none => .non
  | .bool b => .bl b
  | .int i _ => .int i
  | .str x _ => .str x
  | .bytes b _ => .byt b
  | .ref a => .ref a
  | _ => .non
def OkU (A : List Addr) : Value → Prop
  | .none => True
  | .bool _ => True
  | .int _ _ => True
  | .str _ _ => True
  | .bytes _ _ => True
  | .ref a => a ∈ A
  | _ => False
theorem OkU.mono {A B : List Addr} (h : ∀ a ∈ A, a ∈ B) : ∀ {u : Value}, OkU A u → OkU B u := fun {u} x => by
  cases u with
  | ref a => exact h a x
  | none => trivial
  | bool b => trivial
  | int i t => trivial
  | str s t => trivial
  | bytes b t => trivial
  | _ => exact False.elim x
theorem relV_toV {A : List Addr} {u : Value} (x : OkU A u) : RelV (toV u) u := by
  cases u with
  | ref a => rfl
  | none => rfl
  | bool b => rfl
  | int i t => exact ⟨t, rfl⟩
  | str s t => exact ⟨t, rfl⟩
  | bytes b t => exact ⟨t, rfl⟩
  | _ => exact False.elim x
theorem vals_toV {A : List Addr} : ∀ {vs : List Value}, (∀ u ∈ vs, OkU A u) → Vals (vs.map toV) vs
  | [], _ => .nil
  | u :: r, h => .cons (relV_toV (h u (List.mem_cons_self ..))) (vals_toV fun x hx => h x (List.mem_cons_of_mem _ hx))
def ArgOb (h : Heap) (A : List Addr) (a : Addr) : Prop := ∃ vs : List Value, vs.length ≤ sizeLine ∧ (∀ u ∈ vs, OkU A u) ∧
  (h.get? a = some { cls := .type "list", data := .seq vs.toArray } ∨ h.get? a = some { cls := .type "tuple", data := .seq vs.toArray })
theorem ArgOb.mono {h : Heap} {A B : List Addr} {a : Addr} (k : ∀ a ∈ A, a ∈ B) (x : ArgOb h A a) : ArgOb h B a := by
  obtain ⟨vs, h1, h2, h3⟩ := x
  exact ⟨vs, h1, fun u hu => (h2 u hu).mono k, h3⟩
theorem wellAll_len {P : Params} {h : Heap} : ∀ {vs : List Value} {ds : List WData}, WellAll P h vs ds → vs.length = ds.length
  | _, _, .nil => rfl
  | _, _, .cons _ b => by
    show _ + 1 = _ + 1
    rw [wellAll_len b]
theorem well_list {P : Params} {h : Heap} {v : Value} {ds : List WData} (x : Well P h v (.list ds)) : ∃ (a : Addr) (vs : List Value), v = .ref a ∧ h.get? a = some { cls := .type "list", data := .seq vs.toArray } ∧ WellAll P h vs ds := by
  cases x with
  | list ho hall => exact ⟨_, _, rfl, ho, hall⟩
theorem well_tuple {P : Params} {h : Heap} {v : Value} {ds : List WData} (x : Well P h v (.tuple ds)) : ∃ (a : Addr) (vs : List Value), v = .ref a ∧ h.get? a = some { cls := .type "tuple", data := .seq vs.toArray } ∧ WellAll P h vs ds := by
  cases x with
  | tuple ho hall => exact ⟨_, _, rfl, ho, hall⟩
theorem well_cons {P : Params} {h : Heap} {us : List Value} {d : WData} {ds : List WData} (x : WellAll P h us (d :: ds)) : ∃ (v : Value) (vs : List Value), us = v :: vs ∧ Well P h v d ∧ WellAll P h vs ds := by
  cases x with
  | cons a b => exact ⟨_, _, rfl, a, b⟩
theorem line_of {n : Nat} (h : n ≤ 1048576) : n ≤ sizeLine := Nat.le_trans h (by decide)
section
variable {P : Params} {h : Heap}
mutual
theorem area_one : ∀ (d : WData) (v : Value), Well P h v d → plW d = true → d.weight ≤ 1048576 → ∃ A : List Addr, OkU A v ∧ ∀ a ∈ A, ArgOb h A a
  | .none, _, x, _, _ => by
    cases x
    exact ⟨[], trivial, fun a m => absurd m (by simp)⟩
  | .bool b, _, x, _, _ => by
    cases x
    exact ⟨[], trivial, fun a m => absurd m (by simp)⟩
  | .int i, _, x, _, _ => by
    cases x
    exact ⟨[], trivial, fun a m => absurd m (by simp)⟩
  | .str s, _, x, _, _ => by
    cases x
    exact ⟨[], trivial, fun a m => absurd m (by simp)⟩
  | .bytes b, _, x, _, _ => by
    cases x
    exact ⟨[], trivial, fun a m => absurd m (by simp)⟩
  | .list ds, _, x, p, z => by
    obtain ⟨a, vs, rfl, ho, hall⟩ := well_list x
    have z2 : WData.weightAll ds ≤ 1048576 := z
    obtain ⟨A, h1, h2⟩ := area_all ds _ hall p fun d hd => Nat.le_trans (weight_mem hd) z2
    have k : ∀ b ∈ A, b ∈ a :: A := fun b hb => List.mem_cons_of_mem _ hb
    refine ⟨a :: A, List.mem_cons_self .., fun b hb => ?_⟩
    rcases List.mem_cons.mp hb with e | m
    · rw [e]
      exact ⟨vs, line_of (by rw [wellAll_len hall]; exact Nat.le_trans (PySem.W.length_le_weightAllW ds) z2), fun u hu => (h1 u hu).mono k, .inl ho⟩
    · exact (h2 b m).mono k
  | .tuple ds, _, x, p, z => by
    obtain ⟨a, vs, rfl, ho, hall⟩ := well_tuple x
    have z2 : WData.weightAll ds ≤ 1048576 := z
    obtain ⟨A, h1, h2⟩ := area_all ds _ hall p fun d hd => Nat.le_trans (weight_mem hd) z2
    have k : ∀ b ∈ A, b ∈ a :: A := fun b hb => List.mem_cons_of_mem _ hb
    refine ⟨a :: A, List.mem_cons_self .., fun b hb => ?_⟩
    rcases List.mem_cons.mp hb with e | m
    · rw [e]
      exact ⟨vs, line_of (by rw [wellAll_len hall]; exact Nat.le_trans (PySem.W.length_le_weightAllW ds) z2), fun u hu => (h1 u hu).mono k, .inr ho⟩
    · exact (h2 b m).mono k
  | .float _, _, _, p, _ => Bool.noConfusion (show false = true from p)
  | .dict _, _, _, p, _ => Bool.noConfusion (show false = true from p)
  | .bytearray _, _, _, p, _ => Bool.noConfusion (show false = true from p)
  | .set _, _, _, p, _ => Bool.noConfusion (show false = true from p)
  | .frozenset _, _, _, p, _ => Bool.noConfusion (show false = true from p)
  | .obj _ _, _, _, p, _ => Bool.noConfusion (show false = true from p)
theorem area_all : ∀ (ds : List WData) (vs : List Value), WellAll P h vs ds → plWs ds = true → (∀ d ∈ ds, d.weight ≤ 1048576) → ∃ A : List Addr, (∀ u ∈ vs, OkU A u) ∧ ∀ a ∈ A, ArgOb h A a
  | [], _, x, _, _ => by
    cases x
    exact ⟨[], fun u m => absurd m (by simp), fun a m => absurd m (by simp)⟩
  | d :: ds, _, x, p, z => by
    obtain ⟨v, vs, rfl, x1, x2⟩ := well_cons x
    have q : plW d = true ∧ plWs ds = true := Bool.and_eq_true_iff.mp p
    obtain ⟨A, a1, a2⟩ := area_one d v x1 q.1 (z d (List.mem_cons_self ..))
    obtain ⟨B, b1, b2⟩ := area_all ds vs x2 q.2 fun e he => z e (List.mem_cons_of_mem _ he)
    have kA : ∀ b ∈ A, b ∈ A ++ B := fun b hb => List.mem_append.mpr (.inl hb)
    have kB : ∀ b ∈ B, b ∈ A ++ B := fun b hb => List.mem_append.mpr (.inr hb)
    refine ⟨A ++ B, fun u hu => ?_, fun b hb => ?_⟩
    · rcases List.mem_cons.mp hu with e | m
      · rw [e]
        exact a1.mono kA
      · exact (b1 u m).mono kB
    · rcases List.mem_append.mp hb with m | m
      · exact (a2 b m).mono kA
      · exact (b2 b m).mono kB
end
end
def hoOf (o : Obj) : Option HO := match o.data with
  | .seq vs _ => if (o.cls == Value.type "list") = true then some (.frz o (.lst (vs.toList.map toV))) else some (.frz o (.tup (vs.toList.map toV)))
  | _ => none
def argH (K : PySem.W.Frag) (h : Heap) (A : List Addr) : Hp := fun b => if b ∈ A then (if (K.lookup b).isNone = true then (h.get? b).bind hoOf else none) else none
def OnlyF (H : Hp) : Prop := ∀ b, H b = none ∨ ∃ o u, H b = some (.frz o u)
theorem hoOf_lst (vs : List Value) : hoOf { cls := .type "list", data := .seq vs.toArray } = some (.frz { cls := .type "list", data := .seq vs.toArray } (.lst (vs.map toV))) := by
  show (if (Value.type "list" == Value.type "list") = true then some (HO.frz { cls := .type "list", data := .seq vs.toArray } (.lst (vs.toArray.toList.map toV))) else some (HO.frz { cls := .type "list", data := .seq vs.toArray } (.tup (vs.toArray.toList.map toV)))) = _
  rw [if_pos (beq_self_eq_true _)]
theorem hoOf_tup (vs : List Value) : hoOf { cls := .type "tuple", data := .seq vs.toArray } = some (.frz { cls := .type "tuple", data := .seq vs.toArray } (.tup (vs.map toV))) := by
  show (if (Value.type "tuple" == Value.type "list") = true then some (HO.frz { cls := .type "tuple", data := .seq vs.toArray } (.lst (vs.toArray.toList.map toV))) else some (HO.frz { cls := .type "tuple", data := .seq vs.toArray } (.tup (vs.toArray.toList.map toV)))) = _
  rw [if_neg (by decide)]
section
variable {P : Program} {w : World} {K : PySem.W.Frag} {h : Heap} {A : List Addr}
theorem argH_at {b : Addr} {o : Obj} (hb : b ∈ A) (hk : K.lookup b = none) (e : h.get? b = some o) : argH K h A b = hoOf o := by
  unfold argH
  rw [if_pos hb, hk, if_pos (show (none : Option Obj).isNone = true from rfl), e] <;> rfl
theorem of_argH {b : Addr} {u : HO} (q : argH K h A b = some u) : b ∈ A ∧ K.lookup b = none := by
  unfold argH at q
  by_cases hb : b ∈ A
  · rw [if_pos hb] at q
    cases hk : K.lookup b with
    | none => exact ⟨hb, rfl⟩
    | some o =>
      rw [hk, if_neg (by simp)] at q
      cases q
  · rw [if_neg hb] at q
    cases q
theorem argH_is (ar : ∀ a ∈ A, ArgOb h A a) {b : Addr} {u : HO} (q : argH K h A b = some u) : K.lookup b = none ∧ ∃ vs : List Value, vs.length ≤ sizeLine ∧ (∀ u ∈ vs, OkU A u) ∧
    ((h.get? b = some { cls := .type "list", data := .seq vs.toArray } ∧ u = .frz { cls := .type "list", data := .seq vs.toArray } (.lst (vs.map toV))) ∨
     (h.get? b = some { cls := .type "tuple", data := .seq vs.toArray } ∧ u = .frz { cls := .type "tuple", data := .seq vs.toArray } (.tup (vs.map toV)))) := by
  obtain ⟨hb, hk⟩ := of_argH q
  obtain ⟨vs, h1, h2, h3⟩ := ar b hb
  refine ⟨hk, vs, h1, h2, ?_⟩
  rcases h3 with e | e
  · rw [argH_at hb hk e, hoOf_lst] at q
    exact .inl ⟨e, (Option.some.inj q).symm⟩
  · rw [argH_at hb hk e, hoOf_tup] at q
    exact .inr ⟨e, (Option.some.inj q).symm⟩
theorem argH_only (ar : ∀ a ∈ A, ArgOb h A a) : OnlyF (argH K h A) := fun b => by
  cases q : argH K h A b with
  | none => exact .inl rfl
  | some u =>
    obtain ⟨_, vs, _, _, ⟨_, e⟩ | ⟨_, e⟩⟩ := argH_is ar q
    · exact .inr ⟨_, _, by rw [e]⟩
    · exact .inr ⟨_, _, by rw [e]⟩
theorem argH_ok (ar : ∀ a ∈ A, ArgOb h A a) : HOk P w (argH K h A) h := fun b u q => by
  obtain ⟨_, vs, h1, h2, ⟨e, rfl⟩ | ⟨e, rfl⟩⟩ := argH_is ar q
  · exact ⟨e, by rw [List.length_map]; exact h1, vs, _, vals_toV h2, e⟩
  · exact ⟨e, by rw [List.length_map]; exact h1, vs, vals_toV h2, _, e, rfl, _, rfl⟩
theorem seq_inj {c c' : Value} {vs us : List Value} (e : (some { cls := c, data := .seq vs.toArray } : Option Obj) = some { cls := c', data := .seq us.toArray }) : c = c' ∧ vs = us := by
  have e1 := Option.some.inj e
  have e2 : c = c' := congrArg Obj.cls e1
  have e3 : Data.seq vs.toArray = Data.seq us.toArray := congrArg Obj.data e1
  injection e3 with e4
  refine ⟨e2, ?_⟩
  have e5 := congrArg Array.toList e4
  simpa using e5
theorem argL (KX : K.In h) (ar : ∀ a ∈ A, ArgOb h A a) {a : Addr} {vs : List Value} (ha : a ∈ A) (e : h.get? a = some { cls := .type "list", data := .seq vs.toArray }) : (∀ u ∈ vs, OkU A u) ∧ SqL K (argH K h A) a (vs.map toV) := by
  obtain ⟨us, h1, h2, h3⟩ := ar a ha
  have hu : us = vs := by
    rcases h3 with q | q
    · rw [e] at q
      exact (seq_inj q).2.symm
    · rw [e] at q
      exact absurd (Value.type.inj (seq_inj q).1) (by decide)
  subst hu
  refine ⟨h2, ?_⟩
  cases hk : K.lookup a with
  | none => exact .inl (.inr ⟨_, by rw [argH_at ha hk e, hoOf_lst]⟩)
  | some o =>
    have e2 := KX a o hk
    rw [e] at e2
    obtain rfl := Option.some.inj e2
    exact .inr ⟨_, us.toArray, _, hk, rfl, rfl, rfl, by rw [List.size_toArray]; exact h1, by simpa using vals_toV h2⟩
theorem argT (KX : K.In h) (ar : ∀ a ∈ A, ArgOb h A a) {a : Addr} {vs : List Value} (ha : a ∈ A) (e : h.get? a = some { cls := .type "tuple", data := .seq vs.toArray }) : (∀ u ∈ vs, OkU A u) ∧ SqT K (argH K h A) a (vs.map toV) := by
  obtain ⟨us, h1, h2, h3⟩ := ar a ha
  have hu : us = vs := by
    rcases h3 with q | q
    · rw [e] at q
      exact absurd (Value.type.inj (seq_inj q).1) (by decide)
    · rw [e] at q
      exact (seq_inj q).2.symm
  subst hu
  refine ⟨h2, ?_⟩
  cases hk : K.lookup a with
  | none => exact .inl (.inr ⟨_, by rw [argH_at ha hk e, hoOf_tup]⟩)
  | some o =>
    have e2 := KX a o hk
    rw [e] at e2
    obtain rfl := Option.some.inj e2
    exact .inr ⟨_, us.toArray, _, hk, rfl, rfl, by rw [List.size_toArray]; exact h1, by simpa using vals_toV h2⟩
mutual
theorem dw_one {Pm : Params} (KX : K.In h) (ar : ∀ a ∈ A, ArgOb h A a) : ∀ (d : WData) (v : Value), Well Pm h v d → plW d = true → OkU A v → Dw K (argH K h A) (toV v) d
  | .none, _, x, _, _ => by
    cases x
    exact .non
  | .bool b, _, x, _, _ => by
    cases x
    exact .bl b
  | .int i, _, x, _, _ => by
    cases x
    exact .int i
  | .str s, _, x, _, _ => by
    cases x
    exact .str s
  | .bytes b, _, x, _, _ => by
    cases x
    have z := Dw.byt (K := K) (H := argH K h A) b.toArray
    exact z
  | .list ds, _, x, p, hu => by
    obtain ⟨a, vs, rfl, ho, hall⟩ := well_list x
    obtain ⟨h2, hs⟩ := argL KX ar hu ho
    exact .lst hs (dw_all KX ar ds _ hall p h2)
  | .tuple ds, _, x, p, hu => by
    obtain ⟨a, vs, rfl, ho, hall⟩ := well_tuple x
    obtain ⟨h2, hs⟩ := argT KX ar hu ho
    exact .tup hs (dw_all KX ar ds _ hall p h2)
  | .float _, _, _, p, _ => Bool.noConfusion (show false = true from p)
  | .dict _, _, _, p, _ => Bool.noConfusion (show false = true from p)
  | .bytearray _, _, _, p, _ => Bool.noConfusion (show false = true from p)
  | .set _, _, _, p, _ => Bool.noConfusion (show false = true from p)
  | .frozenset _, _, _, p, _ => Bool.noConfusion (show false = true from p)
  | .obj _ _, _, _, p, _ => Bool.noConfusion (show false = true from p)
theorem dw_all {Pm : Params} (KX : K.In h) (ar : ∀ a ∈ A, ArgOb h A a) : ∀ (ds : List WData) (vs : List Value), WellAll Pm h vs ds → plWs ds = true → (∀ u ∈ vs, OkU A u) → DwAll K (argH K h A) (vs.map toV) ds
  | [], _, x, _, _ => by
    cases x
    exact .nil
  | d :: ds, _, x, p, hu => by
    obtain ⟨v, vs, rfl, x1, x2⟩ := well_cons x
    have q : plW d = true ∧ plWs ds = true := Bool.and_eq_true_iff.mp p
    exact .cons (dw_one KX ar d v x1 q.1 (hu _ (List.mem_cons_self ..))) (dw_all KX ar ds vs x2 q.2 fun u m => hu u (List.mem_cons_of_mem _ m))
end
end
theorem spec_call {P : Program} {w : World} {K : PySem.W.Frag} {mg mb : Str → Option Value} {CX : CXT} {k : Nat} {fa : Addr} {fd : FuncData} {ps : List Str} {sp : Sp} {s₁ : Shared} {vals : List Value} {ds : List WData} {R : PySem.W.WRecords} {cl : Str → Option Addr} {d0 : WData}
    (KX : K.In s₁.heap) (hns : s₁.heap.Ns mainGlobals mg) (hb : s₁.heap.Ns builtinsNs mb) (hbb : ∀ x : Str, x ≠ "__name__" → mb x = bootBuiltins x) (hlim : s₁.heap.NoLimit) (hg : s₁.gens = #[])
    (hwl : WellAll w.params s₁.heap vals ds) (hpl : plWs ds = true) (hwt : ∀ d ∈ ds, d.weight ≤ 1048576) (hr : Room k callerA)
    (F : ∀ base : Heap, K.In base → base.Ns mainGlobals mg → FnOk P w K mg base CX k fa fd ps sp) (hbind : ∀ (s : Shared) (us : List Value), us.length = ps.length → BindsTo s fd ⟨us, []⟩ (ps.zip us)) (hlen : ds.length = ps.length)
    (hsp : ∀ (H : Hp) (xs : List V), OnlyF H → DwAll K H xs ds → sp xs H (fun v H' => Dw K H' v d0) fun _ _ _ => False)
    (hCX : ∀ H e s', CX [] H s₁ (fun _ _ _ => False) e s' → False) :
    codeAny (model P w) callerA (.call (.ref fa) ⟨vals, []⟩) (fun r s' => ∃ u as, r = .ok (.ret u) ∧ ReadsW R cl s'.heap u d0 as ∧ OldK s₁.heap s'.heap ∧ s'.os = s₁.os ∧ AllBare s'.gens) s₁ := by
  obtain ⟨A, ho, ar⟩ := area_all ds vals hwl hpl hwt
  have hO : OnlyF (argH K s₁.heap A) := argH_only ar
  have hok : HOk P w (argH K s₁.heap A) s₁.heap := argH_ok ar
  have hS := dw_all KX ar ds vals hwl hpl ho
  have hV := vals_toV ho
  have hK : ∀ b u, argH K s₁.heap A b = some u → K.lookup b = none := fun b u q => (argH_is ar q).1
  have noA : ∀ {b : Addr} {o : Obj} {es : Array DictEntry} {ep : Nat}, s₁.heap.get? b = some o → o.data = .dict es ep → argH K s₁.heap A b = none := fun {b o es ep} e d => by
    cases q : argH K s₁.heap A b with
    | none => rfl
    | some u =>
      obtain ⟨_, vs, _, _, ⟨e2, _⟩ | ⟨e2, _⟩⟩ := argH_is ar q
      · rw [e2] at e
        cases e
        have d' : Data.seq vs.toArray _ = Data.dict es ep := d
        cases d'
      · rw [e2] at e
        cases e
        have d' : Data.seq vs.toArray _ = Data.dict es ep := d
        cases d'
  generalize argH K s₁.heap A = H at hO hok hS hK noA
  have base_of : ∀ {b : Addr} {o : Obj}, s₁.heap.get? b = some o → H b = none → (hidT s₁.heap H).get? b = some o := fun e n => hidT_get e n
  have nsK : ∀ {b : Addr} {m : Str → Option Value}, s₁.heap.Ns b m → (hidT s₁.heap H).Ns b m := fun {b m} ⟨o, es, ep, e, d, r⟩ => ⟨o, es, ep, base_of e (noA e d), d, r⟩
  have nK : ∀ b o, K.lookup b = some o → H b = none := fun b o e => by
    cases q : H b with
    | none => rfl
    | some u =>
      rw [hK b u q] at e
      cases e
  have hKb : K.In (hidT s₁.heap H) := fun b o e => base_of (KX b o e) (nK b o e)
  have hM : Mod K mg (hidT s₁.heap H) := ⟨hKb, nsK hns, ⟨mb, nsK hb, hbb⟩, let ⟨mc, h1, h2⟩ := hlim; ⟨mc, nsK h1, h2⟩⟩
  have e0 : Env0 P w K mg (hidT s₁.heap H) callerA [] s₁ H := ⟨rfl, hM, fun b o e => of_hidT e, Nat.le_of_eq (hidT_size _ _), trivial, fun b hb => absurd (show b ∈ ([] : List Addr) from hb) (by simp), hok, .of_eq hg⟩
  have hl : vals.length = ps.length := by rw [wellAll_len hwl]; exact hlen
  refine codeAny_mono ((F _ hKb (nsK hns)).run callerA [] s₁ H ⟨vals, []⟩ vals (vals.map toV) _ _ hr e0 (hbind s₁ vals hl) hV (hsp H _ hO hS)) fun r s' x => ?_
  cases r with
  | error e => exact (hCX H e s' x).elim
  | ok fl =>
    cases fl with
    | next => exact False.elim x
    | brk => exact False.elim x
    | cont => exact False.elim x
    | ret u =>
      obtain ⟨v, H', os, bare, un, hok', r', q⟩ := x
      have kept : ∀ b o, s₁.heap.get? b = some o → s'.heap.get? b = some o := fun b o e => by
        cases q2 : H b with
        | none => exact un.keep b o e q2 (by intro z; exact absurd (show b ∈ ([] : List Addr) from z) (by simp)) (by simp)
        | some u2 =>
          rcases hO b with z | ⟨ob, u3, z⟩
          · rw [q2] at z
            cases z
          · have z2 := un.frzs b ob _ z
            obtain ⟨e1, _⟩ := hok b _ z
            obtain ⟨e2, _⟩ := hok' b _ z2
            rw [e] at e1
            cases e1
            exact e2
      have KX' : K.In s'.heap := fun b o e => kept b o (KX b o e)
      obtain ⟨as, hrd⟩ := Dw.reads (R := R) (cl := cl) hok' KX' d0 v u q r'
      exact ⟨u, as, rfl, hrd, OldK.of_keep kept, os, bare⟩
theorem layable_weight {ds : List WData} (h : WData.layableAll ds = true) : ∀ d ∈ ds, d.weight ≤ 1048576 := fun d hd =>
  (PySem.W.layableW_iff.mp (List.all_eq_true.mp h d hd)).2.2
theorem encAll_len : ∀ (cs : List Codec) (a : Codec.denoteAll cs), (Codec.encAll cs a).length = cs.length
  | [], _ => rfl
  | c :: cs, a => by
    show (Codec.encAll cs a.2).length + 1 = cs.length + 1
    rw [encAll_len cs a.2]
theorem walk_spec {r : OpenSpec} {k : Nat} {q : Program} {loose : List Str} {XP : (Str → Option Value) → Heap → Prop} {YP : World → Heap → Prop} {d : DefRec} {K : Params → PySem.W.Frag} {CX : World → CXT} {ps : List Str} {sp : World → Sp}
    (hwell : r.wellSaid = true) (hdf : d.params.defaults = []) (hlen : r.args.length = ps.length) (hr : Room k callerA)
    (hY : ∀ (w : World) (h : Heap), YP w h → (K w.params).In h)
    (F : ∀ (w : World) (mg : Str → Option Value) (fa : Addr) (h : Heap), YP w h → (K w.params).In h → h.Ns mainGlobals mg → mg d.name = some (.ref fa) →
      ∃ fd : FuncData, (∀ (s : Shared) (us : List Value), us.length = ps.length → BindsTo s fd ⟨us, []⟩ (ps.zip us)) ∧
        ∀ base : Heap, (K w.params).In base → base.Ns mainGlobals mg → FnOk r.prog w (K w.params) mg base (CX w) k fa fd ps (sp w))
    (hsp : ∀ (w : World) (H : Hp) (xs : List V) (a : Codec.denoteAll r.args), OnlyF H → Codec.withinAll r.args a = true → Codec.app r.args r.asked a = true → DwAll (K w.params) H xs (Codec.encAll r.args a) →
      sp w xs H (fun v H' => Dw (K w.params) H' v (r.ret.enc (Codec.app r.args r.f a))) fun _ _ _ => False)
    (hCX : ∀ (w : World) (H : Hp) (s : Shared) (e : Value) (s' : Shared), CX w [] H s (fun _ _ _ => False) e s' → False) :
    PySem.W.WalkOS q loose XP YP r d [] (fun f vs => PySem.call f vs) := by
  intro w s_0 s₁ mg mb G Y fa o pm cd doc dV kV ho hd hcd hD hmg hg args vals as hpre hlay hrd hwl hlo
  obtain ⟨a, e1, e2⟩ := PySem.W.os_pre_some hpre
  obtain ⟨e3, hwi⟩ := Codec.encAll_of_decAll r.args args a e1
  subst e3
  have KX := hY w _ Y
  obtain ⟨fd, hb, hF⟩ := F w mg fa _ Y KX G.T.g hmg
  refine PySem.W.enter_call (codeAny_mono (spec_call (R := []) (cl := classAt s_0.heap) (d0 := r.ret.enc (Codec.app r.args r.f a)) KX G.T.g G.T.b G.T.builtins G.T.nolimit hg hwl (pl_encAll _ _) (layable_weight hlay) hr hF hb (by rw [encAll_len]; exact hlen)
    (fun H xs hO hS => hsp w H xs a hO hwi e2 hS) fun H e s' => hCX w H s₁ e s') fun r' s' hq => ?_)
  obtain ⟨u, as', rfl, h1, h2, h3, h4⟩ := hq
  exact ⟨.inl ⟨u, _, as', rfl, fun _ => rfl, h1, (OpenSpec.post_iff hwell hwi _ _).mpr rfl, fun z => Bool.noConfusion (show false = true from z)⟩, h2, h3, h4⟩
theorem walk_specK {r : OpenSpec} {k : Nat} {q : Program} {loose : List Str} {XP : (Str → Option Value) → Heap → Prop} {YP : World → Heap → Prop} {d : DefRec} {K : Params → PySem.W.Frag} {CX : CXT} {ps : List Str} {sp : PySem.W.Frag → Sp}
    (hwell : r.wellSaid = true) (hdf : d.params.defaults = []) (hlen : r.args.length = ps.length) (hr : Room k callerA)
    (hY : ∀ (w : World) (h : Heap), YP w h → (K w.params).In h)
    (F : ∀ (w : World) (mg : Str → Option Value) (fa : Addr) (h : Heap), YP w h → (K w.params).In h → h.Ns mainGlobals mg → mg d.name = some (.ref fa) →
      ∃ fd : FuncData, (∀ (s : Shared) (us : List Value), us.length = ps.length → BindsTo s fd ⟨us, []⟩ (ps.zip us)) ∧
        ∀ base : Heap, (K w.params).In base → base.Ns mainGlobals mg → FnOk r.prog w (K w.params) mg base CX k fa fd ps (sp (K w.params)))
    (hsp : ∀ (K : PySem.W.Frag) (H : Hp) (xs : List V) (a : Codec.denoteAll r.args), OnlyF H → Codec.withinAll r.args a = true → Codec.app r.args r.asked a = true → DwAll K H xs (Codec.encAll r.args a) →
      sp K xs H (fun v H' => Dw K H' v (r.ret.enc (Codec.app r.args r.f a))) fun _ _ _ => False)
    (hCX : ∀ (H : Hp) (s : Shared) (e : Value) (s' : Shared), CX [] H s (fun _ _ _ => False) e s' → False) :
    PySem.W.WalkOS q loose XP YP r d [] (fun f vs => PySem.call f vs) :=
  walk_spec (K := K) (CX := fun _ => CX) (sp := fun w => sp (K w.params)) hwell hdf hlen hr hY F (fun w H xs a h1 h2 h3 h4 => hsp (K w.params) H xs a h1 h2 h3 h4) fun _ H s e s' => hCX H s e s'
end L2
end
end
section
set_option linter.all false
namespace Cw
open Su55
theorem len_le_of_nodup_subset {α : Type} [BEq α] [LawfulBEq α] : ∀ {l m : List α}, l.Nodup → (∀ x ∈ l, x ∈ m) → l.length ≤ m.length
  | [], m, _, _ => Nat.zero_le _
  | a :: l, m, hn, hs => by
    have ha : a ∈ m := hs a (List.mem_cons_self ..)
    have h1 : l.Nodup := (List.nodup_cons.mp hn).2
    have h2 : ∀ x ∈ l, x ∈ m.erase a := fun x hx => by
      have hne : x ≠ a := fun e => (List.nodup_cons.mp hn).1 (e ▸ hx)
      exact (List.mem_erase_of_ne hne).mpr (hs x (List.mem_cons_of_mem _ hx))
    have h3 := len_le_of_nodup_subset h1 h2
    rw [List.length_erase_of_mem ha] at h3
    have h4 : 0 < m.length := List.length_pos_of_mem ha
    show l.length + 1 ≤ m.length
    omega
theorem pairs_le {L : List Nat} {ks : List (Nat × Nat)} (hn : ks.Nodup) (hs : ∀ x ∈ ks, x.1 ∈ L ∧ x.2 ∈ L) : ks.length ≤ L.length * L.length := by
  have h := len_le_of_nodup_subset (m := L.flatMap fun a => L.map fun b => (a, b)) hn (fun x hx => by
    obtain ⟨h1, h2⟩ := hs x hx
    exact List.mem_flatMap.mpr ⟨x.1, h1, List.mem_map.mpr ⟨x.2, h2, rfl⟩⟩)
  have e : ∀ (A B : List Nat), (A.flatMap fun a => B.map fun b => (a, b)).length = A.length * B.length := by
    intro A B
    induction A with
    | nil => simp
    | cons a A ih => rw [List.flatMap_cons, List.length_append, ih, List.length_map, List.length_cons, Nat.succ_mul]; omega
  rw [e] at h
  exact h
def cand (x : Step) (m : Move) : Step := (moved x.1 m.1 m.2, m :: x.2)
def put1 (fit : Hands → Bool) (S : List Step) (y : Step) : List Step := if !(S.any fun z => z.1 == y.1) && fit y.1 then S ++ [y] else S
def inner (fit : Hands → Bool) (M : List Move) (x : Step) (S : List Step) : List Step := M.foldl (fun S m => put1 fit S (cand x m)) S
def outer (fit : Hands → Bool) (M : List Move) (w S : List Step) : List Step := w.foldl (fun S x => inner fit M x S) S
def mvs (l : List Nat) : List Move := l.map (fun h => (0, h)) ++ l.map (fun h => (1, h))
theorem mvs_spec (l : List Nat) : ([0, 1].flatMap fun k => l.map fun h => (k, h)) = mvs l := by
  simp [mvs, List.flatMap_cons]
theorem mvs_filter (p : Nat → Bool) (l : List Nat) : (mvs l).filter (fun m => p m.2) = mvs (l.filter p) := by
  simp [mvs, List.filter_append, List.filter_map, Function.comp_def]
def gSpec (seen : List Hands) (n : List Step) (y : Step) : List Step := if seen.contains y.1 || n.any (fun z => z.1 == y.1) then n else n ++ [y]
theorem any_keys (S : List Step) (k : Hands) : (S.any fun z => z.1 == k) = (S.map (·.1)).contains k := by
  induction S with
  | nil => rfl
  | cons y S ih =>
    rw [List.any_cons, ih, List.map_cons, List.contains_cons]
    congr 1
    exact Bool.beq_comm
theorem put1_app (fit : Hands → Bool) (S n : List Step) (y : Step) (hf : fit y.1 = true) : put1 fit (S ++ n) y = S ++ gSpec (S.map (·.1)) n y := by
  unfold put1 gSpec
  rw [List.any_append, any_keys S, hf]
  cases h : ((S.map (·.1)).contains y.1 || n.any fun z => z.1 == y.1) <;> simp
theorem put1_no (fit : Hands → Bool) (S : List Step) (y : Step) (h : fit y.1 = false ∨ y.1 ∈ S.map (·.1)) : put1 fit S y = S := by
  unfold put1
  rcases h with h | h
  · rw [h]; simp
  · rw [any_keys, List.contains_iff_mem.mpr h]; simp
theorem inner_eq (a : Abs) (reach s : Nat) (x : Step) (S : List Step) (hx : x.1 ∈ S.map (·.1)) : ∀ (M : List Move) (n : List Step), (∀ m ∈ M, m.1 = 0 ∨ m.1 = 1) →
    inner (a.fits reach) (M.filter fun m => a.held s m.2) x (S ++ n) = S ++ (((M.filter fun m => a.may reach s x.1 m).map (cand x)).foldl (gSpec (S.map (·.1))) n)
  | [], n, _ => rfl
  | m :: M, n, hM => by
    have ih := inner_eq a reach s x S hx M
    have hM' : ∀ m ∈ M, m.1 = 0 ∨ m.1 = 1 := fun k hk => hM k (List.mem_cons_of_mem _ hk)
    have hm := hM m (List.mem_cons_self ..)
    cases hh : a.held s m.2 with
    | false =>
      have h1 : a.may reach s x.1 m = false := by simp [Abs.may, hh]
      rw [List.filter_cons_of_neg (by simp [hh]), List.filter_cons_of_neg (by simp [h1])]
      exact ih n hM'
    | true =>
      rw [List.filter_cons_of_pos (by simp [hh])]
      show inner (a.fits reach) _ x (put1 (a.fits reach) (S ++ n) (cand x m)) = _
      cases hy : a.may reach s x.1 m with
      | true =>
        have hf : a.fits reach (cand x m).1 = true := by
          simp [Abs.may, hh] at hy
          exact hy.2
        rw [List.filter_cons_of_pos (by simp [hy]), put1_app _ _ _ _ hf, ih _ hM']
        rfl
      | false =>
        rw [List.filter_cons_of_neg (by simp [hy]), put1_no, ih n hM']
        simp only [Abs.may, hh, Bool.true_and, Bool.and_eq_false_iff] at hy
        rcases hy with hy | hy
        · right
          have e : (cand x m).1 = x.1 := by
            unfold cand moved
            unfold other at hy
            rcases hm with h0 | h1
            · rw [if_pos h0] at hy ⊢
              have : x.1.1 = m.2 := by simpa using hy
              rw [← this]
            · have h10 : ¬ m.1 = 0 := by omega
              rw [if_neg h10] at hy ⊢
              have : x.1.2 = m.2 := by simpa using hy
              rw [← this]
          rw [e, List.map_append]
          exact List.mem_append_left _ hx
        · exact .inl hy
theorem mvs_hand {l : List Nat} : ∀ m ∈ mvs l, m.1 = 0 ∨ m.1 = 1 := by
  intro m hm
  rcases List.mem_append.mp hm with h | h
  · obtain ⟨_, _, rfl⟩ := List.mem_map.mp h
    exact .inl rfl
  · obtain ⟨_, _, rfl⟩ := List.mem_map.mp h
    exact .inr rfl
theorem wave_eq (a : Abs) (reach s : Nat) (l : List Nat) (S w : List Step) (hw : ∀ x ∈ w, x.1 ∈ S.map (·.1)) :
    outer (a.fits reach) (mvs (l.filter (a.held s))) w S = S ++ a.wave reach s l (S.map (·.1)) w := by
  have key : ∀ (w n : List Step), (∀ x ∈ w, x.1 ∈ S.map (·.1)) → outer (a.fits reach) (mvs (l.filter (a.held s))) w (S ++ n) = S ++ (w.foldl (fun n x => ((a.moves reach s l x.1).map fun m => (moved x.1 m.1 m.2, m :: x.2)).foldl (gSpec (S.map (·.1))) n) n) := by
    intro w
    induction w with
    | nil => intro n _; rfl
    | cons x w ih =>
      intro n hw
      show outer _ _ w (inner _ _ x (S ++ n)) = _
      rw [← mvs_filter, inner_eq a reach s x S (hw x (List.mem_cons_self ..)) (mvs l) n mvs_hand, mvs_filter, ih _ (fun y hy => hw y (List.mem_cons_of_mem _ hy))]
      rw [List.foldl_cons]
      have e : a.moves reach s l x.1 = (mvs l).filter fun m => a.may reach s x.1 m := by
        unfold Abs.moves
        rw [mvs_spec]
      rw [e]
      rfl
  have h := key w [] hw
  rw [List.append_nil] at h
  rw [h]
  unfold Abs.wave
  rw [List.foldl_flatMap]
  rfl
structure Good (fit : Hands → Bool) (L : List Nat) (S : List Step) : Prop where
  nd : (S.map (·.1)).Nodup
  sub : ∀ y ∈ S, y.1.1 ∈ L ∧ y.1.2 ∈ L
  len : ∀ y ∈ S, y.2.length < S.length
  mv : ∀ y ∈ S, ∀ m ∈ y.2, m.2 ∈ L
theorem Good.put {fit : Hands → Bool} {L : List Nat} {S : List Step} {x : Step} {m : Move} (g : Good fit L S) (hx : x ∈ S) (hm : m.2 ∈ L) : Good fit L (put1 fit S (cand x m)) := by
  unfold put1
  split
  · rename_i h
    rw [Bool.and_eq_true, Bool.not_eq_true', any_keys] at h
    have hk : (cand x m).1 ∉ S.map (·.1) := fun q => by
      rw [List.contains_iff_mem.mpr q] at h
      exact absurd h.1 (by decide)
    refine ⟨?_, fun y hy => ?_, fun y hy => ?_, fun y hy k hk => ?_⟩
    · rw [List.map_append]
      refine List.nodup_append.mpr ⟨g.nd, by simp, fun p hp q hq e => ?_⟩
      have hq' : q = (cand x m).1 := by simpa using hq
      exact hk (hq' ▸ e ▸ hp)
    · rcases List.mem_append.mp hy with hy | hy
      · exact g.sub y hy
      · have e : y = cand x m := by simpa using hy
        obtain ⟨h1, h2⟩ := g.sub x hx
        subst e
        unfold cand moved
        by_cases h0 : m.1 = 0
        · rw [if_pos h0]; exact ⟨hm, h2⟩
        · rw [if_neg h0]; exact ⟨h1, hm⟩
    · rw [List.length_append]
      show _ < S.length + 1
      rcases List.mem_append.mp hy with hy | hy
      · have := g.len y hy
        omega
      · have e : y = cand x m := by simpa using hy
        subst e
        show x.2.length + 1 < S.length + 1
        have := g.len x hx
        omega
    · rcases List.mem_append.mp hy with hy | hy
      · exact g.mv y hy k hk
      · have e : y = cand x m := by simpa using hy
        subst e
        rcases List.mem_cons.mp hk with hk | hk
        · rw [hk]; exact hm
        · exact g.mv x hx k hk
  · exact g
theorem put1_ext (fit : Hands → Bool) (S : List Step) (y : Step) : ∃ T, put1 fit S y = S ++ T ∧ ∀ z ∈ T, z = y := by
  unfold put1
  split
  · exact ⟨[y], rfl, fun z hz => by simpa using hz⟩
  · exact ⟨[], (List.append_nil _).symm, fun z hz => nomatch hz⟩
theorem Good.inner {fit : Hands → Bool} {L : List Nat} {x : Step} : ∀ {M : List Move} {S : List Step}, Good fit L S → x ∈ S → (∀ m ∈ M, m.2 ∈ L) → Good fit L (Cw.inner fit M x S) ∧ ∃ T, Cw.inner fit M x S = S ++ T ∧ ∀ z ∈ T, z.2 ≠ []
  | [], S, g, _, _ => ⟨g, [], (List.append_nil _).symm, fun z hz => nomatch hz⟩
  | m :: M, S, g, hx, hM => by
    obtain ⟨T, e, hT⟩ := put1_ext fit S (cand x m)
    have g1 := g.put (m := m) hx (hM m (List.mem_cons_self ..))
    have hx1 : x ∈ put1 fit S (cand x m) := by rw [e]; exact List.mem_append_left _ hx
    obtain ⟨g2, T2, e2, hT2⟩ := Good.inner (M := M) g1 hx1 (fun k hk => hM k (List.mem_cons_of_mem _ hk))
    refine ⟨g2, T ++ T2, ?_, fun z hz => ?_⟩
    · show Cw.inner fit M x (put1 fit S (cand x m)) = _
      rw [e2, e, List.append_assoc]
    · rcases List.mem_append.mp hz with h | h
      · rw [hT z h]
        intro q
        cases q
      · exact hT2 z h
theorem Good.outer {fit : Hands → Bool} {L : List Nat} {M : List Move} (hM : ∀ m ∈ M, m.2 ∈ L) : ∀ {w S : List Step}, Good fit L S → (∀ x ∈ w, x ∈ S) → Good fit L (Cw.outer fit M w S) ∧ ∃ T, Cw.outer fit M w S = S ++ T ∧ ∀ z ∈ T, z.2 ≠ []
  | [], S, g, _ => ⟨g, [], (List.append_nil _).symm, fun z hz => nomatch hz⟩
  | x :: w, S, g, hw => by
    obtain ⟨g1, T, e, hT⟩ := g.inner (hw x (List.mem_cons_self ..)) hM
    have hw1 : ∀ y ∈ w, y ∈ Cw.inner fit M x S := fun y hy => by rw [e]; exact List.mem_append_left _ (hw y (List.mem_cons_of_mem _ hy))
    obtain ⟨g2, T2, e2, hT2⟩ := Good.outer hM (w := w) g1 hw1
    refine ⟨g2, T ++ T2, ?_, fun z hz => ?_⟩
    · show Cw.outer fit M w (Cw.inner fit M x S) = _
      rw [e2, e, List.append_assoc]
    · rcases List.mem_append.mp hz with h | h
      · exact hT z h
      · exact hT2 z h
structure Srch (a : Abs) (reach s : Nat) (l L : List Nat) (goal st : Hands) (S w : List Step) (f : Nat) (res : Option (List Move)) : Prop where
  res_ : a.find reach s l goal f (S.map (·.1)) w = res
  suf : ∃ P, S = P ++ w ∧ ∀ y ∈ P, y.1 ≠ goal
  good : Good (a.fits reach) L S
  room : w = [] ∨ L.length * L.length + 1 ≤ S.length + f
  ne : ∀ y ∈ S, y.2 = [] → y.1 = st
theorem Srch.le {a : Abs} {reach s : Nat} {l L : List Nat} {goal st : Hands} {S w : List Step} {f : Nat} {res : Option (List Move)} (I : Srch a reach s l L goal st S w f res) : S.length ≤ L.length * L.length := by
  have h := pairs_le (L := L) I.good.nd (fun k hk => by
    obtain ⟨y, hy, rfl⟩ := List.mem_map.mp hk
    exact I.good.sub y hy)
  rwa [List.length_map] at h
theorem Srch.fuel {a : Abs} {reach s : Nat} {l L : List Nat} {goal st : Hands} {S w : List Step} {f : Nat} {res : Option (List Move)} (I : Srch a reach s l L goal st S w f res) (hw : w ≠ []) : ∃ f', f = f' + 1 := by
  have h := I.le
  rcases I.room with h1 | h1
  · exact absurd h1 hw
  · exact ⟨f - 1, by omega⟩
theorem Srch.turn {a : Abs} {reach s : Nat} {l L : List Nat} {goal st : Hands} {S w : List Step} {f : Nat} {res : Option (List Move)} (I : Srch a reach s l L goal st S w f res) (hL : ∀ h ∈ l, h ∈ L) (hw : w ≠ []) (hg : goal ∉ S.map (·.1)) :
    ∃ f' T, f = f' + 1 ∧ outer (a.fits reach) (mvs (l.filter (a.held s))) w S = S ++ T ∧ Srch a reach s l L goal st (S ++ T) T f' res := by
  obtain ⟨f', ef⟩ := I.fuel hw
  obtain ⟨P, eS, hP⟩ := I.suf
  have wS : ∀ x ∈ w, x ∈ S := fun x hx => by rw [eS]; exact List.mem_append_right _ hx
  have e := wave_eq a reach s l S w (fun x hx => List.mem_map.mpr ⟨x, wS x hx, rfl⟩)
  obtain ⟨g, T, eT, hT⟩ := I.good.outer (M := mvs (l.filter (a.held s))) (fun m hm => by
    rcases List.mem_append.mp hm with h | h
    all_goals
      obtain ⟨h0, h1, rfl⟩ := List.mem_map.mp h
      exact hL h0 (List.mem_filter.mp h1).1) wS
  have eT' : T = a.wave reach s l (S.map (·.1)) w := List.append_cancel_left (eT.symm.trans e)
  refine ⟨f', T, ef, eT, ?_, ⟨S, rfl, fun y hy q => hg (List.mem_map.mpr ⟨y, hy, q⟩)⟩, eT ▸ g, ?_, fun y hy h0 => ?_⟩
  · have r := I.res_
    rw [ef] at r
    unfold Abs.find at r
    have hnone : (w.find? fun x => x.1 == goal) = none := by
      rw [List.find?_eq_none]
      intro x hx q
      exact hg (List.mem_map.mpr ⟨x, wS x hx, by simpa using q⟩)
    rw [hnone] at r
    simp only [hw, if_false] at r
    rw [← eT'] at r
    rw [List.map_append]
    exact r
  · rcases I.room with h1 | h1
    · exact absurd h1 hw
    · by_cases hT0 : T = []
      · exact .inl hT0
      · right
        have : 0 < T.length := List.length_pos_iff.mpr hT0
        rw [List.length_append]
        omega
  · rcases List.mem_append.mp hy with h | h
    · exact I.ne y h h0
    · exact absurd h0 (hT y h)
theorem Srch.none_ {a : Abs} {reach s : Nat} {l L : List Nat} {goal st : Hands} {S : List Step} {f : Nat} {res : Option (List Move)} (I : Srch a reach s l L goal st S [] f res) : res = none ∧ goal ∉ S.map (·.1) := by
  obtain ⟨P, eS, hP⟩ := I.suf
  refine ⟨?_, fun q => ?_⟩
  · have r := I.res_
    cases f with
    | zero => unfold Abs.find at r; exact r.symm
    | succ f => unfold Abs.find at r; simp at r; exact r.symm
  · rw [eS, List.append_nil] at q
    obtain ⟨y, hy, e⟩ := List.mem_map.mp q
    exact hP y hy e
theorem key_unique {S : List Step} (h : (S.map (·.1)).Nodup) {x y : Step} (hx : x ∈ S) (hy : y ∈ S) (e : x.1 = y.1) : x = y := by
  induction S with
  | nil => cases hx
  | cons z S ih =>
    rw [List.map_cons, List.nodup_cons] at h
    rcases List.mem_cons.mp hx with rfl | hx
    · rcases List.mem_cons.mp hy with rfl | hy
      · rfl
      · exact absurd (List.mem_map.mpr ⟨y, hy, e.symm⟩) h.1
    · rcases List.mem_cons.mp hy with e2 | hy
      · exact absurd (List.mem_map.mpr ⟨x, hx, e.trans (congrArg Prod.fst e2)⟩) h.1
      · exact ih h.2 hx hy
theorem Srch.some_ {a : Abs} {reach s : Nat} {l L : List Nat} {goal st : Hands} {S w : List Step} {f : Nat} {res : Option (List Move)} (I : Srch a reach s l L goal st S w f res) {y : Step} (hy : y ∈ S) (hg : y.1 = goal) (hst : st ≠ goal) : res = some y.2.reverse ∧ y.2 ≠ [] := by
  obtain ⟨P, eS, hP⟩ := I.suf
  have hyw : y ∈ w := by
    rw [eS] at hy
    rcases List.mem_append.mp hy with h | h
    · exact absurd hg (hP y h)
    · exact h
  obtain ⟨f', ef⟩ := I.fuel (fun q => by rw [q] at hyw; cases hyw)
  refine ⟨?_, fun h0 => hst ((I.ne y hy h0).symm.trans hg)⟩
  have r := I.res_
  rw [ef] at r
  unfold Abs.find at r
  cases hf : w.find? fun x => x.1 == goal with
  | none =>
    rw [List.find?_eq_none] at hf
    exact absurd (by simpa using hg) (hf y hyw)
  | some x =>
    rw [hf] at r
    have h1 := List.find?_some hf
    have h2 := List.mem_of_find?_eq_some hf
    have e : x = y := key_unique I.good.nd (by rw [eS]; exact List.mem_append_right _ h2) hy (by rw [hg]; simpa using h1)
    rw [← e]
    exact r.symm
theorem insert_perm (h : Nat) : ∀ l : List Nat, (Su55.insert h l).Perm (h :: l)
  | [] => .refl _
  | i :: l => by
    unfold Su55.insert
    split
    · exact .refl _
    · exact ((insert_perm h l).cons i).trans (.swap h i l)
theorem insert_le (h : Nat) : ∀ l : List Nat, l.Pairwise (· ≤ ·) → (Su55.insert h l).Pairwise (· ≤ ·)
  | [], _ => by simp [Su55.insert]
  | i :: l, p => by
    unfold Su55.insert
    rw [List.pairwise_cons] at p
    split
    · rename_i hlt
      refine List.pairwise_cons.mpr ⟨fun x hx => ?_, List.pairwise_cons.mpr p⟩
      rcases List.mem_cons.mp hx with rfl | hx
      · omega
      · have := p.1 x hx
        omega
    · rename_i hlt
      refine List.pairwise_cons.mpr ⟨fun x hx => ?_, insert_le h l p.2⟩
      rcases List.mem_cons.mp ((insert_perm h l).mem_iff.mp hx) with rfl | hx
      · omega
      · exact p.1 x hx
theorem sorted_aux : ∀ (l s : List Nat), s.Pairwise (· ≤ ·) → (l.foldl (fun s h => Su55.insert h s) s).Perm (l ++ s) ∧ (l.foldl (fun s h => Su55.insert h s) s).Pairwise (· ≤ ·)
  | [], s, p => ⟨.refl _, p⟩
  | h :: l, s, p => by
    obtain ⟨h1, h2⟩ := sorted_aux l (Su55.insert h s) (insert_le h s p)
    refine ⟨h1.trans ?_, h2⟩
    exact ((insert_perm h s).append_left l).trans (List.perm_middle)
theorem sorted_perm (l : List Nat) : (Su55.sorted l).Perm l := by
  have := (sorted_aux l [] .nil).1
  rwa [List.append_nil] at this
theorem sorted_le (l : List Nat) : (Su55.sorted l).Pairwise (· ≤ ·) := (sorted_aux l [] .nil).2
theorem sorted_unique {l m : List Nat} (hp : m.Perm l) (hs : m.Pairwise (· ≤ ·)) : m = Su55.sorted l :=
  List.Perm.eq_of_pairwise (fun a b _ _ h1 h2 => Nat.le_antisymm h1 h2) hs (sorted_le l) (hp.trans (sorted_perm l).symm)
theorem sorted_filter (p : Nat → Bool) (l : List Nat) : (Su55.sorted l).filter p = Su55.sorted (l.filter p) :=
  sorted_unique ((sorted_perm l).filter p) ((sorted_le l).filter p)
theorem srch_start {a : Abs} {reach s : Nat} {L : List Nat} (hL : 1 ≤ L.length) (hh : a.held s (L.headD 0) = true) (hne : L.headD 0 ≠ L.getLastD 0) :
    Srch a reach s (Su55.sorted L) L (top L) (start L) [(start L, [])] [(start L, [])] (L.length * L.length + 1) (a.up reach s L) := by
  have hm : L.headD 0 ∈ L := by
    cases L with
    | nil => simp at hL
    | cons h t => simp
  refine ⟨?_, ⟨[], rfl, fun y hy => nomatch hy⟩, ⟨by simp, fun y hy => ?_, fun y hy => ?_, fun y hy k hk => ?_⟩, .inr (by simp), fun y hy _ => ?_⟩
  · unfold Abs.up
    rw [if_pos hh]
    rfl
  · have e : y = (start L, []) := by simpa using hy
    subst e
    exact ⟨hm, hm⟩
  · have e : y = (start L, []) := by simpa using hy
    subst e
    simp
  · have e : y = (start L, []) := by simpa using hy
    subst e
    cases hk
  · have e : y = (start L, []) := by simpa using hy
    rw [e]
def WayOk (L : List Nat) (r : Option (List Move)) : Prop := ∀ ms, r = some ms → ms ≠ [] ∧ ms.length ≤ L.length * L.length ∧ ∀ m ∈ ms, m.2 ∈ L
theorem Srch.ok {a : Abs} {reach s : Nat} {l L : List Nat} {goal st : Hands} {res : Option (List Move)} (hL : ∀ h ∈ l, h ∈ L) (hst : st ≠ goal) : ∀ (f : Nat) {S w : List Step}, Srch a reach s l L goal st S w f res → WayOk L res := by
  intro f
  induction f with
  | zero =>
    intro S w I ms e
    by_cases hw : w = []
    · subst hw
      rw [I.none_.1] at e
      cases e
    · obtain ⟨f', ef⟩ := I.fuel hw
      omega
  | succ f ih =>
    intro S w I ms e
    by_cases hg : goal ∈ S.map (·.1)
    · obtain ⟨y, hy, ey⟩ := List.mem_map.mp hg
      obtain ⟨h1, h2⟩ := I.some_ hy ey hst
      rw [h1] at e
      have e : y.2.reverse = ms := Option.some.inj e
      subst e
      refine ⟨fun q => h2 (by simpa using q), ?_, fun m hm => I.good.mv y hy m (by simpa using hm)⟩
      have q1 := I.good.len y hy
      have q2 := I.le
      rw [List.length_reverse]
      omega
    · by_cases hw : w = []
      · subst hw
        rw [I.none_.1] at e
        cases e
      · obtain ⟨f', T, ef, _, I'⟩ := I.turn hL hw hg
        have : f' = f := by omega
        subst this
        exact ih I' ms e
theorem up_ne {a : Abs} {reach s : Nat} {L : List Nat} (hh : a.held s (L.headD 0) = false) : a.up reach s L = none := by
  unfold Abs.up
  rw [hh]
  rfl
end Cw
end
section
set_option linter.all false
namespace Cw
open Su55
structure Wf (a : Abs) : Prop where
  nh : a.holds.length ≤ 20
  nr : a.routes.length ≤ 6
  nc : a.climbers.length ≤ 8
  hold : ∀ h ∈ a.holds, h.x ≤ 50 ∧ h.y ≤ 50 ∧ h.grip ≤ 9
  route : ∀ r ∈ a.routes, 2 ≤ r.holds.length ∧ r.holds.length ≤ 8 ∧ r.holds.Nodup ∧ ∀ h ∈ r.holds, h < a.holds.length
  climber : ∀ c ∈ a.climbers, c.reach ≤ 71
theorem mem_modify {α : Type} {f : α → α} {p : α → Prop} : ∀ {l : List α} {i : Nat}, (∀ x ∈ l, p x) → (∀ x ∈ l, p (f x)) → ∀ x ∈ l.modify i f, p x
  | [], _, _, _, x, hx => by simp at hx
  | a :: l, 0, h1, h2, x, hx => by
    rw [List.modify_zero_cons] at hx
    rcases List.mem_cons.mp hx with rfl | hx
    · exact h2 a (List.mem_cons_self ..)
    · exact h1 x (List.mem_cons_of_mem _ hx)
  | a :: l, i + 1, h1, h2, x, hx => by
    rw [List.modify_succ_cons] at hx
    rcases List.mem_cons.mp hx with rfl | hx
    · exact h1 _ (List.mem_cons_self ..)
    · exact mem_modify (fun y hy => h1 y (List.mem_cons_of_mem _ hy)) (fun y hy => h2 y (List.mem_cons_of_mem _ hy)) x hx
theorem Wf.setHold {a : Abs} (w : Wf a) (i : Nat) (f : Hold → Hold) (hf : ∀ h ∈ a.holds, (h.x ≤ 50 ∧ h.y ≤ 50 ∧ h.grip ≤ 9) → ((f h).x ≤ 50 ∧ (f h).y ≤ 50 ∧ (f h).grip ≤ 9)) : Wf { a with holds := a.holds.modify i f } :=
  ⟨by show (a.holds.modify i f).length ≤ 20; rw [List.length_modify]; exact w.nh, w.nr, w.nc, mem_modify w.hold fun x hx => hf x hx (w.hold x hx), fun r hr => by
    have h := w.route r hr
    refine ⟨h.1, h.2.1, h.2.2.1, fun x hx => ?_⟩
    show x < (a.holds.modify i f).length
    rw [List.length_modify]
    exact h.2.2.2 x hx, w.climber⟩
theorem worn_ok (n : Nat) (h : Hold) (q : h.x ≤ 50 ∧ h.y ≤ 50 ∧ h.grip ≤ 9) : (worn n h).x ≤ 50 ∧ (worn n h).y ≤ 50 ∧ (worn n h).grip ≤ 9 := by
  unfold worn
  split
  · exact ⟨q.1, q.2.1, by show h.grip - 1 ≤ 9; omega⟩
  · exact q
theorem Wf.wears {a : Abs} (w : Wf a) (m : List Move) : Wf (a.wears m) := by
  unfold Abs.wears
  induction m generalizing a with
  | nil => exact w
  | cons x m ih =>
    rw [List.foldl_cons]
    exact ih (w.setHold x.2 (worn a.wear) fun h _ q => worn_ok _ h q)
theorem wears_climbers (m : List Move) (a : Abs) : (a.wears m).climbers = a.climbers := by
  unfold Abs.wears
  induction m generalizing a with
  | nil => rfl
  | cons x m ih => rw [List.foldl_cons, ih]
theorem wears_routes (m : List Move) (a : Abs) : (a.wears m).routes = a.routes := by
  unfold Abs.wears
  induction m generalizing a with
  | nil => rfl
  | cons x m ih => rw [List.foldl_cons, ih]
theorem wears_wear (m : List Move) (a : Abs) : (a.wears m).wear = a.wear := by
  unfold Abs.wears
  induction m generalizing a with
  | nil => rfl
  | cons x m ih => rw [List.foldl_cons, ih]
theorem wears_len (m : List Move) (a : Abs) : (a.wears m).holds.length = a.holds.length := by
  unfold Abs.wears
  induction m generalizing a with
  | nil => rfl
  | cons x m ih => rw [List.foldl_cons, ih, List.length_modify]
theorem Wf.climbed {a : Abs} (w : Wf a) (c : Nat) (m : List Move) : Wf (a.climbed c m) := by
  have w' := w.wears m
  refine ⟨w'.nh, w'.nr, ?_, w'.hold, w'.route, ?_⟩
  · show (a.climbers.modify c _).length ≤ 8
    rw [List.length_modify]
    exact w.nc
  · exact mem_modify w.climber fun x hx => w.climber x hx
theorem okAt_iff {x y : Nat} : okAt x y = true ↔ x ≤ 50 ∧ y ≤ 50 := by
  unfold okAt
  rw [Bool.and_eq_true, decide_eq_true_eq, decide_eq_true_eq]
  rfl
theorem wf_does {a : Abs} (w : Wf a) (c : Call) : Wf (does a c).1 := by
  cases c with
  | begin_ n =>
    unfold does
    dsimp only
    split
    · exact w
    · exact ⟨by simp, by simp, by simp, by simp, by simp, by simp⟩
  | hold x y g =>
    unfold does
    dsimp only
    split
    · exact w
    split
    · exact w
    split
    · exact w
    rename_i h1 h2 h3
    simp only [HOLDS, Nat.not_le] at h1
    have h2' : (x ≤ 50 ∧ y ≤ 50) ∧ g ≤ 9 := by
      refine ⟨okAt_iff.mp ?_, ?_⟩
      · cases h : okAt x y
        · exact absurd (.inl h) h2
        · rfl
      · exact Nat.le_of_not_lt fun q => h2 (.inr (.inr q))
    refine ⟨?_, w.nr, w.nc, fun h hh => ?_, fun r hr => ?_, w.climber⟩
    · show (a.holds ++ [_]).length ≤ 20
      rw [List.length_append, List.length_singleton]
      omega
    · rcases List.mem_append.mp hh with hh | hh
      · exact w.hold h hh
      · have e : h = ⟨x, y, g, 0, true⟩ := by simpa using hh
        subst e
        exact ⟨h2'.1.1, h2'.1.2, h2'.2⟩
    · have q := w.route r hr
      refine ⟨q.1, q.2.1, q.2.2.1, fun z hz => ?_⟩
      show z < (a.holds ++ [_]).length
      rw [List.length_append]
      have := q.2.2.2 z hz
      omega
  | shift h x y =>
    unfold does
    dsimp only
    split
    · exact w
    split
    · exact w
    split
    · exact w
    rename_i h1 h2 h3
    have h2' : x ≤ 50 ∧ y ≤ 50 := okAt_iff.mp (by cases q : okAt x y <;> simp_all)
    exact w.setHold h _ fun z _ q => ⟨h2'.1, h2'.2, q.2.2⟩
  | off h =>
    unfold does
    dsimp only
    split
    · exact w
    split
    · exact w
    exact w.setHold h _ fun z _ q => q
  | back h =>
    unfold does
    dsimp only
    split
    · exact w
    split
    · exact w
    exact w.setHold h _ fun z _ q => q
  | turn h g =>
    unfold does
    dsimp only
    split
    · exact w
    split
    · exact w
    rename_i h1 h2
    exact w.setHold h _ fun z _ q => ⟨q.1, q.2.1, Nat.le_of_not_lt fun r => h2 (.inr r)⟩
  | route d l =>
    unfold does
    dsimp only
    split
    · exact w
    split
    · exact w
    split
    · exact w
    rename_i h1 h2 h3
    simp only [ROUTES, Nat.not_le] at h1
    refine ⟨w.nh, ?_, w.nc, w.hold, fun r hr => ?_, w.climber⟩
    · show (a.routes ++ [_]).length ≤ 6
      rw [List.length_append, List.length_singleton]
      omega
    · rcases List.mem_append.mp hr with hr | hr
      · exact w.route r hr
      · have e : r = ⟨l, d == 1⟩ := by simpa using hr
        subst e
        refine ⟨Nat.le_of_not_lt fun q => h2 (.inr (.inl q)), Nat.le_of_not_lt fun q => h2 (.inr (.inr (.inl q))), Classical.byContradiction fun q => h2 (.inr (.inr (.inr q))), fun z hz => ?_⟩
        have := h3
        simp only [List.any_eq_true, not_exists, not_and] at this
        have h4 := this z hz
        simpa [Abs.isH] using h4
  | climber r s l =>
    unfold does
    dsimp only
    split
    · exact w
    split
    · exact w
    rename_i h1 h2
    simp only [CLIMBERS, Nat.not_le] at h1
    refine ⟨w.nh, w.nr, ?_, w.hold, w.route, fun c hc => ?_⟩
    · show (a.climbers ++ [_]).length ≤ 8
      rw [List.length_append, List.length_singleton]
      omega
    · rcases List.mem_append.mp hc with hc | hc
      · exact w.climber c hc
      · have e : c = ⟨r, s, l == 1, 0, 0⟩ := by simpa using hc
        subst e
        exact Nat.le_of_not_lt fun q => h2 (.inr (.inl q))
  | train c s =>
    unfold does
    dsimp only
    split
    · exact w
    split
    · exact w
    refine ⟨w.nh, w.nr, ?_, w.hold, w.route, mem_modify w.climber fun x hx => w.climber x hx⟩
    show (a.climbers.modify c _).length ≤ 8
    rw [List.length_modify]
    exact w.nc
  | climb c r =>
    unfold does
    dsimp only
    split
    · exact w
    split
    · exact w
    split
    · exact w
    · exact w.climbed c _
  | _ =>
    unfold does
    dsimp only
    repeat' split
    all_goals exact w
end Cw
end
section
set_option linter.all false
namespace Cw
open Su55
def fell (n : Nat) (h : Hold) : Bool := decide (n ≤ h.used + 1) && decide (0 < h.grip)
theorem hold_modify (a : Abs) (i : Nat) (f : Hold → Hold) (j : Nat) (hf : j < a.holds.length) : ({ a with holds := a.holds.modify i f } : Abs).hold j = if i = j then f (a.hold j) else a.hold j := by
  unfold Abs.hold
  rw [List.getD_eq_getElem?_getD, List.getElem?_modify, List.getD_eq_getElem?_getD, List.getElem?_eq_getElem hf]
  by_cases e : i = j
  · simp [e]
  · simp [e]
structure Fell (a b : Abs) (F : List Nat) : Prop where
  nd : F.Nodup
  len : b.holds.length = a.holds.length
  mem : ∀ h, h ∈ F ↔ h < a.holds.length ∧ (b.hold h).grip < (a.hold h).grip
  le : ∀ h, h < a.holds.length → (b.hold h).grip ≤ (a.hold h).grip
theorem Fell.start (a : Abs) : Fell a a [] := ⟨.nil, rfl, fun h => by simp, fun h _ => Nat.le_refl _⟩
theorem Fell.turn {a b : Abs} {F : List Nat} (I : Fell a b F) {i : Nat} (hi : i < a.holds.length) :
    Fell a { b with holds := b.holds.modify i (worn b.wear) } (if fell b.wear (b.hold i) then (if i ∈ F then F else F ++ [i]) else F) := by
  have hg : ∀ j, j < a.holds.length → (({ b with holds := b.holds.modify i (worn b.wear) } : Abs).hold j).grip = if i = j ∧ fell b.wear (b.hold i) = true then (b.hold j).grip - 1 else (b.hold j).grip := by
    intro j hj
    rw [hold_modify b i _ j (by rw [I.len]; exact hj)]
    by_cases e : i = j
    · subst e
      rw [if_pos rfl]
      unfold worn fell
      by_cases h1 : b.wear ≤ (b.hold i).used + 1
      · rw [if_pos h1]
        by_cases h2 : 0 < (b.hold i).grip
        · rw [if_pos ⟨rfl, by simp [h1, h2]⟩]
        · rw [if_neg (by simp [h2])]
          show (b.hold i).grip - 1 = (b.hold i).grip
          omega
      · rw [if_neg h1, if_neg (by simp [h1])]
    · rw [if_neg e, if_neg (fun q => e q.1)]
  have hpos : fell b.wear (b.hold i) = true → 0 < (b.hold i).grip := fun q => by
    unfold fell at q
    simp at q
    exact q.2
  refine ⟨?_, by rw [List.length_modify]; exact I.len, fun h => ?_, fun h hh => ?_⟩
  · split
    · split
      · exact I.nd
      · rename_i q
        exact List.nodup_append.mpr ⟨I.nd, by simp, fun x hx y hy e => q (by have : y = i := by simpa using hy
                                                                             rw [← this, ← e]
                                                                             exact hx)⟩
    · exact I.nd
  · have base := I.mem h
    cases hf : fell b.wear (b.hold i) with
    | false =>
      rw [if_neg (by simp)]
      constructor
      · intro hm
        obtain ⟨h1, h2⟩ := base.mp hm
        refine ⟨h1, ?_⟩
        rw [hg h h1, if_neg (by rw [hf]; simp)]
        exact h2
      · rintro ⟨h1, h2⟩
        rw [hg h h1, if_neg (by rw [hf]; simp)] at h2
        exact base.mpr ⟨h1, h2⟩
    | true =>
      rw [if_pos rfl]
      have hm' : (h ∈ if i ∈ F then F else F ++ [i]) ↔ h ∈ F ∨ h = i := by
        split
        · rename_i q
          exact ⟨.inl, fun z => z.elim id fun e => e ▸ q⟩
        · simp
      rw [hm']
      constructor
      · intro hm
        by_cases e : i = h
        · subst e
          refine ⟨hi, ?_⟩
          rw [hg i hi, if_pos ⟨rfl, hf⟩]
          have := I.le i hi
          have := hpos hf
          omega
        · have hm := hm.resolve_right fun z => e z.symm
          obtain ⟨h1, h2⟩ := base.mp hm
          refine ⟨h1, ?_⟩
          rw [hg h h1, if_neg fun q => e q.1]
          exact h2
      · rintro ⟨h1, h2⟩
        by_cases e : i = h
        · exact .inr e.symm
        · rw [hg h h1, if_neg fun q => e q.1] at h2
          exact .inl (base.mpr ⟨h1, h2⟩)
  · rw [hg h hh]
    have := I.le h hh
    split <;> omega
theorem Fell.count {a b c : Abs} {F : List Nat} (I : Fell a b F) (e : c.holds = b.holds) : F.length = a.worse c := by
  unfold Abs.worse
  have hc : ∀ h, c.hold h = b.hold h := fun h => by unfold Abs.hold; rw [e]
  refine Nat.le_antisymm (len_le_of_nodup_subset I.nd fun h hh => ?_) (len_le_of_nodup_subset (List.Pairwise.filter _ List.nodup_range) fun h hh => ?_)
  · obtain ⟨h1, h2⟩ := (I.mem h).mp hh
    exact List.mem_filter.mpr ⟨List.mem_range.mpr h1, by rw [hc]; simpa using h2⟩
  · obtain ⟨h1, h2⟩ := List.mem_filter.mp hh
    rw [hc] at h2
    exact (I.mem h).mpr ⟨List.mem_range.mp h1, by simpa using h2⟩
end Cw
end
section
set_option linter.all false
namespace Cw
open Su55
theorem ite_some {c : Prop} [Decidable c] {x r : Nat × Nat} {y : Option (Nat × Nat)} (h : (if c then some x else y) = some r) : x = r ∨ y = some r := by
  by_cases q : c
  · rw [if_pos q] at h
    exact .inl (Option.some.inj h)
  · rw [if_neg q] at h
    exact .inr h
theorem shape_rows {p : Int} {n k : Nat} (h : PySu55.shape p = some (n, k)) : (k = 0 ∧ p ≠ 6) ∨ (k = 1 ∧ p = 6 ∧ n = 1) := by
  by_cases h6 : p = 6
  · subst h6
    have e : PySu55.shape 6 = some (1, 1) := rfl
    rw [e] at h
    cases h
    exact .inr ⟨rfl, rfl, rfl⟩
  · left
    refine ⟨?_, h6⟩
    unfold PySu55.shape at h
    rw [if_neg h6] at h
    iterate 25 (rcases ite_some h with q | h; (cases q; rfl))
    cases h
theorem parse {l : List Int} {i f : Nat} {cs : List (List (List Int))} (h : PyFlat.calls PySu55.shape f (l.drop i) = some cs) (hlt : i < l.length) :
    ∃ (p : Int) (n k f' : Nat) (c : List (List Int)) (cs' : List (List (List Int))), l[i]? = some p ∧ PySu55.shape p = some (n, k) ∧ i + 1 + n ≤ l.length ∧ cs = c :: cs' ∧
      ((k = 0 ∧ p ≠ 6 ∧ c = [p :: (l.drop (i + 1)).take n] ∧ PyFlat.calls PySu55.shape f' (l.drop (i + 1 + n)) = some cs') ∨
       (k = 1 ∧ p = 6 ∧ n = 1 ∧ ∃ m : Nat, l[i + 1 + n]? = some (m : Int) ∧ i + 1 + n + 1 + m ≤ l.length ∧ c = [p :: (l.drop (i + 1)).take n, (l.drop (i + 1 + n + 1)).take m] ∧
         PyFlat.calls PySu55.shape f' (l.drop (i + 1 + n + 1 + m)) = some cs')) := by
  have e0 : l.drop i = l[i] :: l.drop (i + 1) := List.drop_eq_getElem_cons hlt
  rw [e0] at h
  cases f with
  | zero => cases h
  | succ f' =>
    unfold PyFlat.calls at h
    cases hc : PyFlat.call PySu55.shape (l[i] :: l.drop (i + 1)) with
    | none => rw [hc] at h; cases h
    | some ct =>
      obtain ⟨c, t⟩ := ct
      rw [hc] at h
      dsimp only at h
      cases hr : PyFlat.calls PySu55.shape f' t with
      | none => rw [hr] at h; cases h
      | some cs' =>
        rw [hr] at h
        have ecs : c :: cs' = cs := Option.some.inj h
        unfold PyFlat.call at hc
        dsimp only at hc
        cases hs : PySu55.shape l[i] with
        | none => rw [hs] at hc; cases hc
        | some nk =>
          obtain ⟨n, k⟩ := nk
          rw [hs] at hc
          dsimp only at hc
          split at hc
          · cases hc
          rename_i hn
          have hn : n ≤ (l.drop (i + 1)).length := Nat.le_of_not_lt hn
          rw [List.length_drop] at hn
          have dd : (l.drop (i + 1)).drop n = l.drop (i + 1 + n) := by rw [List.drop_drop]
          rw [dd] at hc
          refine ⟨l[i], n, k, f', c, cs', List.getElem?_eq_getElem hlt, hs, by omega, ecs.symm, ?_⟩
          rcases shape_rows hs with ⟨rfl, h6⟩ | ⟨rfl, h6, hn1⟩
          · left
            have hc' : some ([l[i] :: (l.drop (i + 1)).take n], l.drop (i + 1 + n)) = some (c, t) := hc
            cases hc'
            exact ⟨rfl, h6, rfl, hr⟩
          · right
            refine ⟨rfl, h6, hn1, ?_⟩
            cases hd : l.drop (i + 1 + n) with
            | nil => rw [hd] at hc; cases hc
            | cons m r' =>
              rw [hd] at hc
              have hlt2 : i + 1 + n < l.length := by
                rcases Nat.lt_or_ge (i + 1 + n) l.length with q | q
                · exact q
                · rw [List.drop_eq_nil_of_le q] at hd
                  cases hd
              have hd' := hd
              rw [List.drop_eq_getElem_cons hlt2] at hd'
              injection hd' with em er
              unfold PyFlat.rows PyFlat.row at hc
              dsimp only at hc
              by_cases hm : 0 ≤ m ∧ m.toNat ≤ r'.length
              · rw [if_pos hm] at hc
                have hc' : some ([l[i] :: (l.drop (i + 1)).take n, r'.take m.toNat], r'.drop m.toNat) = some (c, t) := hc
                cases hc'
                refine ⟨m.toNat, ?_, ?_, ?_, ?_⟩
                · rw [List.getElem?_eq_getElem hlt2, em, Int.toNat_of_nonneg hm.1]
                · have := hm.2
                  rw [← er, List.length_drop] at this
                  omega
                · rw [er]
                · rw [← List.drop_drop, er]
                  exact hr
              · rw [if_neg hm] at hc
                cases hc
theorem parse_end {l : List Int} {i f : Nat} {cs : List (List (List Int))} (h : PyFlat.calls PySu55.shape f (l.drop i) = some cs) (hge : l.length ≤ i) : cs = [] := by
  rw [List.drop_eq_nil_of_le hge] at h
  cases f <;> (unfold PyFlat.calls at h; exact (Option.some.inj h).symm)
def stp : Su55Neutral.S → List (List Int) → Su55Neutral.S × List Int := fun s c => Su55Neutral.step s (c.headD [])
def due (s : Su55Neutral.S) (cs : List (List (List Int))) : List Int := PyFlat.told (PyFlat.played stp s (cs.map PySu55.whole))
theorem due_nil (s : Su55Neutral.S) : due s [] = [] := rfl
theorem due_cons (s : Su55Neutral.S) (c : List (List Int)) (cs : List (List (List Int))) :
    due s (c :: cs) = (((stp s (PySu55.whole c)).2.length : Int) :: (stp s (PySu55.whole c)).2) ++ due (stp s (PySu55.whole c)).1 cs := by
  unfold due
  rw [List.map_cons]
  rfl
theorem answers_due {l : List Int} {raw : List (List (List Int))} (h : PyFlat.calls PySu55.shape l.length l = some raw) : PySu55.answers l = due none raw := by
  unfold PySu55.answers PySu55.calls
  rw [h]
  rfl
end Cw
end
section
set_option linter.all false
namespace Cw
open Su55
theorem find_range {p : Nat → Bool} {k : Nat} (hp : p k = true) (hn : ∀ j, j < k → p j = false) : ∀ {m : Nat}, k < m → (List.range m).find? p = some k
  | 0, h => by omega
  | m + 1, h => by
    rw [List.range_succ, List.find?_append]
    by_cases q : k < m
    · rw [find_range hp hn q]
      rfl
    · have e : k = m := by omega
      subst e
      have z : (List.range k).find? p = none := by
        rw [List.find?_eq_none]
        intro x hx
        rw [hn x (List.mem_range.mp hx)]
        simp
      rw [z]
      simp [hp]
theorem find_range_none {p : Nat → Bool} {m : Nat} (hn : ∀ j, j < m → p j = false) : (List.range m).find? p = none := by
  rw [List.find?_eq_none]
  intro x hx
  rw [hn x (List.mem_range.mp hx)]
  simp
theorem root_is {n k : Nat} (hk : k ≤ 71) (h1 : n ≤ k * k) (h2 : ∀ j, j < k → j * j < n) : Su55.root n = k := by
  unfold Su55.root Su55.FAR
  rw [find_range (p := fun k => decide (n ≤ k * k)) (k := k) (decide_eq_true h1) (fun j hj => decide_eq_false (by have := h2 j hj; omega)) (by omega)]
  rfl
theorem drop_find {p : Nat → Bool} : ((List.range 10).drop 1).find? p = ((List.range 9).find? fun j => p (j + 1)).map (· + 1) := by
  have e : (List.range 10).drop 1 = (List.range 9).map (· + 1) := by decide
  rw [e, List.find?_map]
  rfl
theorem strength_is {p : Nat → Bool} {k : Nat} (hk : 1 ≤ k) (hk9 : k ≤ 9) (hp : p k = true) (hn : ∀ j, 1 ≤ j → j < k → p j = false) : ((List.range 10).drop 1).find? p = some k := by
  rw [drop_find, find_range (p := fun j => p (j + 1)) (k := k - 1) (by show p (k - 1 + 1) = true; rw [show k - 1 + 1 = k by omega]; exact hp) (fun j hj => hn (j + 1) (by omega) (by omega)) (by omega)]
  show some (k - 1 + 1) = some k
  rw [show k - 1 + 1 = k by omega]
theorem strength_none {p : Nat → Bool} (hn : ∀ j, 1 ≤ j → j ≤ 9 → p j = false) : ((List.range 10).drop 1).find? p = none := by
  rw [drop_find, find_range_none fun j hj => hn (j + 1) (by omega) (by omega)]
  rfl
def best1 (a : Abs) (c : Nat) (b : Option (Nat × Nat)) (r : Nat) : Option (Nat × Nat) := match a.way c r with
  | none => b
  | some w => match b with
    | none => some (r, w.length)
    | some x => if x.2 < w.length then some (r, w.length) else some x
theorem best_eq (a : Abs) (c : Nat) : a.best c = (List.range a.routes.length).foldl (best1 a c) none := rfl
theorem best_succ (a : Abs) (c i : Nat) : (List.range (i + 1)).foldl (best1 a c) none = best1 a c ((List.range i).foldl (best1 a c) none) i := by
  rw [List.range_succ, List.foldl_append]
  rfl
theorem inner_sub {l : List Nat} : ∀ h ∈ Su55.inner l, h ∈ l := fun h hh => List.mem_of_mem_drop ((List.dropLast_sublist _).subset hh)
end Cw
end
section
set_option linter.all false
namespace Cw
open Su55
inductive Rch (a : Abs) (reach s : Nat) (l : List Nat) (st : Hands) : Hands → Prop
  | here : Rch a reach s l st st
  | go {x : Hands} {m : Move} : Rch a reach s l st x → m ∈ a.moves reach s l x → Rch a reach s l st (moved x m.1 m.2)
theorem fits_mono (a : Abs) {n k : Nat} (h : n ≤ k) (x : Hands) (q : a.fits n x = true) : a.fits k x = true := by
  unfold Abs.fits at q ⊢
  rw [Bool.and_eq_true, decide_eq_true_eq] at q ⊢
  exact ⟨Nat.le_trans q.1 (Nat.mul_le_mul h h), q.2⟩
theorem moves_mono (a : Abs) {n k s : Nat} (h : n ≤ k) (l : List Nat) (x : Hands) (m : Move) (q : m ∈ a.moves n s l x) : m ∈ a.moves k s l x := by
  unfold Abs.moves at q ⊢
  rw [List.mem_filter] at q ⊢
  refine ⟨q.1, ?_⟩
  have q2 := q.2
  unfold Abs.may at q2 ⊢
  rw [Bool.and_eq_true, Bool.and_eq_true] at q2 ⊢
  exact ⟨q2.1, q2.2.1, fits_mono a h _ q2.2.2⟩
theorem Rch.mono {a : Abs} {n k s : Nat} (h : n ≤ k) {l : List Nat} {st x : Hands} (r : Rch a n s l st x) : Rch a k s l st x := by
  induction r with
  | here => exact .here
  | go _ hm ih => exact .go ih (moves_mono a h l _ _ hm)
theorem gSpec_has (seen : List Hands) : ∀ (ys n : List Step), (∀ z ∈ n, z.1 ∈ (ys.foldl (gSpec seen) n).map (·.1)) ∧ (∀ y ∈ ys, y.1 ∈ seen ∨ y.1 ∈ (ys.foldl (gSpec seen) n).map (·.1)) ∧ ∀ z ∈ ys.foldl (gSpec seen) n, z ∈ n ∨ z ∈ ys
  | [], n => ⟨fun z hz => List.mem_map.mpr ⟨z, hz, rfl⟩, (fun y hy => nomatch hy), fun z hz => .inl hz⟩
  | y :: ys, n => by
    obtain ⟨h1, h2, h3⟩ := gSpec_has seen ys (gSpec seen n y)
    rw [List.foldl_cons]
    have hy : (gSpec seen n y = n ∧ (y.1 ∈ seen ∨ ∃ z ∈ n, z.1 = y.1)) ∨ gSpec seen n y = n ++ [y] := by
      unfold gSpec
      split
      · rename_i q
        rw [Bool.or_eq_true, List.contains_iff_mem, List.any_eq_true] at q
        refine .inl ⟨rfl, q.imp id fun ⟨z, hz, e⟩ => ⟨z, hz, by simpa using e⟩⟩
      · exact .inr rfl
    rcases hy with ⟨e, q⟩ | e
    · rw [e] at h1 h2 h3 ⊢
      refine ⟨h1, fun x hx => ?_, fun z hz => ?_⟩
      · rcases List.mem_cons.mp hx with rfl | hx
        · rcases q with q | ⟨z, hz, e2⟩
          · exact .inl q
          · exact .inr (e2 ▸ h1 z hz)
        · exact h2 x hx
      · exact (h3 z hz).imp id (List.mem_cons_of_mem _)
    · rw [e] at h1 h2 h3 ⊢
      refine ⟨fun z hz => h1 z (List.mem_append_left _ hz), fun x hx => ?_, fun z hz => ?_⟩
      · rcases List.mem_cons.mp hx with rfl | hx
        · exact .inr (h1 x (by simp))
        · exact h2 x hx
      · rcases h3 z hz with q | q
        · rcases List.mem_append.mp q with q | q
          · exact .inl q
          · have e : z = y := by simpa using q
            exact .inr (by rw [e]; exact List.mem_cons_self ..)
        · exact .inr (List.mem_cons_of_mem _ q)
structure Cov (a : Abs) (reach s : Nat) (l : List Nat) (st : Hands) (S w : List Step) : Prop where
  rch : ∀ y ∈ S, Rch a reach s l st y.1
  cls : ∃ P, S = P ++ w ∧ ∀ y ∈ P, ∀ m ∈ a.moves reach s l y.1, moved y.1 m.1 m.2 ∈ S.map (·.1)
  beg : st ∈ S.map (·.1)
theorem Cov.wave {a : Abs} {reach s : Nat} {l : List Nat} {st : Hands} {S w : List Step} (c : Cov a reach s l st S w) : Cov a reach s l st (S ++ a.wave reach s l (S.map (·.1)) w) (a.wave reach s l (S.map (·.1)) w) := by
  obtain ⟨P, e, hP⟩ := c.cls
  have g := gSpec_has (S.map (·.1)) (w.flatMap fun x => (a.moves reach s l x.1).map fun m => (moved x.1 m.1 m.2, m :: x.2)) []
  have ew : a.wave reach s l (S.map (·.1)) w = (w.flatMap fun x => (a.moves reach s l x.1).map fun m => (moved x.1 m.1 m.2, m :: x.2)).foldl (gSpec (S.map (·.1))) [] := rfl
  refine ⟨fun y hy => ?_, ⟨S, rfl, fun y hy m hm => ?_⟩, ?_⟩
  · rcases List.mem_append.mp hy with hy | hy
    · exact c.rch y hy
    · rw [ew] at hy
      rcases g.2.2 y hy with q | q
      · cases q
      · obtain ⟨x, hx, q⟩ := List.mem_flatMap.mp q
        obtain ⟨m, hm, q⟩ := List.mem_map.mp q
        rw [← q]
        exact .go (c.rch x (by rw [e]; exact List.mem_append_right _ hx)) hm
  · rw [List.map_append]
    have hy2 := hy
    rw [e] at hy2
    rcases List.mem_append.mp hy2 with h | h
    · exact List.mem_append_left _ (hP y h m hm)
    · have q := g.2.1 (moved y.1 m.1 m.2, m :: y.2) (List.mem_flatMap.mpr ⟨y, h, List.mem_map.mpr ⟨m, hm, rfl⟩⟩)
      rcases q with q | q
      · exact List.mem_append_left _ q
      · exact List.mem_append_right _ (by rw [ew]; exact q)
  · rw [List.map_append]
    exact List.mem_append_left _ c.beg
theorem Cov.all {a : Abs} {reach s : Nat} {l : List Nat} {st : Hands} {S : List Step} (c : Cov a reach s l st S []) {x : Hands} (r : Rch a reach s l st x) : x ∈ S.map (·.1) := by
  obtain ⟨P, e, hP⟩ := c.cls
  rw [List.append_nil] at e
  induction r with
  | here => exact c.beg
  | go r hm ih =>
    obtain ⟨y, hy, ey⟩ := List.mem_map.mp ih
    subst ey
    exact hP y (e ▸ hy) _ hm
theorem Srch.cov {a : Abs} {reach s : Nat} {l L : List Nat} {goal st : Hands} {res : Option (List Move)} (hL : ∀ h ∈ l, h ∈ L) (hst : st ≠ goal) : ∀ (f : Nat) {S w : List Step}, Srch a reach s l L goal st S w f res → Cov a reach s l st S w → (res.isSome = true ↔ Rch a reach s l st goal) := by
  intro f
  induction f with
  | zero =>
    intro S w I c
    by_cases hw : w = []
    · subst hw
      rw [I.none_.1]
      exact ⟨fun h => by simp at h, fun h => absurd (c.all h) I.none_.2⟩
    · obtain ⟨f', ef⟩ := I.fuel hw
      omega
  | succ f ih =>
    intro S w I c
    by_cases hg : goal ∈ S.map (·.1)
    · obtain ⟨y, hy, ey⟩ := List.mem_map.mp hg
      obtain ⟨h1, h2⟩ := I.some_ hy ey hst
      rw [h1]
      exact ⟨fun _ => ey ▸ c.rch y hy, fun _ => rfl⟩
    · by_cases hw : w = []
      · subst hw
        rw [I.none_.1]
        exact ⟨fun h => by simp at h, fun h => absurd (c.all h) I.none_.2⟩
      · obtain ⟨P, eS, hP⟩ := I.suf
        have e := wave_eq a reach s l S w (fun x hx => List.mem_map.mpr ⟨x, by rw [eS]; exact List.mem_append_right _ hx, rfl⟩)
        obtain ⟨f', T, ef, eT, I'⟩ := I.turn hL hw hg
        have : f' = f := by omega
        subst this
        have eT' : T = a.wave reach s l (S.map (·.1)) w := List.append_cancel_left (eT.symm.trans e)
        subst eT'
        exact ih I' c.wave
theorem up_iff {a : Abs} {reach s : Nat} {L : List Nat} (hL : 1 ≤ L.length) (hne : L.headD 0 ≠ L.getLastD 0) : (a.up reach s L).isSome = true ↔ (a.held s (L.headD 0) = true ∧ Rch a reach s (Su55.sorted L) (start L) (top L)) := by
  cases hh : a.held s (L.headD 0) with
  | false =>
    rw [up_ne hh]
    simp
  | true =>
    have I := srch_start (reach := reach) hL hh hne
    have q := Srch.cov (fun h hh => (sorted_perm L).mem_iff.mp hh) (fun q => hne (congrArg Prod.fst q)) _ I ⟨fun y hy => by
      have e : y = (start L, []) := by simpa using hy
      subst e
      exact .here, ⟨[], rfl, fun y hy => nomatch hy⟩, by simp⟩
    rw [q]
    simp
theorem up_mono {a : Abs} {n k s : Nat} {L : List Nat} (hL : 1 ≤ L.length) (hne : L.headD 0 ≠ L.getLastD 0) (h : n ≤ k) (q : (a.up n s L).isSome = true) : (a.up k s L).isSome = true := by
  rw [up_iff hL hne] at q ⊢
  exact ⟨q.1, q.2.mono h⟩
end Cw
end
section
set_option linter.all false
namespace Cw
open Su55
def cnt (a : Abs) (c i : Nat) : Nat := ((a.way c i).getD []).length
theorem cnt_none {a : Abs} {c i : Nat} (h : a.way c i = none) : cnt a c i = 0 := by unfold cnt; rw [h]; rfl
theorem cnt_some {a : Abs} {c i : Nat} {ms : List Move} (h : a.way c i = some ms) : cnt a c i = ms.length := by unfold cnt; rw [h]; rfl
theorem best1_first {a : Abs} {c i : Nat} {w : List Move} (h : a.way c i = some w) : best1 a c none i = some (i, w.length) := by unfold best1; rw [h]
theorem best1_some {a : Abs} {c i : Nat} {w : List Move} {b : Option (Nat × Nat)} {x : Nat × Nat} (h : a.way c i = some w) (hb : b = some x) : best1 a c b i = if x.2 < w.length then some (i, w.length) else some x := by
  subst hb
  unfold best1
  rw [h]
theorem best_at (a : Abs) (c : Nat) : ∀ n, (∀ i, i < n → ∀ ms, a.way c i = some ms → ms ≠ []) →
    ((List.range n).foldl (best1 a c) none = none ∧ ∀ i, i < n → cnt a c i = 0) ∨ ∃ j, (List.range n).foldl (best1 a c) none = some (j, cnt a c j) ∧ j < n ∧ 0 < cnt a c j ∧ (∀ i, i < n → cnt a c i ≤ cnt a c j) ∧ ∀ i, i < j → cnt a c i < cnt a c j
  | 0, _ => .inl ⟨rfl, fun i hi => by omega⟩
  | n + 1, hne => by
    rw [best_succ]
    cases hw : a.way c n with
    | none =>
      have e : best1 a c ((List.range n).foldl (best1 a c) none) n = (List.range n).foldl (best1 a c) none := by unfold best1; rw [hw]
      have z := cnt_none hw
      rw [e]
      rcases best_at a c n (fun i hi => hne i (by omega)) with ⟨h1, h2⟩ | ⟨j, h1, h2, h3, h4, h5⟩
      · refine .inl ⟨h1, fun i hi => ?_⟩
        by_cases q : i = n
        · rw [q]; exact z
        · exact h2 i (by omega)
      · refine .inr ⟨j, h1, by omega, h3, fun i hi => ?_, h5⟩
        by_cases q : i = n
        · rw [q, z]; omega
        · exact h4 i (by omega)
    | some w =>
      have z := cnt_some hw
      have wp : 0 < w.length := List.length_pos_iff.mpr (hne n (by omega) w hw)
      rcases best_at a c n (fun i hi => hne i (by omega)) with ⟨h1, h2⟩ | ⟨j, h1, h2, h3, h4, h5⟩
      · have e : best1 a c ((List.range n).foldl (best1 a c) none) n = some (n, w.length) := by rw [h1]; exact best1_first hw
        rw [e]
        refine .inr ⟨n, by rw [z], by omega, by omega, fun i hi => ?_, fun i hi => ?_⟩
        · by_cases q : i = n
          · rw [q]; omega
          · rw [h2 i (by omega)]; omega
        · rw [h2 i hi]; omega
      · by_cases q : cnt a c j < w.length
        · have e : best1 a c ((List.range n).foldl (best1 a c) none) n = some (n, w.length) := best1_some hw h1 |>.trans (if_pos q)
          rw [e]
          refine .inr ⟨n, by rw [z], by omega, by omega, fun i hi => ?_, fun i hi => ?_⟩
          · by_cases q2 : i = n
            · rw [q2]; omega
            · have := h4 i (by omega); omega
          · have := h4 i hi; omega
        · have e : best1 a c ((List.range n).foldl (best1 a c) none) n = some (j, cnt a c j) := best1_some hw h1 |>.trans (if_neg q)
          rw [e]
          refine .inr ⟨j, rfl, by omega, h3, fun i hi => ?_, h5⟩
          by_cases q2 : i = n
          · rw [q2]; omega
          · exact h4 i (by omega)
theorem reach_is {a : Abs} {r k : Nat} (hk : k ≤ 71) (h1 : (a.up k 9 (a.route r).holds).isSome = true) (h2 : ∀ j, j < k → (a.up j 9 (a.route r).holds).isSome = false) : a.leastReach r = some k :=
  find_range (p := fun n => (a.up n 9 (a.route r).holds).isSome) h1 h2 (show k < 71 + 1 by omega)
theorem reach_none {a : Abs} {r : Nat} (h : ∀ j, j ≤ 71 → (a.up j 9 (a.route r).holds).isSome = false) : a.leastReach r = none :=
  find_range_none (p := fun n => (a.up n 9 (a.route r).holds).isSome) (m := 71 + 1) fun j hj => h j (by omega)
theorem inner_len {l : List Nat} {h : Nat} (q : h ∈ Su55.inner l) : 3 ≤ l.length := by
  have := List.length_pos_of_mem q
  unfold Su55.inner at this
  rw [List.length_dropLast, List.length_drop] at this
  omega
theorem without_len {l : List Nat} {h : Nat} (nd : l.Nodup) (q : h ∈ Su55.inner l) : (l.filter fun i => i != h).length = l.length - 1 := by
  rw [← List.length_erase_of_mem (inner_sub h q), nd.erase_eq_filter]
theorem wears_with (ms : List Move) (C : List Climber) : ∀ (a : Abs), ({ a with climbers := C } : Abs).wears ms = { (a.wears ms) with climbers := C } := by
  unfold Abs.wears
  induction ms with
  | nil => intro a; rfl
  | cons m ms ih =>
    intro a
    rw [List.foldl_cons, List.foldl_cons]
    exact ih { a with holds := a.holds.modify m.2 (worn a.wear) }
theorem climbed_eq (a : Abs) (c : Nat) (ms : List Move) : a.climbed c ms = ({ a with climbers := a.climbers.modify c fun z => { z with climbs := z.climbs + 1, moves := z.moves + ms.length } } : Abs).wears ms := by
  rw [wears_with]
  rfl
theorem worse_with (a : Abs) (C : List Climber) (b : Abs) : ({ a with climbers := C } : Abs).worse b = a.worse b := rfl
end Cw
end
section
set_option Elab.async false
set_option linter.all false
set_option maxRecDepth 100000
namespace Cw
open PySem
section
variable {prog : Program} {w : World} {A : Around} {R : Result → Shared → Prop} {J : Addr} {fp wr : List Addr} {n : Nat} {P : Nat → Value → Prop} {St : Nat → Heap → Prop}
theorem mx_name : (toString "max" ++ toString ".loop" : String) = "max.loop" := by decide
theorem mx_args (a v : Value) : argsOk "max" ⟨[a], [(Str.ofString "default", v)]⟩ := by unfold argsOk; kernel_rfl
theorem mx_loop (W : Walks prog w A.in1 J fp wr n P St) (gt : Nat → Nat → Bool) (cmp : CmpOf prog w A.in1 .Gt P gt) (B : Addr) (fB : B ∉ fp) (kw : List (Str × Value)) : ∀ (d i : Nat) (s : Shared) (u : Value) (c : Nat), n - (i + 1) = d → i + 1 ≤ n → St (i + 1) s.heap → P (argBest gt i) u →
    s.heap.get? B = some { cls := .type "list", dict := none, data := .seq #[u, u] c, slots := #[] } →
    (∀ v h' tk, P (argBest gt (n - 1)) v → (∀ b o, b ∉ wr → b ≠ B → s.heap.get? b = some o → h'.get? b = some o) → R (.ok (.ret v)) { s with heap := h', toks := tk }) → codeAny (model prog w) A (.builtin "max.loop" ⟨[.ref J, .none, .ref B], kw⟩) R s := by
  have wB : B ∉ wr := fun q => fB (W.sub _ q)
  intro d
  induction d with
  | zero =>
    intro i s u c ed hi st pu hB r
    have en : i + 1 = n := by omega
    apply codeAny_builtin F.entry_max_loop; rw [Around.under_plainId F.plain_max_loop _]; show wpAny _ A.in1 (seqItems? (.ref B) >>= _) _ _ s
    refine wpAny_bind (wpAny_seqItems hB rfl ?_); show wpAny _ A.in1 (tryCatch (pyNext (.ref J)) _ >>= _) _ _ s
    refine wpAny_bind (wpAny_tryCatch (W.done s _ _ (en ▸ st) fun h1 t1 k1 => ?_))
    have hB1 := k1 B _ wB hB
    show wpAny _ A.in1 (updateSeq B (fun _ => #[]) >>= _) _ _ _
    refine wpAny_bind (wpAny_updateSeq hB1 rfl (wpAny_bind (wpAny_letGo (wpAny_pure (r u _ t1 (by rw [← en]; exact pu) fun b o nb nB e => ?_)))))
    exact (Heap.get?_update_other _ _ (Ne.symm nB)).trans (k1 b o nb e)
  | succ d ih =>
    intro i s u c ed hi st pu hB r
    have lt : i + 1 < n := by omega
    apply codeAny_builtin F.entry_max_loop; rw [Around.under_plainId F.plain_max_loop _]; show wpAny _ A.in1 (seqItems? (.ref B) >>= _) _ _ s
    refine wpAny_bind (wpAny_seqItems hB rfl ?_); show wpAny _ A.in1 (tryCatch (pyNext (.ref J)) _ >>= _) _ _ s
    refine wpAny_bind (wpAny_tryCatch (W.item (i + 1) s _ _ lt st fun v h1 t1 pv st1 k1 => ?_))
    have hB1 := k1 B _ wB hB
    show wpAny _ A.in1 (tryCatch (holding [v, v] (richCompare .Gt v u >>= _)) _ >>= _) _ _ _
    refine wpAny_bind (wpAny_tryCatch (wpAny_holding (wpAny_bind (cmp (i + 1) (argBest gt i) v u _ _ _ pv pu ?_))))
    refine wpAny_bind (wpAny_holding (wpAny_truthy_bool ?_)); refine wpAny_bind (wpAny_letGo (wpAny_pure ?_))
    cases g : gt (i + 1) (argBest gt i) with
    | true =>
      simp only [if_true]
      refine wpAny_bind (wpAny_updateSeq hB1 rfl (wpAny_bind (wpAny_letGo ?_)))
      rw [mx_name]
      refine wpAny_pure ⟨plainId_quiet F.plain_max_loop _, ih (i + 1) _ v _ (by omega) lt (W.frame _ _ _ st1 fun b hb o e => ?_) (by simp only [argBest, g, if_true]; exact pv) (Heap.get?_update_self _ hB1 rfl) fun z h2 t2 pz k2 => ?_⟩
      · exact (Heap.get?_update_other _ _ (fun q : B = b => fB (by rw [q]; exact hb))).trans e
      · exact r z h2 t2 pz fun b o nb nB e => k2 b o nb nB ((Heap.get?_update_other _ _ (Ne.symm nB)).trans (k1 b o nb e))
    | false =>
      simp only [Bool.false_eq_true, if_false]
      refine wpAny_bind (wpAny_letGo ?_)
      rw [mx_name]
      refine wpAny_pure ⟨plainId_quiet F.plain_max_loop _, ih (i + 1) _ u c (by omega) lt st1 (by simp only [argBest, g, Bool.false_eq_true, if_false]; exact pu) hB1 fun z h2 t2 pz k2 => r z h2 t2 pz fun b o nb nB e => k2 b o nb nB (k1 b o nb e)⟩
theorem mx_first (W : Walks prog w A.in1 J fp wr n P St) (gt : Nat → Nat → Bool) (cmp : CmpOf prog w A.in1 .Gt P gt) (B : Addr) (fB : B ∉ fp) {d : Value} {s : Shared} {c : Nat} (st : St 0 s.heap)
    (hB : s.heap.get? B = some { cls := .type "list", dict := none, data := .seq #[] c, slots := #[] })
    (r : ∀ v h' tk, (n = 0 ∧ v = d ∨ 0 < n ∧ P (argBest gt (n - 1)) v) → (∀ b o, b ∉ wr → b ≠ B → s.heap.get? b = some o → h'.get? b = some o) → R (.ok (.ret v)) { s with heap := h', toks := tk }) :
    codeAny (model prog w) A (.builtin "max.loop" ⟨[.ref J, .none, .ref B], [("default", d)]⟩) R s := by
  have wB : B ∉ wr := fun q => fB (W.sub _ q)
  apply codeAny_builtin F.entry_max_loop; rw [Around.under_plainId F.plain_max_loop _]; show wpAny _ A.in1 (seqItems? (.ref B) >>= _) _ _ s
  refine wpAny_bind (wpAny_seqItems hB rfl ?_); show wpAny _ A.in1 (tryCatch (pyNext (.ref J)) _ >>= _) _ _ s
  by_cases n0 : n = 0
  · refine wpAny_bind (wpAny_tryCatch (W.done s _ _ (n0 ▸ st) fun h1 t1 k1 => ?_))
    show wpAny _ A.in1 (rule _ >>= _) _ _ _
    exact wpAny_bind (wpAny_rule (wpAny_pure (r d h1 t1 (.inl ⟨n0, rfl⟩) fun b o nb _ e => k1 b o nb e)))
  · have np : 0 < n := by omega
    refine wpAny_bind (wpAny_tryCatch (W.item 0 s _ _ np st fun v h1 t1 pv st1 k1 => ?_))
    have hB1 := k1 B _ wB hB
    show wpAny _ A.in1 (updateSeq B (fun _ => #[v, v]) >>= _) _ _ _
    refine wpAny_bind (wpAny_updateSeq hB1 rfl ?_)
    rw [mx_name]
    refine wpAny_pure ⟨plainId_quiet F.plain_max_loop _, mx_loop W gt cmp B fB _ _ 0 _ v _ rfl np (W.frame _ _ _ st1 fun b hb o e => ?_) pv (Heap.get?_update_self _ hB1 rfl) fun z h2 t2 pz k2 => ?_⟩
    · exact (Heap.get?_update_other _ _ (fun q : B = b => fB (by rw [q]; exact hb))).trans e
    · exact r z h2 t2 (.inr ⟨np, pz⟩) fun b o nb nB e => k2 b o nb nB ((Heap.get?_update_other _ _ (Ne.symm nB)).trans (k1 b o nb e))
end
end Cw
end
section
set_option Elab.async false
set_option linter.all false
set_option maxRecDepth 100000
namespace L2
open PySem PySem.Spec PyProof.Rows
theorem loc_ {sc : Scope} {x : Str} (h : Loc sc x := by first | exact Or.inl rfl | exact Or.inr rfl) : Loc sc x := h
theorem bt_len : bootBuiltins "len" = some (.builtin "len") := by decide +kernel
theorem bt_any : bootBuiltins "any" = some (.builtin "any") := by decide +kernel
theorem bt_max : bootBuiltins "max" = some (.builtin "max") := by decide +kernel
theorem bt_sorted : bootBuiltins "sorted" = some (.builtin "sorted") := by decide +kernel
theorem bt_set : bootBuiltins "set" = some (.type "set") := by decide +kernel
theorem bt_list : bootBuiltins "list" = some (.type "list") := by decide +kernel
end L2
namespace PySem.AutoSeq1
theorem extend_tuple_any (l : Addr) (items : Array Value) (n : Nat) (b : Addr) (items2 : Array Value) (n2 : Nat) (od : Option Addr) (osl : Array (Option Value)) (hs0 : ¬(!items.isEmpty && Builtin.List.listTooLong (items.size + items2.size)) = true) (hs1 : items.size ≤ sizeLine) (hs2 : items.size + items2.size ≤ sizeLine + 1) :
    Meets (Builtin.«list.extend» ⟨[.ref l, .ref b], []⟩) (fun _ R s => s.heap.get? l = some { cls := .type "list", dict := none, data := .seq items n, slots := #[] } ∧ s.heap.get? b = some { cls := .type "tuple", dict := od, data := .seq items2 n2, slots := osl } ∧ R (.ok (.ret Value.none)) { s with heap := s.heap.update l (Obj.mapSeq fun x => x ++ items2), toks := s.toks }) :=
  .of_wp fun prog w A R s h => by
    obtain ⟨hh, gg, dd, tk, os⟩ := s
    obtain ⟨hl, hb, h⟩ := h
    have f1 := idx_int
    have f2 := sub_tuple_tuple
    have f3 := sub_list_list
    have f4 := sub_tuple_list
    have f5 := sub_list_tuple
    have hz2 : (items ++ items2).size ≤ sizeLine + 1 := by
      rw [Array.size_append]
      exact hs2
    wp_walk using (wpAny_updateSeq hl rfl (hz := hs1) (_hz' := hz2)), wpAny_loadPart' hl, wpAny_loadPart' hb
    exact ⟨_, rfl, h⟩
end PySem.AutoSeq1
namespace L2
open PySem PySem.Spec PyProof.Rows
section
variable {X : Cx}
def rLen (K : PySem.W.Frag) : List V → Hp → VK → Prop := fun xs H Q => ∃ p ys, xs = [.ref p] ∧ (SqL K H p ys ∨ SqT K H p ys) ∧ Q (.int ys.length) H
theorem cr_len : CallR X (.builtin "len") (rLen X.K) := call_len_seq
def tTru (K : PySem.W.Frag) (ta : TE) : TT := fun σ H Q => ta σ H fun x H' => ∃ k, TruV K x H' k ∧ Q k H'
theorem pe_const {x : Str} {i : Int} {pos : Pos} (hg : Gl X x) (h : ∃ t, X.mg x = some (.int i t)) (hd : (x == ("__debug__" : Str)) = false := by decide) : PE X (.Name x pos) (tC (.int i)) := by
  obtain ⟨t, e⟩ := h
  exact pe_glob hg e ⟨t, rfl⟩ hd
def rExtendT (K : PySem.W.Frag) : V → List V → Hp → VK → Prop := fun x vs H Q => ∃ l b xs zs, x = .ref l ∧ vs = [.ref b] ∧ H l = some (.lst xs) ∧ SqT K H b zs ∧ xs.length + zs.length ≤ sizeLine ∧ Q .non (upd H l (.lst (xs ++ zs)))
theorem mt_extendT : MtR X "list.extend" (rExtendT X.K) := by
  intro pins s σ H x vs v us Q I rx rv h
  obtain ⟨l, b, xs, zs, rfl, rfl, hH, hB, hz, q⟩ := h
  cases rx
  obtain ⟨u, rfl, ru⟩ := rv.one
  cases ru
  obtain ⟨z, its, n, r, hl, e⟩ := I.lstM hH
  obtain ⟨its2, r2, ⟨o2, e2, c2, n2, d2⟩, hz2⟩ := I.tuple hB
  have hl2 := r2.length
  obtain ⟨ocls, odict, odata, oslots⟩ := o2
  have c2' : ocls = .type "tuple" := c2
  have d2' : odata = .seq its2.toArray n2 := d2
  subst c2' d2'
  have hsz : its.toArray.size + its2.toArray.size ≤ sizeLine := by rw [List.size_toArray, List.size_toArray]; omega
  have hlong : ¬ (!its.toArray.isEmpty && Builtin.List.listTooLong (its.toArray.size + its2.toArray.size)) = true := by
    rw [notLongL hsz, Bool.and_false]
    exact Bool.false_ne_true
  refine call_meets PySem.F.slot_list_extend ⟨_, e, rfl⟩ PySem.F.entry_list_extend (PySem.F.args_list_extend_2 _ _)
    (AutoSeq1.extend_tuple_any l its.toArray n b its2.toArray n2 odict oslots hlong (by rw [List.size_toArray]; omega) (by omega)) ⟨e, e2, ?_⟩
  refine ⟨.non, _, I.lset (its' := its ++ its2) hH e (by simp) (r.append r2) ?_, rfl, q⟩
  rw [List.length_append]
  omega
theorem dedup_len : ∀ (ns σ : List Int), σ.Nodup → (ns.foldl step_dedup σ).length ≤ σ.length + ns.length ∧ ((ns.foldl step_dedup σ).length = σ.length + ns.length ↔ ns.Nodup ∧ ∀ x ∈ ns, x ∉ σ)
  | [], σ, _ => ⟨Nat.le_refl _, by simp⟩
  | n :: ns, σ, hs => by
    rw [List.foldl_cons, List.length_cons]
    unfold step_dedup
    by_cases h : σ.any (· == n) = true
    · rw [if_pos h]
      have hm : n ∈ σ := by
        obtain ⟨y, hy, e⟩ := List.any_eq_true.mp h
        rw [← eq_of_beq e]
        exact hy
      have ih := dedup_len ns σ hs
      refine ⟨by have := ih.1; unfold step_dedup at this; omega, fun e => ?_, fun e => absurd hm (e.2 n (List.mem_cons_self ..))⟩
      have := ih.1
      unfold step_dedup at this
      omega
    · rw [if_neg h]
      have hm : n ∉ σ := fun q => h (List.any_eq_true.mpr ⟨n, q, beq_self_eq_true n⟩)
      have hs' : (σ ++ [n]).Nodup := List.nodup_append.mpr ⟨hs, by simp, fun a ha b hb e => hm (by
        have : b = n := by simpa using hb
        rw [← this, ← e]
        exact ha)⟩
      have ih := dedup_len ns (σ ++ [n]) hs'
      rw [List.length_append, List.length_singleton] at ih
      have e1 : (List.foldl step_dedup (σ ++ [n]) ns).length = (List.foldl (fun σ v => if (σ.any fun x => x == v) = true then σ else σ ++ [v]) (σ ++ [n]) ns).length := rfl
      refine ⟨by have := ih.1; unfold step_dedup at this; omega, fun e => ?_, fun e => ?_⟩
      · have q := ih.2.mp (by unfold step_dedup; omega)
        refine ⟨List.nodup_cons.mpr ⟨fun z => q.2 n z (by simp), q.1⟩, fun x hx => ?_⟩
        rcases List.mem_cons.mp hx with rfl | hx
        · exact hm
        · exact fun z => q.2 x hx (List.mem_append_left _ z)
      · have q := ih.2.mpr ⟨(List.nodup_cons.mp e.1).2, fun x hx z => by
          rcases List.mem_append.mp z with z | z
          · exact e.2 x (List.mem_cons_of_mem _ hx) z
          · have : x = n := by simpa using z
            exact (List.nodup_cons.mp e.1).1 (this ▸ hx)⟩
        unfold step_dedup at q
        omega
theorem range_getD : ∀ (ns : List Int), (List.range ns.length).map (fun i => ns.getD i 0) = ns := by
  intro ns
  apply List.ext_getElem?
  intro i
  rw [List.getElem?_map]
  by_cases h : i < ns.length
  · rw [List.getElem?_range h, List.getElem?_eq_getElem h]
    simp [List.getD_eq_getElem?_getD, List.getElem?_eq_getElem h]
  · rw [List.getElem?_eq_none (by simpa using h), List.getElem?_eq_none (by omega)]
    rfl
def rSet (K : PySem.W.Frag) : List V → Hp → VK → Prop := fun vs H Q => ∃ (a : Addr) (ns : List Int), vs = [V.ref a] ∧ SqL K H a (ns.map V.int) ∧ ns.length ≤ 100 ∧
  ∀ (p : Addr) (S : Int → Bool) (n : Nat), H p = none → (n = ns.length ↔ ns.Nodup) → n ≤ ns.length → Q (.ref p) (upd H p (.set S n))
theorem cr_set (hc : X.calm = true) : CallR X (.type "set") (rSet X.K) := by
  intro pins s σ H vs us Q I r h
  obtain ⟨a, ns, rfl, hs, hn, q⟩ := h
  obtain ⟨its, rv, hl, _⟩ := I.list hs
  rw [Vals.ref1 r]
  have hi := rv.ints
  have hlen : its.length = ns.length := hi.length
  refine PySem.call_set_list (items := its.toArray) (ns := ns) (I.ok.hd hc) hl.isList (by simpa using hi) (by rw [List.size_toArray, hlen]; unfold scanBound; omega) fun h' tk hS hk => ?_
  have esz : its.toArray.size = ns.length := by rw [List.size_toArray]; exact hlen
  rw [esz] at hS
  have e : firstMet (fun i => ns.getD i 0) ns.length = ns.foldl step_dedup [] := by
    unfold firstMet
    rw [range_getD]
  rw [e] at hS
  have d := dedup_len ns [] .nil
  rw [List.length_nil, Nat.zero_add] at d
  refine ⟨.ref s.heap.objs.size, upd H s.heap.objs.size (.set _ _), I.laid (t' := tk) (fun b o eo => hk b o (Heap.lt_size eo) eo) (Nat.le_refl _) hS, rfl, q _ _ _ (I.hok.fresh (Nat.le_refl _)) ⟨fun z => (d.2.mp z).1, fun z => d.2.mpr ⟨z, fun _ _ w => nomatch w⟩⟩ d.1⟩
theorem cr_lenset : CallR X (.builtin "len") (fun xs H Q => ∃ a S n, xs = [.ref a] ∧ H a = some (.set S n) ∧ Q (.int n) H) := by
  intro pins s σ H xs us Q I r h
  obtain ⟨a, S, n, rfl, ha, q⟩ := h
  obtain ⟨u, rfl, ru⟩ := vals1 r
  cases ru
  have hS : s.heap.SetOf (intKind X.prog X.w) a S n := I.hok a _ ha
  obtain ⟨o, es, ep, t, ho, hex, hd, hel, hmem, hb, hf, en⟩ := hS
  subst en
  exact call_len_set ho hex hd hf (by have := fits_of_scanBound hb; rw [sizeLine_eq] at this; omega) ⟨.int es.size, H, (I.tok _).tok _, ⟨_, rfl⟩, q⟩
def tDispT (tk tv : TE) : TE := fun σ H Q => ∀ p, H p = none → tk σ (upd H p (.dT [])) fun x H1 => tv σ H1 fun y H2 => ∃ b k, x = .ref b ∧ H2 p = some (.dT []) ∧ H2 b = some (.tup (k.map kV)) ∧ Q (.ref p) (upd H2 p (.dT [(k, y)]))
theorem pe_dispT {k v : Expr} {pos : Pos} {tk tv : TE} (hu : X.A.units + 1 < cLine) (hk : PE X k tk) (hv : PE X v tv) : PE X (.Dict [some k] [v] pos) (tDispT tk tv) := by
  intro pins s σ H Q I h
  have hn := I.hok.fresh (Nat.le_refl s.heap.objs.size)
  have I1 := I.laid (a := s.heap.objs.size) (o := .dT []) (h' := s.heap.push { cls := .type "dict", data := .dict #[] }) (t' := s.toks) (fun _ _ q => Heap.get?_push_of_some _ q) (Nat.le_refl _) (dt_empty s.heap I.big)
  rw [arm_eval_Dict, zip_pairTrees [some k] [v] X.env pos rfl rfl, dictDisplay_pairs _ (by simp [pairTrees]) (by simp [pairTrees])]
  refine wpAny_bind (wpAny_standAt (wpAny_bind ?_))
  unfold subDict
  refine wpAny_bind (wpAny_alloc ?_)
  refine wpAny_bind (wpAny_holding ?_)
  rw [if_pos (by simp [pairTrees])]
  refine wpAny_bind (pairTrees_cons_walk (thn (hk pins _ σ _ _ I1 (h _ hn)) fun u s1 ⟨x, H1, I2, rx, q1⟩ => thn (hv pins s1 σ H1 _ I2 q1) fun u2 s2 ⟨y, H2, I3, ry, b, ks, ex, hd2, hb2, q2⟩ => pairTrees_nil_walk ?_))
  subst ex
  cases (show u = Value.ref b from rx)
  refine wpAny_holding ?_
  rw [List.forIn_cons]
  obtain ⟨z, hdm, xs, rel, dd⟩ := dt_of I3.hok hd2
  refine wpAny_bind (wpAny_bind (wpAny_bind (wpAny_dictSet_heap (hsz := by rw [← Paired.length rel]; exact z) (show (tupleKind (mixKind X.prog X.w)).room X.A from Nat.lt_of_succ_lt hu) (key_of I3.hok hb2) dd fun h' dd' hs => wpAny_pure ?_)))
  dsimp only
  rw [List.forIn_nil]
  refine wpAny_pure (wpAny_pure (wpAny_pure (wpAny_pure ?_)))
  obtain ⟨q, es, ep, hq, h2, h3, h4, _, h5⟩ := dd'
  refine ⟨.ref s.heap.objs.size, upd H2 s.heap.objs.size (.dT (putK [] ks y)), d_write I3 (by rw [hd2]; exact True.intro) hs ⟨q, hq⟩ ⟨by show 1 ≤ sizeLine; decide, hdm, _, (rel.put ks hb2 ry).keeps fun c ys ec => ?_, q, es, ep, hq, h2, h3, h4, h5⟩, rfl, q2⟩
  rw [upd_ne (ne_of ec hd2 (fun z => nomatch z))]
  exact ec
end
end L2
namespace L2
open PySem PySem.Spec PyProof.Rows
section
variable {prog : Program} {w : World} {A : Around} {E : Value → Shared → Prop} {s : Shared} {l : Addr} {its : List Value} {ns : List Int} {d : Value} {Q : Value → Shared → Prop}
theorem maxd_raw (hh : A.handled = none) (hl : s.heap.IsList l its.toArray) (hi : IntsAre its ns)
    (h : ∀ v h' tk, (ns = [] ∧ v = d ∨ ∃ m t, v = .int m t ∧ m ∈ ns ∧ ∀ a, a ∈ ns → a ≤ m) → (∀ b o, s.heap.get? b = some o → h'.get? b = some o) → Q v { s with heap := h', toks := tk }) : wpAny (model prog w) A (call (.builtin "max") [.ref l] [(Str.ofString "default", d)]) Q E s := by
  obtain ⟨xs, e⟩ := hi.allInts.items
  have hn : numsOf (intItems xs).toList = ns := by rw [← e]; exact hi.numsOf
  rw [nums_intItems] at hn; subst hn; rw [e] at hl
  refine kmk_tree PySem.F.kind_max PySem.F.plain_max PySem.F.entry_max (Cw.mx_args _ _) ?_
  show wpAny _ A.in1 (Builtin.Builtins.bindParams "max" ["key", "default"] 0 ⟨[], [(Str.ofString "default", d)]⟩ >>= _) _ _ s
  refine wpAny_bind (wpAny_of_eq (show Builtin.Builtins.bindParams "max" ["key", "default"] 0 ⟨[], [(Str.ofString "default", d)]⟩ = pure [none, some d] from rfl) (wpAny_bind (wpAny_pure ?_)))
  refine wpAny_bind (iter_intList hl fun s₂ e2 st hfp hlI => ?_)
  subst e2
  refine wpAny_bind (wpAny_newObj_type ?_)
  rw [Cw.mx_name]
  refine wpAny_pure ⟨plainId_quiet PySem.F.plain_max_loop _, Cw.mx_first (Walks.list (A := A.in1) hh _ l hlI (intItems xs)) _ (CmpOf.ints_gt (numAt xs) (fun _ _ => intItems_at)) _ (fun q => Nat.lt_irrefl _ (hfp _ q)) ⟨⟨_, Heap.get?_push_of_some _ (Heap.get?_push_size _ rfl), rfl, rfl⟩, st.2.push _⟩ (Heap.get?_push_size _ rfl) fun v h' tk hv hk => ?_⟩
  refine h v h' tk ?_ fun b o eb => ?_
  · rcases hv with ⟨z, rfl⟩ | ⟨z, hv⟩
    · refine .inl ⟨?_, rfl⟩
      have : xs.size = 0 := by simpa [intItems] using z
      rw [List.map_eq_nil_iff]
      exact List.length_eq_zero_iff.mp (by rw [Array.length_toList]; exact this)
    · have hz : 0 < xs.size := by simpa [intItems] using z
      obtain ⟨t, rfl⟩ := intItems_at hv
      obtain ⟨h1, h2⟩ := argBest_gt (numAt xs) ((intItems xs).size - 1)
      have es : (intItems xs).size = xs.size := by simp [intItems]
      rw [es] at h1 h2
      refine .inr ⟨_, t, rfl, ?_, fun a ha => ?_⟩
      · rw [numAt_eq, es]; exact PySem.getD_mem (by rw [List.length_map, Array.length_toList]; omega)
      · obtain ⟨j, hj, rfl⟩ := mem_getD ha
        rw [List.length_map, Array.length_toList] at hj
        rw [← numAt_eq, es]; exact h2 j (by omega)
  · have hb := Heap.lt_size eb
    refine hk b o (fun q => Nat.ne_of_lt hb (List.mem_singleton.mp q)) (Nat.ne_of_lt ?_) (Heap.get?_push_of_some _ (Heap.get?_push_of_some _ eb))
    show b < (s.heap.push _).objs.size
    rw [Heap.size_push]
    exact Nat.lt_succ_of_lt hb
end
section
variable {X : Cx}
def tMaxD (K : PySem.W.Frag) (te td : TE) : TE := fun σ H Q => te σ H fun x H1 => td σ H1 fun y H2 => ∃ (a : Addr) (ns : List Int), [x] = [V.ref a] ∧ SqL K H2 a (ns.map V.int) ∧ (ns = [] → Q y H2) ∧ ∀ m, m ∈ ns → (∀ z, z ∈ ns → z ≤ m) → Q (.int m) H2
theorem pe_maxd {e d : Expr} {te td : TE} {p kp pos : Pos} (hc : X.calm = true) (hg : Gl X "max") (hm : X.mg "max" = none) (he : PE X e te) (hd : PE X d td)
    (hs : starEach [e] X.env = (false, eval e X.env) :: starEach [] X.env := by rfl) : PE X (.Call (.Name "max" p) [e] [⟨some "default", d, kp⟩] pos) (tMaxD X.K te td) := by
  intro pins s σ H Q I h
  refine wpAny_Call_Name_kw (ld_blt I hg hm bt_max ?_)
  have hp : backTo pos (starEach [e] X.env) = (false, eval e X.env) :: backTo pos (starEach [] X.env) := by rw [hs]; rfl
  have h' : tCons te tNil σ H (fun vs H1 => td σ H1 fun y H2 => ∃ (a : Addr) (ns : List Int), vs = [V.ref a] ∧ SqL X.K H2 a (ns.map V.int) ∧ (ns = [] → Q y H2) ∧ ∀ m, m ∈ ns → (∀ z, z ∈ ns → z ≤ m) → Q (.int m) H2) := h
  refine PyProof.Rows.callWith_kw (thn (pa_cons he pa_nil hs pos pins s σ H _ I h') fun us s1 ⟨vs, H1, I1, r1, q1⟩ => kws_cons (thn (hd pins s1 σ H1 _ I1 q1) fun v s2 ⟨y, H2, I2, r2, a, ns, e1, hq, q2, q3⟩ => kws_nil ?_)) hp (by rw [hp]; rfl)
  subst e1
  obtain ⟨its, rv, hl, _⟩ := I2.list hq
  rw [Vals.ref1 r1]
  show wpAny _ _ (call (.builtin "max") [.ref a] [(Str.ofString "default", v)]) _ _ _
  refine maxd_raw (I2.ok.hd hc) hl.isList rv.ints fun u h' tk hu hk => ?_
  rcases hu with ⟨z, rfl⟩ | ⟨m, t, rfl, m1, m2⟩
  · exact ⟨y, H2, I2.kept hk, r2, q2 z⟩
  · exact ⟨.int m, H2, I2.kept hk, ⟨t, rfl⟩, q3 m m1 m2⟩
end
end L2
end
section
set_option Elab.async false
set_option linter.all false
set_option maxRecDepth 100000
namespace Cw
open PySem PySem.Spec PyProof.Rows L2
def top (i : Nat) : Stmt := PySem.Challenge.pw_climbwall_s01_answers.main.body.getD i (.Pass ⟨0, 0, 0, 0⟩)
abbrev s_can_hold : Stmt := top 12
abbrev s_apart_squared : Stmt := top 13
abbrev s_is_within_reach : Stmt := top 14
abbrev s_can_be_on : Stmt := top 15
abbrev s_hands_after : Stmt := top 16
abbrev s_spread : Stmt := top 17
abbrev s_first_way : Stmt := top 18
abbrev s_are_there : Stmt := top 20
abbrev s_way_of : Stmt := top 21
abbrev s_can_climb : Stmt := top 22
abbrev s_fewest_moves : Stmt := top 23
abbrev s_tell_way : Stmt := top 24
abbrev s_wear : Stmt := top 25
abbrev s_make_moves : Stmt := top 26
abbrev s_climb_route : Stmt := top 27
abbrev s_begin : Stmt := top 44
abbrev s_is_grip : Stmt := top 45
abbrev s_is_strength : Stmt := top 46
abbrev s_is_place : Stmt := top 47
abbrev s_is_taken : Stmt := top 48
abbrev s_add_hold : Stmt := top 49
abbrev s_shift_hold : Stmt := top 50
abbrev s_take_off : Stmt := top 51
abbrev s_put_back : Stmt := top 52
abbrev s_turn_hold : Stmt := top 53
abbrev s_are_stops : Stmt := top 54
abbrev s_add_route : Stmt := top 55
abbrev s_add_climber : Stmt := top 56
abbrev s_train_climber : Stmt := top 57
abbrev s_tell_who : Stmt := top 59
abbrev s_tell_which : Stmt := top 60
abbrev s_best_route : Stmt := top 61
abbrev s_would_get_up : Stmt := top 62
abbrev s_least_reach : Stmt := top 63
abbrev s_least_strength : Stmt := top 64
abbrev s_gets_up_without : Stmt := top 65
abbrev s_needed_holds : Stmt := top 66
abbrev s_least_root : Stmt := top 69
abbrev s_tell_span : Stmt := top 70
abbrev s_is_near : Stmt := top 71
abbrev s_tell_near : Stmt := top 72
abbrev s_would_fall : Stmt := top 73
abbrev s_tell_due : Stmt := top 74
abbrev s_as_number : Stmt := top 75
abbrev s_look_at : Stmt := top 76
abbrev s_tell_route : Stmt := top 77
abbrev s_tell_log : Stmt := top 78
abbrev s_tell_state : Stmt := top 79
abbrev s_answer_hold_call : Stmt := top 107
abbrev s_answer_people_call : Stmt := top 108
abbrev s_answer_climbing_call : Stmt := top 109
abbrev s_answer_asking_call : Stmt := top 110
abbrev s_answer_telling_call : Stmt := top 111
abbrev s_answer_call : Stmt := top 112
abbrev s_answers : Stmt := top 113
abbrev s_Hold : Stmt := inClass (top 29) 0
abbrev s_Route : Stmt := inClass (top 30) 0
abbrev s_Climber : Stmt := inClass (top 31) 0
abbrev s_Wall : Stmt := inClass (top 32) 0
structure Dat where
  f_can_hold : Addr
  d_can_hold : FuncData
  f_apart_squared : Addr
  d_apart_squared : FuncData
  f_is_within_reach : Addr
  d_is_within_reach : FuncData
  f_can_be_on : Addr
  d_can_be_on : FuncData
  f_hands_after : Addr
  d_hands_after : FuncData
  f_spread : Addr
  d_spread : FuncData
  f_first_way : Addr
  d_first_way : FuncData
  f_are_there : Addr
  d_are_there : FuncData
  f_way_of : Addr
  d_way_of : FuncData
  f_can_climb : Addr
  d_can_climb : FuncData
  f_fewest_moves : Addr
  d_fewest_moves : FuncData
  f_tell_way : Addr
  d_tell_way : FuncData
  f_wear : Addr
  d_wear : FuncData
  f_make_moves : Addr
  d_make_moves : FuncData
  f_climb_route : Addr
  d_climb_route : FuncData
  f_begin : Addr
  d_begin : FuncData
  f_is_grip : Addr
  d_is_grip : FuncData
  f_is_strength : Addr
  d_is_strength : FuncData
  f_is_place : Addr
  d_is_place : FuncData
  f_is_taken : Addr
  d_is_taken : FuncData
  f_add_hold : Addr
  d_add_hold : FuncData
  f_shift_hold : Addr
  d_shift_hold : FuncData
  f_take_off : Addr
  d_take_off : FuncData
  f_put_back : Addr
  d_put_back : FuncData
  f_turn_hold : Addr
  d_turn_hold : FuncData
  f_are_stops : Addr
  d_are_stops : FuncData
  f_add_route : Addr
  d_add_route : FuncData
  f_add_climber : Addr
  d_add_climber : FuncData
  f_train_climber : Addr
  d_train_climber : FuncData
  f_tell_who : Addr
  d_tell_who : FuncData
  f_tell_which : Addr
  d_tell_which : FuncData
  f_best_route : Addr
  d_best_route : FuncData
  f_would_get_up : Addr
  d_would_get_up : FuncData
  f_least_reach : Addr
  d_least_reach : FuncData
  f_least_strength : Addr
  d_least_strength : FuncData
  f_gets_up_without : Addr
  d_gets_up_without : FuncData
  f_needed_holds : Addr
  d_needed_holds : FuncData
  f_least_root : Addr
  d_least_root : FuncData
  f_tell_span : Addr
  d_tell_span : FuncData
  f_is_near : Addr
  d_is_near : FuncData
  f_tell_near : Addr
  d_tell_near : FuncData
  f_would_fall : Addr
  d_would_fall : FuncData
  f_tell_due : Addr
  d_tell_due : FuncData
  f_as_number : Addr
  d_as_number : FuncData
  f_look_at : Addr
  d_look_at : FuncData
  f_tell_route : Addr
  d_tell_route : FuncData
  f_tell_log : Addr
  d_tell_log : FuncData
  f_tell_state : Addr
  d_tell_state : FuncData
  f_answer_hold_call : Addr
  d_answer_hold_call : FuncData
  f_answer_people_call : Addr
  d_answer_people_call : FuncData
  f_answer_climbing_call : Addr
  d_answer_climbing_call : FuncData
  f_answer_asking_call : Addr
  d_answer_asking_call : FuncData
  f_answer_telling_call : Addr
  d_answer_telling_call : FuncData
  f_answer_call : Addr
  d_answer_call : FuncData
  f_answers : Addr
  d_answers : FuncData
  c_Hold : Addr
  f_Hold : Addr
  d_Hold : FuncData
  c_Route : Addr
  f_Route : Addr
  d_Route : FuncData
  c_Climber : Addr
  f_Climber : Addr
  d_Climber : FuncData
  c_Wall : Addr
  f_Wall : Addr
  d_Wall : FuncData
  a_WIDTHS : Addr
structure Txt (K : PySem.W.Frag) (mg : Str → Option Value) (D : Dat) : Prop where
  fun_can_hold : Fun K "can_hold" "can_hold" s_can_hold D.f_can_hold D.d_can_hold
  g_can_hold : mg "can_hold" = some (.ref D.f_can_hold)
  b_can_hold : Binds K D.d_can_hold ["climber", "hold"] []
  fun_apart_squared : Fun K "apart_squared" "apart_squared" s_apart_squared D.f_apart_squared D.d_apart_squared
  g_apart_squared : mg "apart_squared" = some (.ref D.f_apart_squared)
  b_apart_squared : Binds K D.d_apart_squared ["hold", "other"] []
  fun_is_within_reach : Fun K "is_within_reach" "is_within_reach" s_is_within_reach D.f_is_within_reach D.d_is_within_reach
  g_is_within_reach : mg "is_within_reach" = some (.ref D.f_is_within_reach)
  b_is_within_reach : Binds K D.d_is_within_reach ["climber", "hold", "other"] []
  fun_can_be_on : Fun K "can_be_on" "can_be_on" s_can_be_on D.f_can_be_on D.d_can_be_on
  g_can_be_on : mg "can_be_on" = some (.ref D.f_can_be_on)
  b_can_be_on : Binds K D.d_can_be_on ["climber", "left", "right"] []
  fun_hands_after : Fun K "hands_after" "hands_after" s_hands_after D.f_hands_after D.d_hands_after
  g_hands_after : mg "hands_after" = some (.ref D.f_hands_after)
  b_hands_after : Binds K D.d_hands_after ["hands", "move"] []
  fun_spread : Fun K "spread" "spread" s_spread D.f_spread D.d_spread
  g_spread : mg "spread" = some (.ref D.f_spread)
  b_spread : Binds K D.d_spread ["holds", "climber", "moves", "ways", "rim"] []
  fun_first_way : Fun K "first_way" "first_way" s_first_way D.f_first_way D.d_first_way
  g_first_way : mg "first_way" = some (.ref D.f_first_way)
  b_first_way : Binds K D.d_first_way ["holds", "stops", "climber"] []
  fun_are_there : Fun K "are_there" "are_there" s_are_there D.f_are_there D.d_are_there
  g_are_there : mg "are_there" = some (.ref D.f_are_there)
  b_are_there : Binds K D.d_are_there ["wall", "c", "r"] []
  fun_way_of : Fun K "way_of" "way_of" s_way_of D.f_way_of D.d_way_of
  g_way_of : mg "way_of" = some (.ref D.f_way_of)
  b_way_of : Binds K D.d_way_of ["wall", "c", "r"] []
  fun_can_climb : Fun K "can_climb" "can_climb" s_can_climb D.f_can_climb D.d_can_climb
  g_can_climb : mg "can_climb" = some (.ref D.f_can_climb)
  b_can_climb : Binds K D.d_can_climb ["wall", "c", "r"] []
  fun_fewest_moves : Fun K "fewest_moves" "fewest_moves" s_fewest_moves D.f_fewest_moves D.d_fewest_moves
  g_fewest_moves : mg "fewest_moves" = some (.ref D.f_fewest_moves)
  b_fewest_moves : Binds K D.d_fewest_moves ["wall", "c", "r"] []
  fun_tell_way : Fun K "tell_way" "tell_way" s_tell_way D.f_tell_way D.d_tell_way
  g_tell_way : mg "tell_way" = some (.ref D.f_tell_way)
  b_tell_way : Binds K D.d_tell_way ["wall", "c", "r"] []
  fun_wear : Fun K "wear" "wear" s_wear D.f_wear D.d_wear
  g_wear : mg "wear" = some (.ref D.f_wear)
  b_wear : Binds K D.d_wear ["hold", "hands_to_fall"] []
  fun_make_moves : Fun K "make_moves" "make_moves" s_make_moves D.f_make_moves D.d_make_moves
  g_make_moves : mg "make_moves" = some (.ref D.f_make_moves)
  b_make_moves : Binds K D.d_make_moves ["wall", "moves"] []
  fun_climb_route : Fun K "climb_route" "climb_route" s_climb_route D.f_climb_route D.d_climb_route
  g_climb_route : mg "climb_route" = some (.ref D.f_climb_route)
  b_climb_route : Binds K D.d_climb_route ["wall", "c", "r"] []
  fun_begin : Fun K "begin" "begin" s_begin D.f_begin D.d_begin
  g_begin : mg "begin" = some (.ref D.f_begin)
  b_begin : Binds K D.d_begin ["wall", "hands_to_fall"] []
  fun_is_grip : Fun K "is_grip" "is_grip" s_is_grip D.f_is_grip D.d_is_grip
  g_is_grip : mg "is_grip" = some (.ref D.f_is_grip)
  b_is_grip : Binds K D.d_is_grip ["grip"] []
  fun_is_strength : Fun K "is_strength" "is_strength" s_is_strength D.f_is_strength D.d_is_strength
  g_is_strength : mg "is_strength" = some (.ref D.f_is_strength)
  b_is_strength : Binds K D.d_is_strength ["strength"] []
  fun_is_place : Fun K "is_place" "is_place" s_is_place D.f_is_place D.d_is_place
  g_is_place : mg "is_place" = some (.ref D.f_is_place)
  b_is_place : Binds K D.d_is_place ["x", "y"] []
  fun_is_taken : Fun K "is_taken" "is_taken" s_is_taken D.f_is_taken D.d_is_taken
  g_is_taken : mg "is_taken" = some (.ref D.f_is_taken)
  b_is_taken : Binds K D.d_is_taken ["wall", "x", "y"] []
  fun_add_hold : Fun K "add_hold" "add_hold" s_add_hold D.f_add_hold D.d_add_hold
  g_add_hold : mg "add_hold" = some (.ref D.f_add_hold)
  b_add_hold : Binds K D.d_add_hold ["wall", "x", "y", "grip"] []
  fun_shift_hold : Fun K "shift_hold" "shift_hold" s_shift_hold D.f_shift_hold D.d_shift_hold
  g_shift_hold : mg "shift_hold" = some (.ref D.f_shift_hold)
  b_shift_hold : Binds K D.d_shift_hold ["wall", "h", "x", "y"] []
  fun_take_off : Fun K "take_off" "take_off" s_take_off D.f_take_off D.d_take_off
  g_take_off : mg "take_off" = some (.ref D.f_take_off)
  b_take_off : Binds K D.d_take_off ["wall", "h"] []
  fun_put_back : Fun K "put_back" "put_back" s_put_back D.f_put_back D.d_put_back
  g_put_back : mg "put_back" = some (.ref D.f_put_back)
  b_put_back : Binds K D.d_put_back ["wall", "h"] []
  fun_turn_hold : Fun K "turn_hold" "turn_hold" s_turn_hold D.f_turn_hold D.d_turn_hold
  g_turn_hold : mg "turn_hold" = some (.ref D.f_turn_hold)
  b_turn_hold : Binds K D.d_turn_hold ["wall", "h", "grip"] []
  fun_are_stops : Fun K "are_stops" "are_stops" s_are_stops D.f_are_stops D.d_are_stops
  g_are_stops : mg "are_stops" = some (.ref D.f_are_stops)
  b_are_stops : Binds K D.d_are_stops ["stops"] []
  fun_add_route : Fun K "add_route" "add_route" s_add_route D.f_add_route D.d_add_route
  g_add_route : mg "add_route" = some (.ref D.f_add_route)
  b_add_route : Binds K D.d_add_route ["wall", "lead", "stops"] []
  fun_add_climber : Fun K "add_climber" "add_climber" s_add_climber D.f_add_climber D.d_add_climber
  g_add_climber : mg "add_climber" = some (.ref D.f_add_climber)
  b_add_climber : Binds K D.d_add_climber ["wall", "reach", "strength", "lead"] []
  fun_train_climber : Fun K "train_climber" "train_climber" s_train_climber D.f_train_climber D.d_train_climber
  g_train_climber : mg "train_climber" = some (.ref D.f_train_climber)
  b_train_climber : Binds K D.d_train_climber ["wall", "c", "strength"] []
  fun_tell_who : Fun K "tell_who" "tell_who" s_tell_who D.f_tell_who D.d_tell_who
  g_tell_who : mg "tell_who" = some (.ref D.f_tell_who)
  b_tell_who : Binds K D.d_tell_who ["wall", "r"] []
  fun_tell_which : Fun K "tell_which" "tell_which" s_tell_which D.f_tell_which D.d_tell_which
  g_tell_which : mg "tell_which" = some (.ref D.f_tell_which)
  b_tell_which : Binds K D.d_tell_which ["wall", "c"] []
  fun_best_route : Fun K "best_route" "best_route" s_best_route D.f_best_route D.d_best_route
  g_best_route : mg "best_route" = some (.ref D.f_best_route)
  b_best_route : Binds K D.d_best_route ["wall", "c"] []
  fun_would_get_up : Fun K "would_get_up" "would_get_up" s_would_get_up D.f_would_get_up D.d_would_get_up
  g_would_get_up : mg "would_get_up" = some (.ref D.f_would_get_up)
  b_would_get_up : Binds K D.d_would_get_up ["wall", "r", "reach", "strength"] []
  fun_least_reach : Fun K "least_reach" "least_reach" s_least_reach D.f_least_reach D.d_least_reach
  g_least_reach : mg "least_reach" = some (.ref D.f_least_reach)
  b_least_reach : Binds K D.d_least_reach ["wall", "r"] []
  fun_least_strength : Fun K "least_strength" "least_strength" s_least_strength D.f_least_strength D.d_least_strength
  g_least_strength : mg "least_strength" = some (.ref D.f_least_strength)
  b_least_strength : Binds K D.d_least_strength ["wall", "r"] []
  fun_gets_up_without : Fun K "gets_up_without" "gets_up_without" s_gets_up_without D.f_gets_up_without D.d_gets_up_without
  g_gets_up_without : mg "gets_up_without" = some (.ref D.f_gets_up_without)
  b_gets_up_without : Binds K D.d_gets_up_without ["wall", "c", "r", "h"] []
  fun_needed_holds : Fun K "needed_holds" "needed_holds" s_needed_holds D.f_needed_holds D.d_needed_holds
  g_needed_holds : mg "needed_holds" = some (.ref D.f_needed_holds)
  b_needed_holds : Binds K D.d_needed_holds ["wall", "c", "r"] []
  fun_least_root : Fun K "least_root" "least_root" s_least_root D.f_least_root D.d_least_root
  g_least_root : mg "least_root" = some (.ref D.f_least_root)
  b_least_root : Binds K D.d_least_root ["squared"] []
  fun_tell_span : Fun K "tell_span" "tell_span" s_tell_span D.f_tell_span D.d_tell_span
  g_tell_span : mg "tell_span" = some (.ref D.f_tell_span)
  b_tell_span : Binds K D.d_tell_span ["wall", "h", "i"] []
  fun_is_near : Fun K "is_near" "is_near" s_is_near D.f_is_near D.d_is_near
  g_is_near : mg "is_near" = some (.ref D.f_is_near)
  b_is_near : Binds K D.d_is_near ["climber", "hold", "other"] []
  fun_tell_near : Fun K "tell_near" "tell_near" s_tell_near D.f_tell_near D.d_tell_near
  g_tell_near : mg "tell_near" = some (.ref D.f_tell_near)
  b_tell_near : Binds K D.d_tell_near ["wall", "c", "h"] []
  fun_would_fall : Fun K "would_fall" "would_fall" s_would_fall D.f_would_fall D.d_would_fall
  g_would_fall : mg "would_fall" = some (.ref D.f_would_fall)
  b_would_fall : Binds K D.d_would_fall ["hold", "hands_to_fall", "hands_more"] []
  fun_tell_due : Fun K "tell_due" "tell_due" s_tell_due D.f_tell_due D.d_tell_due
  g_tell_due : mg "tell_due" = some (.ref D.f_tell_due)
  b_tell_due : Binds K D.d_tell_due ["wall", "hands_more"] []
  fun_as_number : Fun K "as_number" "as_number" s_as_number D.f_as_number D.d_as_number
  g_as_number : mg "as_number" = some (.ref D.f_as_number)
  b_as_number : Binds K D.d_as_number ["truth"] []
  fun_look_at : Fun K "look_at" "look_at" s_look_at D.f_look_at D.d_look_at
  g_look_at : mg "look_at" = some (.ref D.f_look_at)
  b_look_at : Binds K D.d_look_at ["wall", "h"] []
  fun_tell_route : Fun K "tell_route" "tell_route" s_tell_route D.f_tell_route D.d_tell_route
  g_tell_route : mg "tell_route" = some (.ref D.f_tell_route)
  b_tell_route : Binds K D.d_tell_route ["wall", "r"] []
  fun_tell_log : Fun K "tell_log" "tell_log" s_tell_log D.f_tell_log D.d_tell_log
  g_tell_log : mg "tell_log" = some (.ref D.f_tell_log)
  b_tell_log : Binds K D.d_tell_log ["wall", "c"] []
  fun_tell_state : Fun K "tell_state" "tell_state" s_tell_state D.f_tell_state D.d_tell_state
  g_tell_state : mg "tell_state" = some (.ref D.f_tell_state)
  b_tell_state : Binds K D.d_tell_state ["wall"] []
  fun_answer_hold_call : Fun K "answer_hold_call" "answer_hold_call" s_answer_hold_call D.f_answer_hold_call D.d_answer_hold_call
  g_answer_hold_call : mg "answer_hold_call" = some (.ref D.f_answer_hold_call)
  b_answer_hold_call : Binds K D.d_answer_hold_call ["wall", "call", "told"] []
  fun_answer_people_call : Fun K "answer_people_call" "answer_people_call" s_answer_people_call D.f_answer_people_call D.d_answer_people_call
  g_answer_people_call : mg "answer_people_call" = some (.ref D.f_answer_people_call)
  b_answer_people_call : Binds K D.d_answer_people_call ["wall", "call", "told", "row"] []
  fun_answer_climbing_call : Fun K "answer_climbing_call" "answer_climbing_call" s_answer_climbing_call D.f_answer_climbing_call D.d_answer_climbing_call
  g_answer_climbing_call : mg "answer_climbing_call" = some (.ref D.f_answer_climbing_call)
  b_answer_climbing_call : Binds K D.d_answer_climbing_call ["wall", "call", "told"] []
  fun_answer_asking_call : Fun K "answer_asking_call" "answer_asking_call" s_answer_asking_call D.f_answer_asking_call D.d_answer_asking_call
  g_answer_asking_call : mg "answer_asking_call" = some (.ref D.f_answer_asking_call)
  b_answer_asking_call : Binds K D.d_answer_asking_call ["wall", "call", "told"] []
  fun_answer_telling_call : Fun K "answer_telling_call" "answer_telling_call" s_answer_telling_call D.f_answer_telling_call D.d_answer_telling_call
  g_answer_telling_call : mg "answer_telling_call" = some (.ref D.f_answer_telling_call)
  b_answer_telling_call : Binds K D.d_answer_telling_call ["wall", "call", "told"] []
  fun_answer_call : Fun K "answer_call" "answer_call" s_answer_call D.f_answer_call D.d_answer_call
  g_answer_call : mg "answer_call" = some (.ref D.f_answer_call)
  b_answer_call : Binds K D.d_answer_call ["wall", "call", "told", "row"] []
  fun_answers : Fun K "answers" "answers" s_answers D.f_answers D.d_answers
  g_answers : mg "answers" = some (.ref D.f_answers)
  b_answers : Binds K D.d_answers ["calls"] []
  fun_Hold : Fun K "__init__" "Hold.__init__" s_Hold D.f_Hold D.d_Hold
  g_Hold : mg "Hold" = some (.ref D.c_Hold)
  b_Hold : Binds K D.d_Hold ["self", "x", "y", "grip"] []
  cl_Hold : Cls K D.c_Hold
  mk_Hold : Mk K D.c_Hold D.f_Hold
  na_Hold_x : NoAttr K D.c_Hold "x"
  na_Hold_y : NoAttr K D.c_Hold "y"
  na_Hold_grip : NoAttr K D.c_Hold "grip"
  na_Hold_hands : NoAttr K D.c_Hold "hands"
  na_Hold_on : NoAttr K D.c_Hold "on"
  fun_Route : Fun K "__init__" "Route.__init__" s_Route D.f_Route D.d_Route
  g_Route : mg "Route" = some (.ref D.c_Route)
  b_Route : Binds K D.d_Route ["self", "must_lead", "stops"] []
  cl_Route : Cls K D.c_Route
  mk_Route : Mk K D.c_Route D.f_Route
  na_Route_must_lead : NoAttr K D.c_Route "must_lead"
  na_Route_stops : NoAttr K D.c_Route "stops"
  fun_Climber : Fun K "__init__" "Climber.__init__" s_Climber D.f_Climber D.d_Climber
  g_Climber : mg "Climber" = some (.ref D.c_Climber)
  b_Climber : Binds K D.d_Climber ["self", "reach", "strength", "may_lead"] []
  cl_Climber : Cls K D.c_Climber
  mk_Climber : Mk K D.c_Climber D.f_Climber
  na_Climber_reach : NoAttr K D.c_Climber "reach"
  na_Climber_strength : NoAttr K D.c_Climber "strength"
  na_Climber_may_lead : NoAttr K D.c_Climber "may_lead"
  na_Climber_climbs : NoAttr K D.c_Climber "climbs"
  na_Climber_moves : NoAttr K D.c_Climber "moves"
  fun_Wall : Fun K "__init__" "Wall.__init__" s_Wall D.f_Wall D.d_Wall
  g_Wall : mg "Wall" = some (.ref D.c_Wall)
  b_Wall : Binds K D.d_Wall ["self"] []
  cl_Wall : Cls K D.c_Wall
  mk_Wall : Mk K D.c_Wall D.f_Wall
  na_Wall_begun : NoAttr K D.c_Wall "begun"
  na_Wall_hands_to_fall : NoAttr K D.c_Wall "hands_to_fall"
  na_Wall_holds : NoAttr K D.c_Wall "holds"
  na_Wall_routes : NoAttr K D.c_Wall "routes"
  na_Wall_climbers : NoAttr K D.c_Wall "climbers"
  k_NO_SUCH : ∃ t, mg "NO_SUCH" = some (.int (-2) t)
  k_NONE_AT_ALL : ∃ t, mg "NONE_AT_ALL" = some (.int (-6) t)
  k_NOT_BEGUN : ∃ t, mg "NOT_BEGUN" = some (.int (-11) t)
  k_SO_ALREADY : ∃ t, mg "SO_ALREADY" = some (.int (-17) t)
  k_OUT_OF_RANGE : ∃ t, mg "OUT_OF_RANGE" = some (.int (-22) t)
  k_TOO_MANY : ∃ t, mg "TOO_MANY" = some (.int (-28) t)
  k_NO_WAY : ∃ t, mg "NO_WAY" = some (.int (-33) t)
  k_MUST_LEAD : ∃ t, mg "MUST_LEAD" = some (.int (-61) t)
  k_LEFT : ∃ t, mg "LEFT" = some (.int (0) t)
  k_RIGHT : ∃ t, mg "RIGHT" = some (.int (1) t)
  k_ENOUGH_TO_HOLD : ∃ t, mg "ENOUGH_TO_HOLD" = some (.int (10) t)
  k_MOST_HOLDS : ∃ t, mg "MOST_HOLDS" = some (.int (20) t)
  k_MOST_ROUTES : ∃ t, mg "MOST_ROUTES" = some (.int (6) t)
  k_MOST_CLIMBERS : ∃ t, mg "MOST_CLIMBERS" = some (.int (8) t)
  k_MOST_HANDS_TO_FALL : ∃ t, mg "MOST_HANDS_TO_FALL" = some (.int (100) t)
  k_FURTHEST : ∃ t, mg "FURTHEST" = some (.int (50) t)
  k_BEST_GRIP : ∃ t, mg "BEST_GRIP" = some (.int (9) t)
  k_MOST_STRENGTH : ∃ t, mg "MOST_STRENGTH" = some (.int (9) t)
  k_MOST_REACH : ∃ t, mg "MOST_REACH" = some (.int (71) t)
  k_FEWEST_STOPS : ∃ t, mg "FEWEST_STOPS" = some (.int (2) t)
  k_MOST_STOPS : ∃ t, mg "MOST_STOPS" = some (.int (8) t)
  k_MOST_HANDS_ASKED : ∃ t, mg "MOST_HANDS_ASKED" = some (.int (100) t)
  k_BEGIN : ∃ t, mg "BEGIN" = some (.int (0) t)
  k_HOLD : ∃ t, mg "HOLD" = some (.int (1) t)
  k_SHIFT : ∃ t, mg "SHIFT" = some (.int (2) t)
  k_OFF : ∃ t, mg "OFF" = some (.int (3) t)
  k_BACK : ∃ t, mg "BACK" = some (.int (4) t)
  k_TURN : ∃ t, mg "TURN" = some (.int (5) t)
  k_ROUTE : ∃ t, mg "ROUTE" = some (.int (6) t)
  k_CLIMBER : ∃ t, mg "CLIMBER" = some (.int (7) t)
  k_TRAIN : ∃ t, mg "TRAIN" = some (.int (8) t)
  k_CAN : ∃ t, mg "CAN" = some (.int (9) t)
  k_FEWEST : ∃ t, mg "FEWEST" = some (.int (10) t)
  k_WAY : ∃ t, mg "WAY" = some (.int (11) t)
  k_CLIMB : ∃ t, mg "CLIMB" = some (.int (12) t)
  k_WHO : ∃ t, mg "WHO" = some (.int (13) t)
  k_WHICH : ∃ t, mg "WHICH" = some (.int (14) t)
  k_REACH : ∃ t, mg "REACH" = some (.int (15) t)
  k_STRONG : ∃ t, mg "STRONG" = some (.int (16) t)
  k_NEEDED : ∃ t, mg "NEEDED" = some (.int (17) t)
  k_SPAN : ∃ t, mg "SPAN" = some (.int (18) t)
  k_NEAR : ∃ t, mg "NEAR" = some (.int (19) t)
  k_DUE : ∃ t, mg "DUE" = some (.int (20) t)
  k_BEST : ∃ t, mg "BEST" = some (.int (21) t)
  k_LOOK : ∃ t, mg "LOOK" = some (.int (22) t)
  k_TOLD : ∃ t, mg "TOLD" = some (.int (23) t)
  k_LOG : ∃ t, mg "LOG" = some (.int (24) t)
  k_WIDTHS : mg "WIDTHS" = some (.ref D.a_WIDTHS)
  q_WIDTHS : ∀ H : Hp, SqT K H D.a_WIDTHS (([1, 3, 3, 1, 1, 2, 1, 3, 2, 2, 2, 2, 2, 1, 1, 1, 1, 2, 2, 2, 1, 1, 1, 1, 1, 0] : List Int).map V.int)
  n_any : mg "any" = none
  n_enumerate : mg "enumerate" = none
  n_len : mg "len" = none
  n_list : mg "list" = none
  n_max : mg "max" = none
  n_range : mg "range" = none
  n_set : mg "set" = none
  n_sorted : mg "sorted" = none
theorem sc_can_hold : FnScope ["climber", "hold"] ["climber", "hold"] (defScope s_can_hold) := ⟨rfl, rfl, rfl, by decide +kernel, rfl, by decide +kernel, by decide +kernel⟩
theorem sc_apart_squared : FnScope ["hold", "other", "across", "up"] ["hold", "other"] (defScope s_apart_squared) := ⟨rfl, rfl, rfl, by decide +kernel, rfl, by decide +kernel, by decide +kernel⟩
theorem sc_is_within_reach : FnScope ["climber", "hold", "other"] ["climber", "hold", "other"] (defScope s_is_within_reach) := ⟨rfl, rfl, rfl, by decide +kernel, rfl, by decide +kernel, by decide +kernel⟩
theorem sc_can_be_on : FnScope ["climber", "left", "right"] ["climber", "left", "right"] (defScope s_can_be_on) := ⟨rfl, rfl, rfl, by decide +kernel, rfl, by decide +kernel, by decide +kernel⟩
theorem sc_hands_after : FnScope ["hands", "move"] ["hands", "move"] (defScope s_hands_after) := ⟨rfl, rfl, rfl, by decide +kernel, rfl, by decide +kernel, by decide +kernel⟩
theorem sc_spread : FnScope ["holds", "climber", "moves", "ways", "rim", "further", "hands", "move", "after"] ["holds", "climber", "moves", "ways", "rim"] (defScope s_spread) := ⟨rfl, rfl, rfl, by decide +kernel, rfl, by decide +kernel, by decide +kernel⟩
theorem sc_first_way : FnScope ["holds", "stops", "climber", "usable", "h", "moves", "start", "top", "ways", "rim"] ["holds", "stops", "climber"] (defScope s_first_way) := ⟨rfl, rfl, rfl, by decide +kernel, rfl, by decide +kernel, by decide +kernel⟩
theorem sc_are_there : FnScope ["wall", "c", "r"] ["wall", "c", "r"] (defScope s_are_there) := ⟨rfl, rfl, rfl, by decide +kernel, rfl, by decide +kernel, by decide +kernel⟩
theorem sc_way_of : FnScope ["wall", "c", "r"] ["wall", "c", "r"] (defScope s_way_of) := ⟨rfl, rfl, rfl, by decide +kernel, rfl, by decide +kernel, by decide +kernel⟩
theorem sc_can_climb : FnScope ["wall", "c", "r"] ["wall", "c", "r"] (defScope s_can_climb) := ⟨rfl, rfl, rfl, by decide +kernel, rfl, by decide +kernel, by decide +kernel⟩
theorem sc_fewest_moves : FnScope ["wall", "c", "r", "moves"] ["wall", "c", "r"] (defScope s_fewest_moves) := ⟨rfl, rfl, rfl, by decide +kernel, rfl, by decide +kernel, by decide +kernel⟩
theorem sc_tell_way : FnScope ["wall", "c", "r", "moves", "answer", "move"] ["wall", "c", "r"] (defScope s_tell_way) := ⟨rfl, rfl, rfl, by decide +kernel, rfl, by decide +kernel, by decide +kernel⟩
theorem sc_wear : FnScope ["hold", "hands_to_fall"] ["hold", "hands_to_fall"] (defScope s_wear) := ⟨rfl, rfl, rfl, by decide +kernel, rfl, by decide +kernel, by decide +kernel⟩
theorem sc_make_moves : FnScope ["wall", "moves", "fallen", "move"] ["wall", "moves"] (defScope s_make_moves) := ⟨rfl, rfl, rfl, by decide +kernel, rfl, by decide +kernel, by decide +kernel⟩
theorem sc_climb_route : FnScope ["wall", "c", "r", "climber", "moves"] ["wall", "c", "r"] (defScope s_climb_route) := ⟨rfl, rfl, rfl, by decide +kernel, rfl, by decide +kernel, by decide +kernel⟩
theorem sc_begin : FnScope ["wall", "hands_to_fall"] ["wall", "hands_to_fall"] (defScope s_begin) := ⟨rfl, rfl, rfl, by decide +kernel, rfl, by decide +kernel, by decide +kernel⟩
theorem sc_is_grip : FnScope ["grip"] ["grip"] (defScope s_is_grip) := ⟨rfl, rfl, rfl, by decide +kernel, rfl, by decide +kernel, by decide +kernel⟩
theorem sc_is_strength : FnScope ["strength"] ["strength"] (defScope s_is_strength) := ⟨rfl, rfl, rfl, by decide +kernel, rfl, by decide +kernel, by decide +kernel⟩
theorem sc_is_place : FnScope ["x", "y"] ["x", "y"] (defScope s_is_place) := ⟨rfl, rfl, rfl, by decide +kernel, rfl, by decide +kernel, by decide +kernel⟩
theorem sc_is_taken : FnScope ["wall", "x", "y", "hold"] ["wall", "x", "y"] (defScope s_is_taken) := ⟨rfl, rfl, rfl, by decide +kernel, rfl, by decide +kernel, by decide +kernel⟩
theorem sc_add_hold : FnScope ["wall", "x", "y", "grip"] ["wall", "x", "y", "grip"] (defScope s_add_hold) := ⟨rfl, rfl, rfl, by decide +kernel, rfl, by decide +kernel, by decide +kernel⟩
theorem sc_shift_hold : FnScope ["wall", "h", "x", "y", "hold", "answer"] ["wall", "h", "x", "y"] (defScope s_shift_hold) := ⟨rfl, rfl, rfl, by decide +kernel, rfl, by decide +kernel, by decide +kernel⟩
theorem sc_take_off : FnScope ["wall", "h", "hold", "route"] ["wall", "h"] (defScope s_take_off) := ⟨rfl, rfl, rfl, by decide +kernel, rfl, by decide +kernel, by decide +kernel⟩
theorem sc_put_back : FnScope ["wall", "h", "hold"] ["wall", "h"] (defScope s_put_back) := ⟨rfl, rfl, rfl, by decide +kernel, rfl, by decide +kernel, by decide +kernel⟩
theorem sc_turn_hold : FnScope ["wall", "h", "grip", "hold", "answer"] ["wall", "h", "grip"] (defScope s_turn_hold) := ⟨rfl, rfl, rfl, by decide +kernel, rfl, by decide +kernel, by decide +kernel⟩
theorem sc_are_stops : FnScope ["stops"] ["stops"] (defScope s_are_stops) := ⟨rfl, rfl, rfl, by decide +kernel, rfl, by decide +kernel, by decide +kernel⟩
theorem sc_add_route : FnScope ["wall", "lead", "stops"] ["wall", "lead", "stops"] (defScope s_add_route) := ⟨rfl, rfl, rfl, by decide +kernel, rfl, by decide +kernel, by decide +kernel⟩
theorem sc_add_climber : FnScope ["wall", "reach", "strength", "lead"] ["wall", "reach", "strength", "lead"] (defScope s_add_climber) := ⟨rfl, rfl, rfl, by decide +kernel, rfl, by decide +kernel, by decide +kernel⟩
theorem sc_train_climber : FnScope ["wall", "c", "strength", "climber", "answer"] ["wall", "c", "strength"] (defScope s_train_climber) := ⟨rfl, rfl, rfl, by decide +kernel, rfl, by decide +kernel, by decide +kernel⟩
theorem sc_tell_who : FnScope ["wall", "r", "able", "c"] ["wall", "r"] (defScope s_tell_who) := ⟨rfl, rfl, rfl, by decide +kernel, rfl, by decide +kernel, by decide +kernel⟩
theorem sc_tell_which : FnScope ["wall", "c", "theirs", "r"] ["wall", "c"] (defScope s_tell_which) := ⟨rfl, rfl, rfl, by decide +kernel, rfl, by decide +kernel, by decide +kernel⟩
theorem sc_best_route : FnScope ["wall", "c", "counts", "r", "most"] ["wall", "c"] (defScope s_best_route) := ⟨rfl, rfl, rfl, by decide +kernel, rfl, by decide +kernel, by decide +kernel⟩
theorem sc_would_get_up : FnScope ["wall", "r", "reach", "strength"] ["wall", "r", "reach", "strength"] (defScope s_would_get_up) := ⟨rfl, rfl, rfl, by decide +kernel, rfl, by decide +kernel, by decide +kernel⟩
theorem sc_least_reach : FnScope ["wall", "r", "least", "beyond", "middle"] ["wall", "r"] (defScope s_least_reach) := ⟨rfl, rfl, rfl, by decide +kernel, rfl, by decide +kernel, by decide +kernel⟩
theorem sc_least_strength : FnScope ["wall", "r", "strength"] ["wall", "r"] (defScope s_least_strength) := ⟨rfl, rfl, rfl, by decide +kernel, rfl, by decide +kernel, by decide +kernel⟩
theorem sc_gets_up_without : FnScope ["wall", "c", "r", "h", "stops", "stop"] ["wall", "c", "r", "h"] (defScope s_gets_up_without) := ⟨rfl, rfl, rfl, by decide +kernel, rfl, by decide +kernel, by decide +kernel⟩
theorem sc_needed_holds : FnScope ["wall", "c", "r", "between", "needed", "h"] ["wall", "c", "r"] (defScope s_needed_holds) := ⟨rfl, rfl, rfl, by decide +kernel, rfl, by decide +kernel, by decide +kernel⟩
theorem sc_least_root : FnScope ["squared", "root"] ["squared"] (defScope s_least_root) := ⟨rfl, rfl, rfl, by decide +kernel, rfl, by decide +kernel, by decide +kernel⟩
theorem sc_tell_span : FnScope ["wall", "h", "i", "squared"] ["wall", "h", "i"] (defScope s_tell_span) := ⟨rfl, rfl, rfl, by decide +kernel, rfl, by decide +kernel, by decide +kernel⟩
theorem sc_is_near : FnScope ["climber", "hold", "other"] ["climber", "hold", "other"] (defScope s_is_near) := ⟨rfl, rfl, rfl, by decide +kernel, rfl, by decide +kernel, by decide +kernel⟩
theorem sc_tell_near : FnScope ["wall", "c", "h", "climber", "hold", "near", "i", "other"] ["wall", "c", "h"] (defScope s_tell_near) := ⟨rfl, rfl, rfl, by decide +kernel, rfl, by decide +kernel, by decide +kernel⟩
theorem sc_would_fall : FnScope ["hold", "hands_to_fall", "hands_more"] ["hold", "hands_to_fall", "hands_more"] (defScope s_would_fall) := ⟨rfl, rfl, rfl, by decide +kernel, rfl, by decide +kernel, by decide +kernel⟩
theorem sc_tell_due : FnScope ["wall", "hands_more", "due", "h", "hold"] ["wall", "hands_more"] (defScope s_tell_due) := ⟨rfl, rfl, rfl, by decide +kernel, rfl, by decide +kernel, by decide +kernel⟩
theorem sc_as_number : FnScope ["truth"] ["truth"] (defScope s_as_number) := ⟨rfl, rfl, rfl, by decide +kernel, rfl, by decide +kernel, by decide +kernel⟩
theorem sc_look_at : FnScope ["wall", "h", "hold"] ["wall", "h"] (defScope s_look_at) := ⟨rfl, rfl, rfl, by decide +kernel, rfl, by decide +kernel, by decide +kernel⟩
theorem sc_tell_route : FnScope ["wall", "r", "route"] ["wall", "r"] (defScope s_tell_route) := ⟨rfl, rfl, rfl, by decide +kernel, rfl, by decide +kernel, by decide +kernel⟩
theorem sc_tell_log : FnScope ["wall", "c", "climber"] ["wall", "c"] (defScope s_tell_log) := ⟨rfl, rfl, rfl, by decide +kernel, rfl, by decide +kernel, by decide +kernel⟩
theorem sc_tell_state : FnScope ["wall"] ["wall"] (defScope s_tell_state) := ⟨rfl, rfl, rfl, by decide +kernel, rfl, by decide +kernel, by decide +kernel⟩
theorem sc_answer_hold_call : FnScope ["wall", "call", "told"] ["wall", "call", "told"] (defScope s_answer_hold_call) := ⟨rfl, rfl, rfl, by decide +kernel, rfl, by decide +kernel, by decide +kernel⟩
theorem sc_answer_people_call : FnScope ["wall", "call", "told", "row"] ["wall", "call", "told", "row"] (defScope s_answer_people_call) := ⟨rfl, rfl, rfl, by decide +kernel, rfl, by decide +kernel, by decide +kernel⟩
theorem sc_answer_climbing_call : FnScope ["wall", "call", "told"] ["wall", "call", "told"] (defScope s_answer_climbing_call) := ⟨rfl, rfl, rfl, by decide +kernel, rfl, by decide +kernel, by decide +kernel⟩
theorem sc_answer_asking_call : FnScope ["wall", "call", "told"] ["wall", "call", "told"] (defScope s_answer_asking_call) := ⟨rfl, rfl, rfl, by decide +kernel, rfl, by decide +kernel, by decide +kernel⟩
theorem sc_answer_telling_call : FnScope ["wall", "call", "told"] ["wall", "call", "told"] (defScope s_answer_telling_call) := ⟨rfl, rfl, rfl, by decide +kernel, rfl, by decide +kernel, by decide +kernel⟩
theorem sc_answer_call : FnScope ["wall", "call", "told", "row"] ["wall", "call", "told", "row"] (defScope s_answer_call) := ⟨rfl, rfl, rfl, by decide +kernel, rfl, by decide +kernel, by decide +kernel⟩
theorem sc_answers : FnScope ["calls", "wall", "given", "at", "call", "row_at", "told", "row", "answer"] ["calls"] (defScope s_answers) := ⟨rfl, rfl, rfl, by decide +kernel, rfl, by decide +kernel, by decide +kernel⟩
theorem sc_Hold : FnScope ["self", "x", "y", "grip"] ["self", "x", "y", "grip"] (defScope s_Hold) := ⟨rfl, rfl, rfl, by decide +kernel, rfl, by decide +kernel, by decide +kernel⟩
theorem sc_Route : FnScope ["self", "must_lead", "stops"] ["self", "must_lead", "stops"] (defScope s_Route) := ⟨rfl, rfl, rfl, by decide +kernel, rfl, by decide +kernel, by decide +kernel⟩
theorem sc_Climber : FnScope ["self", "reach", "strength", "may_lead"] ["self", "reach", "strength", "may_lead"] (defScope s_Climber) := ⟨rfl, rfl, rfl, by decide +kernel, rfl, by decide +kernel, by decide +kernel⟩
theorem sc_Wall : FnScope ["self"] ["self"] (defScope s_Wall) := ⟨rfl, rfl, rfl, by decide +kernel, rfl, by decide +kernel, by decide +kernel⟩
end Cw
end
section
set_option Elab.async false
set_option linter.all false
set_option maxRecDepth 100000
namespace Cw
open PySem PySem.Spec PyProof.Rows L2
open Su55 (Abs)
abbrev nV (n : Nat) : V := V.int (n : Int)
theorem nV_ints (l : List Nat) : l.map nV = (l.map fun (n : Nat) => (n : Int)).map V.int := by rw [List.map_map]; rfl
def fHold (h : Su55.Hold) : List (Str × V) := [("x", .int h.x), ("y", .int h.y), ("grip", .int h.grip), ("hands", .int h.used), ("on", .bl h.on_)]
def fRoute (r : Su55.Route) (l : Addr) : List (Str × V) := [("must_lead", .bl r.lead), ("stops", .ref l)]
def fClimber (c : Su55.Climber) : List (Str × V) := [("reach", .int c.reach), ("strength", .int c.strength), ("may_lead", .bl c.lead), ("climbs", .int c.climbs), ("moves", .int c.moves)]
def fWall (b : Bool) (n : Nat) (hl rl cl : Addr) : List (Str × V) := [("begun", .bl b), ("hands_to_fall", .int n), ("holds", .ref hl), ("routes", .ref rl), ("climbers", .ref cl)]
def IsHold (D : Dat) (H : Hp) (p : Addr) (h : Su55.Hold) : Prop := ∃ dx, H p = some (.ins D.c_Hold dx (fHold h))
def IsRoute (D : Dat) (H : Hp) (p l : Addr) (r : Su55.Route) : Prop := (∃ dx, H p = some (.ins D.c_Route dx (fRoute r l))) ∧ H l = some (.lst (r.holds.map nV))
def IsClimber (D : Dat) (H : Hp) (p : Addr) (c : Su55.Climber) : Prop := ∃ dx, H p = some (.ins D.c_Climber dx (fClimber c))
structure Lay where
  p : Addr
  hl : Addr
  rl : Addr
  cl : Addr
  hs : List Addr
  rs : List Addr
  ss : List Addr
  cs : List Addr
def Lay.Foot (L : Lay) (b : Addr) : Prop := b = L.p ∨ b = L.hl ∨ b = L.rl ∨ b = L.cl ∨ b ∈ L.hs ∨ b ∈ L.rs ∨ b ∈ L.ss ∨ b ∈ L.cs
structure WallAt (D : Dat) (H : Hp) (L : Lay) (b : Bool) (a : Abs) : Prop where
  wall : ∃ dx, H L.p = some (.ins D.c_Wall dx (fWall b a.wear L.hl L.rl L.cl))
  hl : H L.hl = some (.lst (L.hs.map V.ref))
  rl : H L.rl = some (.lst (L.rs.map V.ref))
  cl : H L.cl = some (.lst (L.cs.map V.ref))
  nh : L.hs.length = a.holds.length
  nr : L.rs.length = a.routes.length
  ns : L.ss.length = a.routes.length
  nc : L.cs.length = a.climbers.length
  hold : ∀ (j : Nat) (p : Addr) (h : Su55.Hold), L.hs[j]? = some p → a.holds[j]? = some h → IsHold D H p h
  route : ∀ (j : Nat) (p l : Addr) (r : Su55.Route), L.rs[j]? = some p → L.ss[j]? = some l → a.routes[j]? = some r → IsRoute D H p l r
  climber : ∀ (j : Nat) (p : Addr) (c : Su55.Climber), L.cs[j]? = some p → a.climbers[j]? = some c → IsClimber D H p c
  dh : L.hs.Nodup
  dc : L.cs.Nodup
  dl : (L.hl :: L.rl :: L.cl :: L.ss).Nodup
theorem key_ne {fs gs : List (Str × V)} {x y : Str} (hx : (fs.head?.map (·.1)) = some x) (hy : (gs.head?.map (·.1)) = some y) (h : x ≠ y) {C dx C' dx' : Addr} : (HO.ins C dx fs) ≠ HO.ins C' dx' gs := by
  intro e
  injection e with _ _ e
  rw [e, hy] at hx
  exact h (Option.some.inj hx).symm
theorem lst_ins {xs : List V} {C dx : Addr} {fs : List (Str × V)} : HO.lst xs ≠ HO.ins C dx fs := fun e => nomatch e
theorem hold_wall {h : Su55.Hold} {b : Bool} {n : Nat} {x y z C dx C' dx' : Addr} : HO.ins C dx (fHold h) ≠ HO.ins C' dx' (fWall b n x y z) := key_ne (x := "x") (y := "begun") rfl rfl (by decide +kernel)
theorem hold_route {h : Su55.Hold} {r : Su55.Route} {l C dx C' dx' : Addr} : HO.ins C dx (fHold h) ≠ HO.ins C' dx' (fRoute r l) := key_ne (x := "x") (y := "must_lead") rfl rfl (by decide +kernel)
theorem hold_climber {h : Su55.Hold} {c : Su55.Climber} {C dx C' dx' : Addr} : HO.ins C dx (fHold h) ≠ HO.ins C' dx' (fClimber c) := key_ne (x := "x") (y := "reach") rfl rfl (by decide +kernel)
theorem climber_wall {c : Su55.Climber} {b : Bool} {n : Nat} {x y z C dx C' dx' : Addr} : HO.ins C dx (fClimber c) ≠ HO.ins C' dx' (fWall b n x y z) := key_ne (x := "reach") (y := "begun") rfl rfl (by decide +kernel)
theorem climber_route {c : Su55.Climber} {r : Su55.Route} {l C dx C' dx' : Addr} : HO.ins C dx (fClimber c) ≠ HO.ins C' dx' (fRoute r l) := key_ne (x := "reach") (y := "must_lead") rfl rfl (by decide +kernel)
theorem lk_x (h : Su55.Hold) : (fHold h).lookup ("x" : Str) = some (.int h.x) := rfl
theorem lk_y (h : Su55.Hold) : (fHold h).lookup ("y" : Str) = some (.int h.y) := rfl
theorem lk_grip (h : Su55.Hold) : (fHold h).lookup ("grip" : Str) = some (.int h.grip) := rfl
theorem lk_hands (h : Su55.Hold) : (fHold h).lookup ("hands" : Str) = some (.int h.used) := rfl
theorem lk_on (h : Su55.Hold) : (fHold h).lookup ("on" : Str) = some (.bl h.on_) := rfl
theorem put_x (h : Su55.Hold) (n : Nat) : putF "x" (.int n) (fHold h) = fHold { h with x := n } := rfl
theorem put_y (h : Su55.Hold) (n : Nat) : putF "y" (.int n) (fHold h) = fHold { h with y := n } := rfl
theorem put_grip (h : Su55.Hold) (n : Nat) : putF "grip" (.int n) (fHold h) = fHold { h with grip := n } := rfl
theorem put_hands (h : Su55.Hold) (n : Nat) : putF "hands" (.int n) (fHold h) = fHold { h with used := n } := rfl
theorem put_on (h : Su55.Hold) (b : Bool) : putF "on" (.bl b) (fHold h) = fHold { h with on_ := b } := rfl
theorem lk_must (r : Su55.Route) (l : Addr) : (fRoute r l).lookup ("must_lead" : Str) = some (.bl r.lead) := rfl
theorem lk_stops (r : Su55.Route) (l : Addr) : (fRoute r l).lookup ("stops" : Str) = some (.ref l) := rfl
theorem lk_reach (c : Su55.Climber) : (fClimber c).lookup ("reach" : Str) = some (.int c.reach) := rfl
theorem lk_strength (c : Su55.Climber) : (fClimber c).lookup ("strength" : Str) = some (.int c.strength) := rfl
theorem lk_may (c : Su55.Climber) : (fClimber c).lookup ("may_lead" : Str) = some (.bl c.lead) := rfl
theorem lk_climbs (c : Su55.Climber) : (fClimber c).lookup ("climbs" : Str) = some (.int c.climbs) := rfl
theorem lk_moves (c : Su55.Climber) : (fClimber c).lookup ("moves" : Str) = some (.int c.moves) := rfl
theorem put_climbs (c : Su55.Climber) (n : Nat) : putF "climbs" (.int n) (fClimber c) = fClimber { c with climbs := n } := rfl
theorem put_moves (c : Su55.Climber) (n : Nat) : putF "moves" (.int n) (fClimber c) = fClimber { c with moves := n } := rfl
theorem put_strength (c : Su55.Climber) (n : Nat) : putF "strength" (.int n) (fClimber c) = fClimber { c with strength := n } := rfl
section
variable (b : Bool) (n : Nat) (x y z : Addr)
theorem lk_begun : (fWall b n x y z).lookup ("begun" : Str) = some (.bl b) := rfl
theorem lk_fall : (fWall b n x y z).lookup ("hands_to_fall" : Str) = some (.int n) := rfl
theorem lk_holds : (fWall b n x y z).lookup ("holds" : Str) = some (.ref x) := rfl
theorem lk_routes : (fWall b n x y z).lookup ("routes" : Str) = some (.ref y) := rfl
theorem lk_climbers : (fWall b n x y z).lookup ("climbers" : Str) = some (.ref z) := rfl
theorem put_begun (c : Bool) : putF "begun" (.bl c) (fWall b n x y z) = fWall c n x y z := rfl
theorem put_fall (m : Nat) : putF "hands_to_fall" (.int m) (fWall b n x y z) = fWall b m x y z := rfl
theorem put_holds (q : Addr) : putF "holds" (.ref q) (fWall b n x y z) = fWall b n q y z := rfl
theorem put_routes (q : Addr) : putF "routes" (.ref q) (fWall b n x y z) = fWall b n x q z := rfl
theorem put_climbers (q : Addr) : putF "climbers" (.ref q) (fWall b n x y z) = fWall b n x y q := rfl
end
section
variable {D : Dat} {H H' : Hp} {L : Lay} {b : Bool} {a : Abs}
theorem WallAt.same (W : WallAt D H L b a) (s : Same H H') : WallAt D H' L b a :=
  ⟨let ⟨dx, h⟩ := W.wall; ⟨dx, s _ _ h⟩, s _ _ W.hl, s _ _ W.rl, s _ _ W.cl, W.nh, W.nr, W.ns, W.nc, fun j p h h1 h2 => let ⟨dx, q⟩ := W.hold j p h h1 h2; ⟨dx, s _ _ q⟩,
   fun j p l r h1 h2 h3 => let ⟨⟨dx, q⟩, q2⟩ := W.route j p l r h1 h2 h3; ⟨⟨dx, s _ _ q⟩, s _ _ q2⟩, fun j p c h1 h2 => let ⟨dx, q⟩ := W.climber j p c h1 h2; ⟨dx, s _ _ q⟩, W.dh, W.dc, W.dl⟩
theorem WallAt.keep (W : WallAt D H L b a) (s : ∀ q o, H q = some o → L.Foot q → H' q = some o) : WallAt D H' L b a :=
  ⟨let ⟨dx, h⟩ := W.wall; ⟨dx, s _ _ h (.inl rfl)⟩, s _ _ W.hl (.inr (.inl rfl)), s _ _ W.rl (.inr (.inr (.inl rfl))), s _ _ W.cl (.inr (.inr (.inr (.inl rfl)))), W.nh, W.nr, W.ns, W.nc,
   fun j p h h1 h2 => let ⟨dx, q⟩ := W.hold j p h h1 h2; ⟨dx, s _ _ q (.inr (.inr (.inr (.inr (.inl (List.mem_of_getElem? h1))))))⟩,
   fun j p l r h1 h2 h3 => let ⟨⟨dx, q⟩, q2⟩ := W.route j p l r h1 h2 h3; ⟨⟨dx, s _ _ q (.inr (.inr (.inr (.inr (.inr (.inl (List.mem_of_getElem? h1)))))))⟩, s _ _ q2 (.inr (.inr (.inr (.inr (.inr (.inr (.inl (List.mem_of_getElem? h2))))))))⟩,
   fun j p c h1 h2 => let ⟨dx, q⟩ := W.climber j p c h1 h2; ⟨dx, s _ _ q (.inr (.inr (.inr (.inr (.inr (.inr (.inr (List.mem_of_getElem? h1))))))))⟩, W.dh, W.dc, W.dl⟩
theorem WallAt.setHold (W : WallAt D H L b a) {j : Nat} {q : Addr} {h : Su55.Hold} {f : Su55.Hold → Su55.Hold} (hq : L.hs[j]? = some q) (hh : a.holds[j]? = some h) (new : IsHold D H' q (f h)) (kp : ∀ c o, H c = some o → c ≠ q → H' c = some o) :
    WallAt D H' L b { a with holds := a.holds.modify j f } := by
  obtain ⟨dq, eq⟩ := W.hold j q h hq hh
  have nl : ∀ {c : Addr} {xs : List V}, H c = some (.lst xs) → H' c = some (.lst xs) := fun e => kp _ _ e (ne_of e eq lst_ins)
  refine ⟨?_, nl W.hl, nl W.rl, nl W.cl, by rw [List.length_modify]; exact W.nh, W.nr, W.ns, W.nc, fun j' p' h' h1 h2 => ?_, fun j' p' l r h1 h2 h3 => ?_, fun j' p' c h1 h2 => ?_, W.dh, W.dc, W.dl⟩
  · obtain ⟨dx, e⟩ := W.wall
    exact ⟨dx, kp _ _ e (ne_of e eq hold_wall.symm)⟩
  · by_cases e : j = j'
    · subst e
      have ep : q = p' := Option.some.inj (hq.symm.trans h1)
      subst ep
      have h2' : (a.holds.modify j f)[j]? = some h' := h2
      rw [List.getElem?_modify, hh] at h2'
      have e2 : f h = h' := by simpa using h2'
      rw [← e2]
      exact new
    · have h2' : (a.holds.modify j f)[j']? = some h' := h2
      rw [List.getElem?_modify] at h2'
      have h3 : a.holds[j']? = some h' := by simpa [e] using h2'
      obtain ⟨dx, e3⟩ := W.hold j' p' h' h1 h3
      exact ⟨dx, kp _ _ e3 fun z => e (nd_ix W.dh hq (by rw [← z]; exact h1))⟩
  · obtain ⟨⟨dx, e⟩, e2⟩ := W.route j' p' l r h1 h2 h3
    exact ⟨⟨dx, kp _ _ e (ne_of e eq hold_route.symm)⟩, nl e2⟩
  · obtain ⟨dx, e⟩ := W.climber j' p' c h1 h2
    exact ⟨dx, kp _ _ e (ne_of e eq hold_climber.symm)⟩
theorem WallAt.setClimber (W : WallAt D H L b a) {j : Nat} {q : Addr} {h : Su55.Climber} {f : Su55.Climber → Su55.Climber} (hq : L.cs[j]? = some q) (hh : a.climbers[j]? = some h) (new : IsClimber D H' q (f h)) (kp : ∀ c o, H c = some o → c ≠ q → H' c = some o) :
    WallAt D H' L b { a with climbers := a.climbers.modify j f } := by
  obtain ⟨dq, eq⟩ := W.climber j q h hq hh
  have nl : ∀ {c : Addr} {xs : List V}, H c = some (.lst xs) → H' c = some (.lst xs) := fun e => kp _ _ e (ne_of e eq lst_ins)
  refine ⟨?_, nl W.hl, nl W.rl, nl W.cl, W.nh, W.nr, W.ns, by rw [List.length_modify]; exact W.nc, fun j' p' h' h1 h2 => ?_, fun j' p' l r h1 h2 h3 => ?_, fun j' p' c h1 h2 => ?_, W.dh, W.dc, W.dl⟩
  · obtain ⟨dx, e⟩ := W.wall
    exact ⟨dx, kp _ _ e (ne_of e eq climber_wall.symm)⟩
  · obtain ⟨dx, e⟩ := W.hold j' p' h' h1 h2
    exact ⟨dx, kp _ _ e (ne_of e eq hold_climber)⟩
  · obtain ⟨⟨dx, e⟩, e2⟩ := W.route j' p' l r h1 h2 h3
    exact ⟨⟨dx, kp _ _ e (ne_of e eq climber_route.symm)⟩, nl e2⟩
  · by_cases e : j = j'
    · subst e
      have ep : q = p' := Option.some.inj (hq.symm.trans h1)
      subst ep
      have h2' : (a.climbers.modify j f)[j]? = some c := h2
      rw [List.getElem?_modify, hh] at h2'
      have e2 : f h = c := by simpa using h2'
      rw [← e2]
      exact new
    · have h2' : (a.climbers.modify j f)[j']? = some c := h2
      rw [List.getElem?_modify] at h2'
      have h3 : a.climbers[j']? = some c := by simpa [e] using h2'
      obtain ⟨dx, e3⟩ := W.climber j' p' c h1 h3
      exact ⟨dx, kp _ _ e3 fun z => e (nd_ix W.dc hq (by rw [← z]; exact h1))⟩
theorem get_snoc {α : Type} {l : List α} {x y : α} {j : Nat} (h : (l ++ [x])[j]? = some y) : l[j]? = some y ∨ (j = l.length ∧ y = x) := by
  rcases Nat.lt_or_ge j l.length with q | q
  · rw [List.getElem?_append_left q] at h
    exact .inl h
  · rw [List.getElem?_append_right q] at h
    cases e : j - l.length with
    | zero =>
      rw [e] at h
      exact .inr ⟨by omega, (Option.some.inj h).symm⟩
    | succ k =>
      rw [e] at h
      cases h
theorem nd_push {α : Type} {l : List α} {x : α} (h : l.Nodup) (hx : x ∉ l) : (l ++ [x]).Nodup :=
  List.nodup_append.mpr ⟨h, by simp, fun y hy z hz e => hx (by have : z = x := by simpa using hz
                                                               rw [← this, ← e]
                                                               exact hy)⟩
theorem WallAt.free_h (W : WallAt D H L b a) {x : Addr} (hx : H x = none) : x ∉ L.hs := fun m => by
  obtain ⟨j, hj⟩ := List.getElem?_of_mem m
  have hlt : j < a.holds.length := by rw [← W.nh]; exact (List.getElem?_eq_some_iff.mp hj).1
  obtain ⟨dx, e⟩ := W.hold j x _ hj (List.getElem?_eq_getElem hlt)
  rw [hx] at e
  cases e
theorem WallAt.free_c (W : WallAt D H L b a) {x : Addr} (hx : H x = none) : x ∉ L.cs := fun m => by
  obtain ⟨j, hj⟩ := List.getElem?_of_mem m
  have hlt : j < a.climbers.length := by rw [← W.nc]; exact (List.getElem?_eq_some_iff.mp hj).1
  obtain ⟨dx, e⟩ := W.climber j x _ hj (List.getElem?_eq_getElem hlt)
  rw [hx] at e
  cases e
theorem WallAt.free_s (W : WallAt D H L b a) {x : Addr} (hx : H x = none) : x ∉ L.ss := fun m => by
  obtain ⟨j, hj⟩ := List.getElem?_of_mem m
  have hlt : j < a.routes.length := by rw [← W.ns]; exact (List.getElem?_eq_some_iff.mp hj).1
  have hlt2 : j < L.rs.length := by rw [W.nr]; exact hlt
  obtain ⟨_, e⟩ := W.route j _ x _ (List.getElem?_eq_getElem hlt2) hj (List.getElem?_eq_getElem hlt)
  rw [hx] at e
  cases e
theorem WallAt.addHold (W : WallAt D H L b a) {x : Addr} {h : Su55.Hold} (hx : H x = none) (hl' : H' L.hl = some (.lst (L.hs.map V.ref ++ [V.ref x]))) (new : IsHold D H' x h) (kp : ∀ c o, H c = some o → c ≠ L.hl → H' c = some o) :
    WallAt D H' { L with hs := L.hs ++ [x] } b { a with holds := a.holds ++ [h] } := by
  have dl := W.dl
  have n1 : L.rl ≠ L.hl := fun e => (List.nodup_cons.mp dl).1 (by rw [← e]; simp)
  have n2 : L.cl ≠ L.hl := fun e => (List.nodup_cons.mp dl).1 (by rw [← e]; simp)
  have ni : ∀ {c C dx : Addr} {fs : List (Str × V)}, H c = some (.ins C dx fs) → H' c = some (.ins C dx fs) := fun e => kp _ _ e (ne_of e W.hl lst_ins.symm)
  refine ⟨let ⟨dx, e⟩ := W.wall; ⟨dx, ni e⟩, by rw [hl', List.map_append]; rfl, kp _ _ W.rl n1, kp _ _ W.cl n2, by rw [List.length_append, List.length_append, W.nh]; rfl, W.nr, W.ns, W.nc, fun j p h' h1 h2 => ?_, fun j p l r h1 h2 h3 => ?_,
    fun j p c h1 h2 => let ⟨dx, e⟩ := W.climber j p c h1 h2; ⟨dx, ni e⟩, nd_push W.dh (W.free_h hx), W.dc, W.dl⟩
  · rcases get_snoc h1 with q1 | ⟨q1, e1⟩
    · rcases get_snoc h2 with q2 | ⟨q2, e2⟩
      · obtain ⟨dx, e⟩ := W.hold j p h' q1 q2
        exact ⟨dx, ni e⟩
      · have := (List.getElem?_eq_some_iff.mp q1).1
        rw [W.nh] at this
        omega
    · rcases get_snoc h2 with q2 | ⟨q2, e2⟩
      · have := (List.getElem?_eq_some_iff.mp q2).1
        rw [← W.nh] at this
        omega
      · rw [e1, e2]
        exact new
  · obtain ⟨⟨dx, e⟩, e2⟩ := W.route j p l r h1 h2 h3
    exact ⟨⟨dx, ni e⟩, kp _ _ e2 fun z => (List.nodup_cons.mp dl).1 (by rw [← z]; exact List.mem_cons_of_mem _ (List.mem_cons_of_mem _ (List.mem_of_getElem? h2)))⟩
theorem WallAt.addRoute (W : WallAt D H L b a) {x l : Addr} {r : Su55.Route} (hx : H l = none) (hl' : H' L.rl = some (.lst (L.rs.map V.ref ++ [V.ref x]))) (new : IsRoute D H' x l r) (kp : ∀ c o, H c = some o → c ≠ L.rl → H' c = some o) :
    WallAt D H' { L with rs := L.rs ++ [x], ss := L.ss ++ [l] } b { a with routes := a.routes ++ [r] } := by
  have dl := W.dl
  rw [List.nodup_cons, List.nodup_cons, List.nodup_cons] at dl
  obtain ⟨d1, d2, d3, d4⟩ := dl
  have n1 : L.hl ≠ L.rl := fun e => d1 (by rw [e]; simp)
  have n2 : L.cl ≠ L.rl := fun e => d2 (by rw [← e]; simp)
  have ni : ∀ {c C dx : Addr} {fs : List (Str × V)}, H c = some (.ins C dx fs) → H' c = some (.ins C dx fs) := fun e => kp _ _ e (ne_of e W.rl lst_ins.symm)
  have fl : ∀ {c : Addr} {o : HO}, H c = some o → c ≠ l := fun e => ne_of_none e hx
  refine ⟨let ⟨dx, e⟩ := W.wall; ⟨dx, ni e⟩, kp _ _ W.hl n1, by rw [hl', List.map_append]; rfl, kp _ _ W.cl n2, W.nh, by rw [List.length_append, List.length_append, W.nr]; rfl, by rw [List.length_append, List.length_append, W.ns]; rfl, W.nc,
    fun j p h' h1 h2 => let ⟨dx, e⟩ := W.hold j p h' h1 h2; ⟨dx, ni e⟩, fun j p l' r' h1 h2 h3 => ?_, fun j p c h1 h2 => let ⟨dx, e⟩ := W.climber j p c h1 h2; ⟨dx, ni e⟩, W.dh, W.dc, ?_⟩
  · rcases get_snoc h3 with q3 | ⟨q3, e3⟩
    · have hlt := (List.getElem?_eq_some_iff.mp q3).1
      have q1 : L.rs[j]? = some p := by
        rcases get_snoc h1 with q | ⟨q, _⟩
        · exact q
        · rw [W.nr] at q; omega
      have q2 : L.ss[j]? = some l' := by
        rcases get_snoc h2 with q | ⟨q, _⟩
        · exact q
        · rw [W.ns] at q; omega
      obtain ⟨⟨dx, e⟩, e2⟩ := W.route j p l' r' q1 q2 q3
      exact ⟨⟨dx, ni e⟩, kp _ _ e2 fun z => d2 (by rw [← z]; exact List.mem_cons_of_mem _ (List.mem_of_getElem? q2))⟩
    · have e1 : p = x := by
        rcases get_snoc h1 with q | ⟨_, q⟩
        · have := (List.getElem?_eq_some_iff.mp q).1
          rw [W.nr] at this; omega
        · exact q
      have e2 : l' = l := by
        rcases get_snoc h2 with q | ⟨_, q⟩
        · have := (List.getElem?_eq_some_iff.mp q).1
          rw [W.ns] at this; omega
        · exact q
      rw [e1, e2, e3]
      exact new
  · show (L.hl :: L.rl :: L.cl :: (L.ss ++ [l])).Nodup
    have q := nd_push W.dl (x := l) (fun m => by
      rcases List.mem_cons.mp m with e | m
      · exact fl W.hl e.symm
      rcases List.mem_cons.mp m with e | m
      · exact fl W.rl e.symm
      rcases List.mem_cons.mp m with e | m
      · exact fl W.cl e.symm
      · exact W.free_s hx m)
    simpa using q
theorem WallAt.addClimber (W : WallAt D H L b a) {x : Addr} {c : Su55.Climber} (hx : H x = none) (hl' : H' L.cl = some (.lst (L.cs.map V.ref ++ [V.ref x]))) (new : IsClimber D H' x c) (kp : ∀ c o, H c = some o → c ≠ L.cl → H' c = some o) :
    WallAt D H' { L with cs := L.cs ++ [x] } b { a with climbers := a.climbers ++ [c] } := by
  have dl := W.dl
  rw [List.nodup_cons, List.nodup_cons, List.nodup_cons] at dl
  obtain ⟨d1, d2, d3, d4⟩ := dl
  have n1 : L.hl ≠ L.cl := fun e => d1 (by rw [e]; simp)
  have n2 : L.rl ≠ L.cl := fun e => d2 (by rw [e]; simp)
  have ni : ∀ {c C dx : Addr} {fs : List (Str × V)}, H c = some (.ins C dx fs) → H' c = some (.ins C dx fs) := fun e => kp _ _ e (ne_of e W.cl lst_ins.symm)
  refine ⟨let ⟨dx, e⟩ := W.wall; ⟨dx, ni e⟩, kp _ _ W.hl n1, kp _ _ W.rl n2, by rw [hl', List.map_append]; rfl, W.nh, W.nr, W.ns, by rw [List.length_append, List.length_append, W.nc]; rfl,
    fun j p h h1 h2 => let ⟨dx, e⟩ := W.hold j p h h1 h2; ⟨dx, ni e⟩, fun j p l r h1 h2 h3 => ?_, fun j p c' h1 h2 => ?_, W.dh, nd_push W.dc (W.free_c hx), W.dl⟩
  · obtain ⟨⟨dx, e⟩, e2⟩ := W.route j p l r h1 h2 h3
    exact ⟨⟨dx, ni e⟩, kp _ _ e2 fun z => d3 (by rw [← z]; exact List.mem_of_getElem? h2)⟩
  · rcases get_snoc h1 with q1 | ⟨q1, e1⟩
    · rcases get_snoc h2 with q2 | ⟨q2, e2⟩
      · obtain ⟨dx, e⟩ := W.climber j p c' q1 q2
        exact ⟨dx, ni e⟩
      · have := (List.getElem?_eq_some_iff.mp q1).1
        rw [W.nc] at this
        omega
    · rcases get_snoc h2 with q2 | ⟨q2, e2⟩
      · have := (List.getElem?_eq_some_iff.mp q2).1
        rw [← W.nc] at this
        omega
      · rw [e1, e2]
        exact new
end
structure Moved (H : Hp) (L : Lay) (H' : Hp) (L' : Lay) : Prop where
  keep : ∀ c o, H c = some o → ¬ L.Foot c → H' c = some o
  foot : ∀ c, L'.Foot c → L.Foot c ∨ H c = none
  same : L'.p = L.p
theorem Moved.of_same {H H' : Hp} {L : Lay} (s : Same H H') : Moved H L H' L := ⟨fun c o h _ => s c o h, fun c h => .inl h, rfl⟩
def ansV (r : Su55.Ans) : List V := V.int r.value :: r.out.map nV
def Gives (D : Dat) (H : Hp) (L : Lay) (a : Abs) (c : Su55.Call) (Q : VK) : Prop :=
  ∀ (H' : Hp) (L' : Lay) (l : Addr), WallAt D H' L' true (Su55.does a c).1 → Moved H L H' L' → H' l = some (.lst (ansV (Su55.does a c).2)) → ¬ L'.Foot l → H l = none → Q (.ref l) H'
section
variable {D : Dat} {H H' : Hp} {L : Lay} {b : Bool} {a : Abs}
theorem WallAt.there (W : WallAt D H L b a) {c : Addr} (h : L.Foot c) : ∃ o, H c = some o := by
  rcases h with rfl | rfl | rfl | rfl | h | h | h | h
  · exact let ⟨dx, e⟩ := W.wall; ⟨_, e⟩
  · exact ⟨_, W.hl⟩
  · exact ⟨_, W.rl⟩
  · exact ⟨_, W.cl⟩
  · obtain ⟨j, hj⟩ := List.getElem?_of_mem h
    have hlt : j < a.holds.length := by rw [← W.nh]; exact (List.getElem?_eq_some_iff.mp hj).1
    obtain ⟨dx, e⟩ := W.hold j c _ hj (List.getElem?_eq_getElem hlt)
    exact ⟨_, e⟩
  · obtain ⟨j, hj⟩ := List.getElem?_of_mem h
    have hlt : j < a.routes.length := by rw [← W.nr]; exact (List.getElem?_eq_some_iff.mp hj).1
    have hlt2 : j < L.ss.length := by rw [W.ns]; exact hlt
    obtain ⟨⟨dx, e⟩, _⟩ := W.route j c _ _ hj (List.getElem?_eq_getElem hlt2) (List.getElem?_eq_getElem hlt)
    exact ⟨_, e⟩
  · obtain ⟨j, hj⟩ := List.getElem?_of_mem h
    have hlt : j < a.routes.length := by rw [← W.ns]; exact (List.getElem?_eq_some_iff.mp hj).1
    have hlt2 : j < L.rs.length := by rw [W.nr]; exact hlt
    obtain ⟨_, e⟩ := W.route j _ c _ (List.getElem?_eq_getElem hlt2) hj (List.getElem?_eq_getElem hlt)
    exact ⟨_, e⟩
  · obtain ⟨j, hj⟩ := List.getElem?_of_mem h
    have hlt : j < a.climbers.length := by rw [← W.nc]; exact (List.getElem?_eq_some_iff.mp hj).1
    obtain ⟨dx, e⟩ := W.climber j c _ hj (List.getElem?_eq_getElem hlt)
    exact ⟨_, e⟩
theorem WallAt.out (W : WallAt D H L b a) {c : Addr} (h : H c = none) : ¬ L.Foot c := fun q => by
  obtain ⟨o, e⟩ := W.there q
  rw [h] at e
  cases e
theorem same_new {l : Addr} {o : HO} (h : H l = none) : Same H (upd H l o) := fun c u e => by
  rw [upd_ne (ne_of_none e h)]
  exact e
theorem Gives.now {c : Su55.Call} {Q : VK} {r : Su55.Ans} (k : Gives D H L a c Q) (W : WallAt D H L true a) (e : Su55.does a c = (a, r)) (s : Same H H') {l : Addr} (hl : H' l = none) : Q (.ref l) (upd H' l (.lst (ansV r))) := by
  have s2 : Same H (upd H' l (.lst (ansV r))) := fun c u q => same_new hl _ _ (s _ _ q)
  have hn : H l = none := Same.free s hl
  refine k _ L l ?_ (Moved.of_same s2) ?_ (W.out hn) hn
  · rw [e]
    exact W.same s2
  · rw [e, upd_same]
theorem Gives.no {c : Su55.Call} {Q : VK} {v : Int} (k : Gives D H L a c Q) (W : WallAt D H L true a) (e : Su55.does a c = (a, Su55.no v)) {l : Addr} (hl : H l = none) : Q (.ref l) (upd H l (.lst [.int v])) :=
  Gives.now k W e (Same.refl H) hl
theorem Gives.noS {c : Su55.Call} {Q : VK} {v : Int} (k : Gives D H L a c Q) (W : WallAt D H L true a) (e : Su55.does a c = (a, Su55.no v)) (s : Same H H') {l : Addr} (hl : H' l = none) : Q (.ref l) (upd H' l (.lst [.int v])) :=
  Gives.now k W e s hl
theorem WallAt.holdAt (W : WallAt D H L b a) {j : Nat} (hj : j < a.holds.length) : ∃ p dx, L.hs[j]? = some p ∧ a.holds[j]? = some (a.hold j) ∧ H p = some (.ins D.c_Hold dx (fHold (a.hold j))) := by
  have hlt : j < L.hs.length := by rw [W.nh]; exact hj
  have e : a.holds[j]? = some (a.hold j) := by
    unfold Abs.hold
    rw [List.getD_eq_getElem?_getD, List.getElem?_eq_getElem hj]
    rfl
  obtain ⟨dx, q⟩ := W.hold j _ _ (List.getElem?_eq_getElem hlt) e
  exact ⟨_, dx, List.getElem?_eq_getElem hlt, e, q⟩
theorem WallAt.climberAt (W : WallAt D H L b a) {j : Nat} (hj : j < a.climbers.length) : ∃ p dx, L.cs[j]? = some p ∧ a.climbers[j]? = some (a.climber j) ∧ H p = some (.ins D.c_Climber dx (fClimber (a.climber j))) := by
  have hlt : j < L.cs.length := by rw [W.nc]; exact hj
  have e : a.climbers[j]? = some (a.climber j) := by
    unfold Abs.climber
    rw [List.getD_eq_getElem?_getD, List.getElem?_eq_getElem hj]
    rfl
  obtain ⟨dx, q⟩ := W.climber j _ _ (List.getElem?_eq_getElem hlt) e
  exact ⟨_, dx, List.getElem?_eq_getElem hlt, e, q⟩
theorem WallAt.routeAt (W : WallAt D H L b a) {j : Nat} (hj : j < a.routes.length) : ∃ p dx l, L.rs[j]? = some p ∧ L.ss[j]? = some l ∧ a.routes[j]? = some (a.route j) ∧ H p = some (.ins D.c_Route dx (fRoute (a.route j) l)) ∧ H l = some (.lst ((a.route j).holds.map nV)) := by
  have hlt : j < L.rs.length := by rw [W.nr]; exact hj
  have hlt2 : j < L.ss.length := by rw [W.ns]; exact hj
  have e : a.routes[j]? = some (a.route j) := by
    unfold Abs.route
    rw [List.getD_eq_getElem?_getD, List.getElem?_eq_getElem hj]
    rfl
  obtain ⟨⟨dx, q⟩, q2⟩ := W.route j _ _ _ (List.getElem?_eq_getElem hlt) (List.getElem?_eq_getElem hlt2) e
  exact ⟨_, dx, _, List.getElem?_eq_getElem hlt, List.getElem?_eq_getElem hlt2, e, q, q2⟩
theorem ref_at {l : List Addr} {j : Nat} {p : Addr} (h : l[j]? = some p) : (l.map V.ref)[j]? = some (V.ref p) := by
  rw [List.getElem?_map, h]
  rfl
end
end Cw
end
section
set_option Elab.async false
set_option linter.all false
set_option maxRecDepth 100000
set_option maxHeartbeats 2000000
namespace Cw
open PySem PySem.Spec PyProof.Rows L2
open Su55 (Abs)
theorem lc_same {K : PySem.W.Frag} {a : Addr} {xs : List V} {g : TG} {tt : TT} {te : TE} {vs : List Nat} {σ : L2.St} {H1 : Hp} {D : Addr} {Qd : Hp → Prop} (p : Nat → Bool) (f : Nat → V) (hS : SqL K H1 a xs) (hD : H1 D = none) (hz : xs.length ≤ 1000)
    (hs : ∀ i x H acc, xs[i]? = some x → Same H1 H → H D = some (.lst acc) → acc.length < sizeLine → ∀ N : Hp → Prop, (∀ H4, Same H H4 → N (if p i = true then upd H4 D (.lst (acc ++ [f i])) else H4)) →
      g x (wipe σ vs) H fun σ2 H2 => wipe σ2 vs = wipe σ vs ∧ tt σ2 H2 fun b H3 => if b = true then te σ2 H3 fun y H4 => ∃ acc, H4 D = some (.lst acc) ∧ acc.length < sizeLine ∧ N (upd H4 D (.lst (acc ++ [y]))) else N H3)
    (hd : ∀ H, Same H1 H → H D = some (.lst (((List.range xs.length).filter p).map f)) → Qd H) :
    ∃ W : Nat → Nat → Hp → Prop, (∃ m, W 0 m (upd H1 D (.lst []))) ∧ ∀ i m H, W i m H →
      ((Itl K a).stop i H ∧ Qd H) ∨ ((Itl K a).go i H ∧ ∃ Nx : Hp → Prop, (∀ H', Nx H' → ∃ m', m' < m ∧ W (i + 1) m' H') ∧ ∀ x H', (Itl K a).yld i H x H' → g x (wipe σ vs) H' fun σ2 H2 => wipe σ2 vs = wipe σ vs ∧ tt σ2 H2 fun b H3 =>
        if b = true then te σ2 H3 fun y H4 => ∃ acc, H4 D = some (.lst acc) ∧ acc.length < sizeLine ∧ Nx (upd H4 D (.lst (acc ++ [y]))) else Nx H3) := by
  refine lc_list (K := K) (a := a) (xs := xs) (fun i H => Same H1 H ∧ H D = some (.lst (((List.range i).filter p).map f)) ∧ i ≤ xs.length) ⟨same_new hD, upd_same, Nat.zero_le _⟩ (fun i H _ ⟨s, _, _⟩ => s.seq hS) (fun i x H hx ⟨s, hl, hi⟩ => ?_) (fun H ⟨s, hl, _⟩ => hd H s hl)
  have hlt : i < xs.length := (List.getElem?_eq_some_iff.mp hx).1
  have hlen : (((List.range i).filter p).map f).length ≤ i := by
    rw [List.length_map]
    exact Nat.le_trans (List.length_filter_le _ _) (by simp)
  refine hs i x H _ hx s hl (small1000 (by omega)) _ fun H4 s4 => ?_
  have s14 : Same H1 H4 := s.trans s4
  rw [List.range_succ, List.filter_append, List.map_append]
  cases hp : p i with
  | true =>
    refine ⟨fun c u e => ?_, ?_, hlt⟩
    · rw [if_pos rfl, upd_ne (ne_of_none e hD)]
      exact s14 _ _ e
    · rw [if_pos rfl, upd_same]
      simp [hp]
  | false =>
    refine ⟨?_, ?_, hlt⟩
    · rw [if_neg (by simp)]
      exact s14
    · rw [if_neg (by simp)]
      have := s4 _ _ hl
      simpa [hp] using this
section
variable {P : Program} {w : World} {K : PySem.W.Frag} {mg : Str → Option Value} {base : Heap} {D : Dat}
def sp_Hold (K : PySem.W.Frag) (D : Dat) : Sp := fun vs H Q _ => ∃ (p dx : Addr) (x y g : Int), vs = [.ref p, .int x, .int y, .int g] ∧ H p = some (.ins D.c_Hold dx []) ∧
  Q .non (upd H p (.ins D.c_Hold dx [("x", .int x), ("y", .int y), ("grip", .int g), ("hands", .int 0), ("on", .bl true)]))
theorem ok_Hold (T : Txt K mg D) : FnOk P w K mg base CX0 1 D.f_Hold D.d_Hold ["self", "x", "y", "grip"] (sp_Hold K D) := by
  refine T.fun_Hold.ok sc_Hold (fun vs H Q E h => ?_) (fun cdv A oenv s H vs Q E hr h => ?_)
  · obtain ⟨p, dx, x, y, g, rfl, _⟩ := h
    rfl
  · obtain ⟨p, dx, x, y, g, rfl, hp, k⟩ := h
    refine ⟨_, (pss_cons (ps_fld (pv 0) (pv 1) rfl)
  (pss_cons (ps_fld (pv 0) (pv 2) rfl)
  (pss_cons (ps_fld (pv 0) (pv 3) rfl)
  (pss_cons (ps_fld (pv 0) pe_int rfl)
  (pss_one (ps_fld (pv 0) pe_bl rfl)))))), ?_⟩
    refine ⟨_, rfl, _, rfl, p, _, dx, _, rfl, hp, T.cl_Hold, T.na_Hold_x, (by show 0 < 1000; decide), ?_⟩
    refine ⟨_, rfl, _, rfl, p, _, dx, _, rfl, upd_same, T.cl_Hold, T.na_Hold_y, (by show 1 < 1000; decide), ?_⟩
    refine ⟨_, rfl, _, rfl, p, _, dx, _, rfl, upd_same, T.cl_Hold, T.na_Hold_grip, (by show 2 < 1000; decide), ?_⟩
    refine ⟨_, rfl, p, _, dx, _, rfl, upd_same, T.cl_Hold, T.na_Hold_hands, (by show 3 < 1000; decide), ?_⟩
    refine ⟨_, rfl, p, _, dx, _, rfl, upd_same, T.cl_Hold, T.na_Hold_on, (by show 4 < 1000; decide), ?_⟩
    rw [upd_upd, upd_upd, upd_upd, upd_upd]
    exact k
def sp_Route (K : PySem.W.Frag) (D : Dat) : Sp := fun vs H Q _ => ∃ (p dx l : Addr) (b : Bool), vs = [.ref p, .bl b, .ref l] ∧ H p = some (.ins D.c_Route dx []) ∧
  Q .non (upd H p (.ins D.c_Route dx [("must_lead", .bl b), ("stops", .ref l)]))
theorem ok_Route (T : Txt K mg D) : FnOk P w K mg base CX0 1 D.f_Route D.d_Route ["self", "must_lead", "stops"] (sp_Route K D) := by
  refine T.fun_Route.ok sc_Route (fun vs H Q E h => ?_) (fun cdv A oenv s H vs Q E hr h => ?_)
  · obtain ⟨p, dx, l, b, rfl, _⟩ := h
    rfl
  · obtain ⟨p, dx, l, b, rfl, hp, k⟩ := h
    refine ⟨_, (pss_cons (ps_fld (pv 0) (pv 1) rfl)
  (pss_one (ps_fld (pv 0) (pv 2) rfl))), ?_⟩
    refine ⟨_, rfl, _, rfl, p, _, dx, _, rfl, hp, T.cl_Route, T.na_Route_must_lead, (by show 0 < 1000; decide), ?_⟩
    refine ⟨_, rfl, _, rfl, p, _, dx, _, rfl, upd_same, T.cl_Route, T.na_Route_stops, (by show 1 < 1000; decide), ?_⟩
    rw [upd_upd]
    exact k
def sp_Climber (K : PySem.W.Frag) (D : Dat) : Sp := fun vs H Q _ => ∃ (p dx : Addr) (r s : Int) (b : Bool), vs = [.ref p, .int r, .int s, .bl b] ∧ H p = some (.ins D.c_Climber dx []) ∧
  Q .non (upd H p (.ins D.c_Climber dx [("reach", .int r), ("strength", .int s), ("may_lead", .bl b), ("climbs", .int 0), ("moves", .int 0)]))
theorem ok_Climber (T : Txt K mg D) : FnOk P w K mg base CX0 1 D.f_Climber D.d_Climber ["self", "reach", "strength", "may_lead"] (sp_Climber K D) := by
  refine T.fun_Climber.ok sc_Climber (fun vs H Q E h => ?_) (fun cdv A oenv s H vs Q E hr h => ?_)
  · obtain ⟨p, dx, r, s, b, rfl, _⟩ := h
    rfl
  · obtain ⟨p, dx, r, s, b, rfl, hp, k⟩ := h
    refine ⟨_, (pss_cons (ps_fld (pv 0) (pv 1) rfl)
  (pss_cons (ps_fld (pv 0) (pv 2) rfl)
  (pss_cons (ps_fld (pv 0) (pv 3) rfl)
  (pss_cons (ps_fld (pv 0) pe_int rfl)
  (pss_one (ps_fld (pv 0) pe_int rfl)))))), ?_⟩
    refine ⟨_, rfl, _, rfl, p, _, dx, _, rfl, hp, T.cl_Climber, T.na_Climber_reach, (by show 0 < 1000; decide), ?_⟩
    refine ⟨_, rfl, _, rfl, p, _, dx, _, rfl, upd_same, T.cl_Climber, T.na_Climber_strength, (by show 1 < 1000; decide), ?_⟩
    refine ⟨_, rfl, _, rfl, p, _, dx, _, rfl, upd_same, T.cl_Climber, T.na_Climber_may_lead, (by show 2 < 1000; decide), ?_⟩
    refine ⟨_, rfl, p, _, dx, _, rfl, upd_same, T.cl_Climber, T.na_Climber_climbs, (by show 3 < 1000; decide), ?_⟩
    refine ⟨_, rfl, p, _, dx, _, rfl, upd_same, T.cl_Climber, T.na_Climber_moves, (by show 4 < 1000; decide), ?_⟩
    rw [upd_upd, upd_upd, upd_upd, upd_upd]
    exact k
def sp_is_grip (K : PySem.W.Frag) (D : Dat) : Sp := fun vs H Q _ => ∃ g : Int, vs = [.int g] ∧ Q (.bl (decide (1 ≤ g) && decide (g ≤ 9))) H
theorem ok_is_grip (T : Txt K mg D) : FnOk P w K mg base CX0 1 D.f_is_grip D.d_is_grip ["grip"] (sp_is_grip K D) := by
  refine T.fun_is_grip.ok sc_is_grip (fun vs H Q E h => ?_) (fun cdv A oenv s H vs Q E hr h => ?_)
  · obtain ⟨g, rfl, _⟩ := h
    rfl
  · obtain ⟨g, rfl, k⟩ := h
    refine ⟨_, (pss_one (ps_ret (pe_chain op_le op_le pe_int (pv 0) (pe_const rfl T.k_BEST_GRIP)))), ?_⟩
    refine ⟨_, rfl, _, _, rfl, rfl, _, rfl, ite2 (fun h1 => ⟨_, _, rfl, rfl, ?_⟩) (fun h1 => ?_)⟩
    · rw [h1, Bool.true_and] at k
      exact k
    · rw [Bool.eq_false_iff.mpr h1, Bool.false_and] at k
      exact k
def sp_is_strength (K : PySem.W.Frag) (D : Dat) : Sp := fun vs H Q _ => ∃ g : Int, vs = [.int g] ∧ Q (.bl (decide (1 ≤ g) && decide (g ≤ 9))) H
theorem ok_is_strength (T : Txt K mg D) : FnOk P w K mg base CX0 1 D.f_is_strength D.d_is_strength ["strength"] (sp_is_strength K D) := by
  refine T.fun_is_strength.ok sc_is_strength (fun vs H Q E h => ?_) (fun cdv A oenv s H vs Q E hr h => ?_)
  · obtain ⟨g, rfl, _⟩ := h
    rfl
  · obtain ⟨g, rfl, k⟩ := h
    refine ⟨_, (pss_one (ps_ret (pe_chain op_le op_le pe_int (pv 0) (pe_const rfl T.k_MOST_STRENGTH)))), ?_⟩
    refine ⟨_, rfl, _, _, rfl, rfl, _, rfl, ite2 (fun h1 => ⟨_, _, rfl, rfl, ?_⟩) (fun h1 => ?_)⟩
    · rw [h1, Bool.true_and] at k
      exact k
    · rw [Bool.eq_false_iff.mpr h1, Bool.false_and] at k
      exact k
def sp_is_place (K : PySem.W.Frag) (D : Dat) : Sp := fun vs H Q _ => ∃ x y : Int, vs = [.int x, .int y] ∧ Q (.bl (decide (x ≤ 50) && decide (y ≤ 50))) H
theorem ok_is_place (T : Txt K mg D) : FnOk P w K mg base CX0 1 D.f_is_place D.d_is_place ["x", "y"] (sp_is_place K D) := by
  refine T.fun_is_place.ok sc_is_place (fun vs H Q E h => ?_) (fun cdv A oenv s H vs Q E hr h => ?_)
  · obtain ⟨x, y, rfl, _⟩ := h
    rfl
  · obtain ⟨x, y, rfl, k⟩ := h
    refine ⟨_, (pss_one (ps_ret (pe_and (pe_cmpR op_le (pv 0) (pe_const rfl T.k_FURTHEST) (nomark _)) (pe_one (pe_cmpR op_le (pv 1) (pe_const rfl T.k_FURTHEST) (nomark _)))))), ?_⟩
    refine ⟨_, rfl, _, _, rfl, rfl, _, rfl, ite2 (fun h1 => ⟨_, rfl, _, _, rfl, rfl, ?_⟩) (fun h1 => ?_)⟩
    · rw [h1, Bool.true_and] at k
      exact k
    · rw [Bool.eq_false_iff.mpr h1, Bool.false_and] at k
      exact k
def sp_is_taken (K : PySem.W.Frag) (D : Dat) : Sp := fun vs H Q _ => ∃ (L : Lay) (b : Bool) (a : Abs) (x y : Nat), vs = [.ref L.p, nV x, nV y] ∧ WallAt D H L b a ∧ Wf a ∧ ∀ H', Same H H' → Q (.bl (a.taken x y)) H'
theorem eq_nat (m n : Nat) : decide (nV m = nV n) = (m == n) := by
  by_cases e : m = n
  · subst e
    simp
  · have : ¬ nV m = nV n := fun q => e (by injection q with q; omega)
    rw [decide_eq_false this]
    simp [e]
theorem any_index {α : Type} (p : α → Bool) (d : α) : ∀ (l : List α), (((List.range l.length).filter fun _ => true).map fun i => p (l.getD i d)).any id = l.any p := by
  intro l
  rw [List.filter_eq_self.mpr (fun _ _ => rfl)]
  have e : ((List.range l.length).map fun i => p (l.getD i d)) = l.map p := by
    apply List.ext_getElem?
    intro i
    rw [List.getElem?_map, List.getElem?_map]
    by_cases h : i < l.length
    · rw [List.getElem?_range h, List.getElem?_eq_getElem h]
      simp [List.getD_eq_getElem?_getD, List.getElem?_eq_getElem h]
    · rw [List.getElem?_eq_none (by simpa using h), List.getElem?_eq_none (by omega)]
      rfl
  rw [e, List.any_map]
  rfl
theorem ok_is_taken (T : Txt K mg D) : FnOk P w K mg base CX0 1 D.f_is_taken D.d_is_taken ["wall", "x", "y"] (sp_is_taken K D) := by
  refine T.fun_is_taken.ok sc_is_taken (fun vs H Q E h => ?_) (fun cdv A oenv s H vs Q E hr h => ?_)
  · obtain ⟨L, b, a, x, y, rfl, _⟩ := h
    rfl
  · obtain ⟨L, b, a, x, y, rfl, W, wf, k⟩ := h
    obtain ⟨dx, hw⟩ := W.wall
    refine ⟨_, (pss_one (ps_ret (pe_callB (cr_any rfl) rfl T.n_any bt_any (pa_cons (pe_lc rfl sc_is_taken.nd (pi_list (pe_fld (pv 0) rfl)) (own := [("hold", 3)]) (tt := tYes) (te := (tAndV (tOp rEq (tFld K (tVar 3) "x") (tVar 1)) (tOp rEq (tFld K (tVar 3) "y") (tVar 2)))) (blkOk_by rfl) (fun _ _ _ _ _ => pg_name (i := 3) sc_is_taken.nd rfl loc_) (fun _ _ _ _ _ => pts_nil) (fun _ _ _ _ _ => (pe_and (pe_cmpR op_eq (pe_fld (pv 3) rfl) (pv 1) (nomark _)) (pe_one (pe_cmpR op_eq (pe_fld (pv 3) rfl) (pv 2) (nomark _)))))) pa_nil)))), ?_⟩
    refine ⟨_, rfl, L.p, _, dx, _, _, rfl, hw, T.cl_Wall, T.na_Wall_holds, lk_holds _ _ _ _ _, L.hl, rfl, ⟨_, SqL.of W.hl⟩, fun B hB => ?_⟩
    have hz : (L.hs.map V.ref).length ≤ 1000 := by rw [List.length_map, W.nh]; have := wf.nh; omega
    refine lc_same (fun _ => true) (fun i => .bl ((a.hold i).x == x && (a.hold i).y == y)) (SqL.of W.hl) hB hz (fun i v H1 acc hi s1 hl hz1 N k1 => ?_) (fun H1 s1 hl => ?_)
    · have hlt : i < a.holds.length := by
        have := (List.getElem?_eq_some_iff.mp hi).1
        rw [List.length_map, W.nh] at this
        exact this
      obtain ⟨q, dq, h1, h2, h3⟩ := W.holdAt hlt
      rw [ref_at h1] at hi
      obtain rfl : V.ref q = v := Option.some.inj hi
      refine ⟨rfl, ?_⟩
      have k2 := k1 H1 (Same.refl _)
      rw [if_pos rfl] at k2
      refine ⟨_, rfl, q, _, dq, _, _, rfl, s1 _ _ h3, T.cl_Hold, T.na_Hold_x, lk_x _, _, rfl, rfl, _, rfl, ite2 (fun e1 => ⟨_, rfl, q, _, dq, _, _, rfl, s1 _ _ h3, T.cl_Hold, T.na_Hold_y, lk_y _, _, rfl, rfl, acc, hl, hz1, ?_⟩) (fun e1 => ⟨acc, hl, hz1, ?_⟩)⟩
      · rw [eq_nat] at e1
        rw [e1, Bool.true_and] at k2
        rw [eq_nat]
        exact k2
      · have e2 : ((a.hold i).x == x) = false := by rw [← eq_nat]; exact Bool.eq_false_iff.mpr e1
        rw [e2, Bool.false_and] at k2
        exact k2
    · refine ⟨B, _, rfl, SqL.of (by rw [hl]; exact congrArg (fun z => some (HO.lst z)) (List.map_map (f := fun i => (a.hold i).x == x && (a.hold i).y == y) (g := V.bl)).symm), ?_⟩
      have e : (((List.range (L.hs.map V.ref).length).filter fun _ => true).map fun i => (a.hold i).x == x && (a.hold i).y == y).any id = a.taken x y := by
        rw [List.length_map, W.nh]
        exact any_index (fun h : Su55.Hold => h.x == x && h.y == y) ⟨0, 0, 0, 0, false⟩ a.holds
      rw [e]
      exact k H1 s1
end
end Cw
end
section
set_option Elab.async false
set_option linter.all false
set_option maxRecDepth 100000
set_option maxHeartbeats 2000000
namespace Cw
open PySem PySem.Spec PyProof.Rows L2
open Su55 (Abs)
section
variable {P : Program} {w : World} {K : PySem.W.Frag} {mg : Str → Option Value} {base : Heap} {D : Dat}
theorem int_eq {i j : Int} : (decide (V.int i = V.int j) = true) = (i = j) := by
  rw [decide_eq_true_eq]
  exact propext ⟨fun q => by injection q, fun q => by rw [q]⟩
theorem le50 {x y : Nat} : (decide ((x : Int) ≤ 50) && decide ((y : Int) ≤ 50)) = Su55.okAt x y := by
  unfold Su55.okAt Su55.SIZE
  congr 1 <;> (apply decide_eq_decide.mpr; omega)
theorem grip9 {g : Nat} : (decide ((1 : Int) ≤ (g : Int)) && decide ((g : Int) ≤ 9)) = !(decide (g = 0 ∨ 9 < g)) := by
  by_cases h : g = 0 ∨ 9 < g
  · rw [decide_eq_true h]
    rcases h with h | h
    · subst h; rfl
    · have : ¬ ((g : Int) ≤ 9) := by omega
      simp [this]
  · rw [decide_eq_false h]
    have h1 : (1 : Int) ≤ (g : Int) := by omega
    have h2 : (g : Int) ≤ 9 := by omega
    simp [h1, h2]
def sp_add_hold (K : PySem.W.Frag) (D : Dat) : Sp := fun vs H Q _ => ∃ (L : Lay) (a : Abs) (x y g : Nat), vs = [.ref L.p, nV x, nV y, nV g] ∧ WallAt D H L true a ∧ Wf a ∧ Gives D H L a (.hold x y g) Q
theorem ok_add_hold (T : Txt K mg D) : FnOk P w K mg base CX0 3 D.f_add_hold D.d_add_hold ["wall", "x", "y", "grip"] (sp_add_hold K D) := by
  refine T.fun_add_hold.ok sc_add_hold (fun vs H Q E h => ?_) (fun cdv A oenv s H vs Q E hr h => ?_)
  · obtain ⟨L, a, x, y, g, rfl, _⟩ := h
    rfl
  · obtain ⟨L, a, x, y, g, rfl, W, wf, k⟩ := h
    obtain ⟨dx, hw⟩ := W.wall
    refine ⟨_, (pss_cons (ps_if (pt_cmpR op_eq (pe_callB cr_len rfl T.n_len bt_len (pa_cons (pe_fld (pv 0) rfl) pa_nil)) (pe_const rfl T.k_MOST_HOLDS) (nomark _)) (pss_one (ps_ret (pe_lst (pa_cons (pe_const rfl T.k_TOO_MANY) pa_nil)))) pss_nil)
  (pss_cons (ps_if (PW.pt (pw_or (pt_not (pt_val (pe_call (ok_is_place T) (hr.mono (by decide)) rfl T.g_is_place T.fun_is_place.kp T.b_is_place .nil pass0 (pa_cons (pv 1) (pa_cons (pv 2) pa_nil))))) (pw_or1 (pt_not (pt_val (pe_call (ok_is_grip T) (hr.mono (by decide)) rfl T.g_is_grip T.fun_is_grip.kp T.b_is_grip .nil pass0 (pa_cons (pv 3) pa_nil))))))) (pss_one (ps_ret (pe_lst (pa_cons (pe_const rfl T.k_OUT_OF_RANGE) pa_nil)))) pss_nil)
  (pss_cons (ps_if (pt_val (pe_call (ok_is_taken T) (hr.mono (by decide)) rfl T.g_is_taken T.fun_is_taken.kp T.b_is_taken .nil pass0 (pa_cons (pv 0) (pa_cons (pv 1) (pa_cons (pv 2) pa_nil))))) (pss_one (ps_ret (pe_lst (pa_cons (pe_const rfl T.k_SO_ALREADY) pa_nil)))) pss_nil)
  (pss_cons (ps_expr (pe_bm PySem.F.plainAttrs_list PySem.F.slot_list_append PySem.F.type_list_append mt_append (pe_fld (pv 0) rfl) (pa_cons (pe_make T.mk_Hold (ok_Hold T) (hr.mono (by decide)) rfl T.g_Hold T.b_Hold .nil pass0 (pa_cons (pv 1) (pa_cons (pv 2) (pa_cons (pv 3) pa_nil)))) pa_nil)))
  (pss_one (ps_ret (pe_lst (pa_cons (pe_op op_sub (pe_callB cr_len rfl T.n_len bt_len (pa_cons (pe_fld (pv 0) rfl) pa_nil)) pe_int) pa_nil)))))))), ?_⟩
    refine ⟨_, rfl, L.p, _, dx, _, _, rfl, hw, T.cl_Wall, T.na_Wall_holds, lk_holds _ _ _ _ _, L.hl, _, rfl, .inl (SqL.of W.hl), rfl, _, rfl, ite2 (fun h1 => ?_) (fun h1 => ?_)⟩
    · refine ⟨(by show 1 ≤ sizeLine; decide), fun l hl => Gives.no k W ?_ hl⟩
      rw [int_eq, List.length_map, W.nh] at h1
      unfold Su55.does Su55.HOLDS; dsimp only
      rw [if_pos (by omega)]
    · rw [int_eq, List.length_map, W.nh] at h1
      have n1 : ¬ Su55.HOLDS ≤ a.holds.length := by have := wf.nh; unfold Su55.HOLDS; omega
      refine ⟨_, rfl, _, rfl, _, _, rfl, _, rfl, ite2 (fun h2 => iteT ⟨(by show 1 ≤ sizeLine; decide), fun l hl => Gives.no k W ?_ hl⟩) (fun h2 => ⟨_, rfl, _, rfl, _, rfl, ite2 (fun h3 => ⟨(by show 1 ≤ sizeLine; decide), fun l hl => Gives.no k W ?_ hl⟩) (fun h3 => ?_)⟩)⟩
      · rw [le50, Bool.not_eq_true'] at h2
        unfold Su55.does; dsimp only
        rw [if_neg n1, if_pos (.inl h2)]
      · rw [grip9, Bool.not_not, decide_eq_true_eq] at h3
        unfold Su55.does; dsimp only
        rw [if_neg n1, if_pos (.inr h3)]
      · rw [le50, Bool.not_eq_true', Bool.not_eq_false] at h2
        rw [grip9, Bool.not_not, decide_eq_true_eq] at h3
        have n2 : ¬ (Su55.okAt x y = false ∨ g = 0 ∨ 9 < g) := fun q => q.elim (fun z => by rw [h2] at z; cases z) h3
        refine ⟨_, rfl, _, rfl, _, rfl, L, true, a, x, y, rfl, W, wf, fun H1 s1 => ⟨_, rfl, ite2 (fun h4 => ⟨(by show 1 ≤ sizeLine; decide), fun l hl => Gives.noS k W ?_ s1 hl⟩) (fun h4 => ?_)⟩⟩
        · unfold Su55.does; dsimp only
          rw [if_neg n1, if_neg n2, if_pos h4]
        · have W1 := W.same s1
          obtain ⟨dx1, hw1⟩ := W1.wall
          refine ⟨_, rfl, L.p, _, dx1, _, _, rfl, hw1, T.cl_Wall, T.na_Wall_holds, lk_holds _ _ _ _ _, .inl ⟨rfl, _, SqL.of W1.hl⟩, _, rfl, _, rfl, _, rfl, fun q dq hq hdq hne => ⟨q, dq, _, _, _, rfl, upd_same, rfl, ?_⟩⟩
          have s2 : Same H1 (upd (upd (upd H1 dq (.own q)) q (.ins D.c_Hold dq [])) q (.ins D.c_Hold dq (fHold ⟨x, y, g, 0, true⟩))) := fun c u e => by
            rw [upd_ne (ne_of_none e hq), upd_ne (ne_of_none e hq), upd_ne (ne_of_none e hdq)]
            exact e
          refine ⟨L.hl, _, _, rfl, rfl, s2 _ _ W1.hl, small1000 (by rw [List.length_map, W.nh]; have := wf.nh; omega), ?_⟩
          have W3 := W1.addHold (H' := upd (upd (upd (upd H1 dq (.own q)) q (.ins D.c_Hold dq [])) q (.ins D.c_Hold dq (fHold ⟨x, y, g, 0, true⟩))) L.hl (.lst (L.hs.map V.ref ++ [V.ref q]))) (x := q) (h := ⟨x, y, g, 0, true⟩) hq upd_same
            ⟨dq, by rw [upd_ne (Ne.symm (ne_of_none W1.hl hq)), upd_same]⟩ (fun c u e hc => by rw [upd_ne hc]; exact s2 _ _ e)
          obtain ⟨dx3, hw3⟩ := W3.wall
          refine ⟨_, rfl, L.p, _, dx3, _, _, rfl, hw3, T.cl_Wall, T.na_Wall_holds, lk_holds _ _ _ _ _, L.hl, _, rfl, .inl (SqL.of W3.hl), _, _, rfl, rfl, (by show 1 ≤ sizeLine; decide), fun l hl => ?_⟩
          have ed : Su55.does a (.hold x y g) = ({ a with holds := a.holds ++ [⟨x, y, g, 0, true⟩] }, Su55.num a.holds.length []) := by
            unfold Su55.does; dsimp only
            rw [if_neg n1, if_neg n2, if_neg h4]
          have hn1 : H1 l = none := by
            cases e : H1 l with
            | none => rfl
            | some u =>
              by_cases z : l = L.hl
              · rw [z, upd_same] at hl
                cases hl
              · rw [upd_ne z] at hl
                exact nomatch hl.symm.trans (s2 _ _ e)
          have hn : H l = none := Same.free s1 hn1
          refine k _ { L with hs := L.hs ++ [q] } l ?_ ⟨fun c u e hc => ?_, fun c hc => ?_, rfl⟩ ?_ (W3.out hl) hn
          · rw [ed]
            exact W3.same (same_new hl)
          · have e1 := s1 _ _ e
            rw [upd_ne (ne_of_none e1 hn1), upd_ne (fun z => hc (.inr (.inl z)))]
            exact s2 _ _ e1
          · rcases hc with h | h | h | h | h | h | h | h
            · exact .inl (.inl h)
            · exact .inl (.inr (.inl h))
            · exact .inl (.inr (.inr (.inl h)))
            · exact .inl (.inr (.inr (.inr (.inl h))))
            · rcases List.mem_append.mp h with h | h
              · exact .inl (.inr (.inr (.inr (.inr (.inl h)))))
              · have : c = q := by simpa using h
                rw [this]
                exact .inr (Same.free s1 hq)
            · exact .inl (.inr (.inr (.inr (.inr (.inr (.inl h))))))
            · exact .inl (.inr (.inr (.inr (.inr (.inr (.inr (.inl h)))))))
            · exact .inl (.inr (.inr (.inr (.inr (.inr (.inr (.inr h)))))))
          · rw [ed, upd_same]
            have : ((((L.hs ++ [q]).map V.ref).length : Int) - 1) = (a.holds.length : Int) := by
              rw [List.length_map, List.length_append, W.nh, List.length_singleton]
              omega
            show some (HO.lst [V.int ((((L.hs ++ [q]).map V.ref).length : Int) - 1)]) = _
            rw [this]
            rfl
end
end Cw
end
section
set_option Elab.async false
set_option linter.all false
set_option maxRecDepth 100000
set_option maxHeartbeats 2000000
namespace Cw
open PySem PySem.Spec PyProof.Rows L2
open Su55 (Abs)
section
variable {P : Program} {w : World} {K : PySem.W.Frag} {mg : Str → Option Value} {base : Heap} {D : Dat}
theorem isH_iff {a : Abs} {h : Nat} : a.isH h = false ↔ a.holds.length ≤ h := by
  unfold Abs.isH
  rw [decide_eq_false_iff_not]
  omega
theorem isC_iff {a : Abs} {h : Nat} : a.isC h = false ↔ a.climbers.length ≤ h := by
  unfold Abs.isC
  rw [decide_eq_false_iff_not]
  omega
theorem isR_iff {a : Abs} {h : Nat} : a.isR h = false ↔ a.routes.length ≤ h := by
  unfold Abs.isR
  rw [decide_eq_false_iff_not]
  omega
theorem Moved.hold {H H' : Hp} {L : Lay} {j : Nat} {q : Addr} (hq : L.hs[j]? = some q) (kp : ∀ c o, H c = some o → c ≠ q → H' c = some o) : Moved H L H' L :=
  ⟨fun c o e hc => kp c o e fun z => hc (.inr (.inr (.inr (.inr (.inl (by rw [z]; exact List.mem_of_getElem? hq)))))), fun c h => .inl h, rfl⟩
theorem Moved.climber {H H' : Hp} {L : Lay} {j : Nat} {q : Addr} (hq : L.cs[j]? = some q) (kp : ∀ c o, H c = some o → c ≠ q → H' c = some o) : Moved H L H' L :=
  ⟨fun c o e hc => kp c o e fun z => hc (.inr (.inr (.inr (.inr (.inr (.inr (.inr (by rw [z]; exact List.mem_of_getElem? hq)))))))), fun c h => .inl h, rfl⟩
def sp_shift_hold (K : PySem.W.Frag) (D : Dat) : Sp := fun vs H Q _ => ∃ (L : Lay) (a : Abs) (h x y : Nat), vs = [.ref L.p, nV h, nV x, nV y] ∧ WallAt D H L true a ∧ Wf a ∧ Gives D H L a (.shift h x y) Q
theorem ok_shift_hold (T : Txt K mg D) : FnOk P w K mg base CX0 2 D.f_shift_hold D.d_shift_hold ["wall", "h", "x", "y"] (sp_shift_hold K D) := by
  refine T.fun_shift_hold.ok sc_shift_hold (fun vs H Q E h => ?_) (fun cdv A oenv s H vs Q E hr h => ?_)
  · obtain ⟨L, a, h, x, y, rfl, _⟩ := h
    rfl
  · obtain ⟨L, a, h, x, y, rfl, W, wf, k⟩ := h
    obtain ⟨dx, hw⟩ := W.wall
    refine ⟨_, (pss_cons (ps_if (pt_cmpR op_ge (pv 1) (pe_callB cr_len rfl T.n_len bt_len (pa_cons (pe_fld (pv 0) rfl) pa_nil)) (nomark _)) (pss_one (ps_ret (pe_lst (pa_cons (pe_const rfl T.k_NO_SUCH) pa_nil)))) pss_nil)
  (pss_cons (ps_if (pt_not (pt_val (pe_call (ok_is_place T) (hr.mono (by decide)) rfl T.g_is_place T.fun_is_place.kp T.b_is_place .nil pass0 (pa_cons (pv 2) (pa_cons (pv 3) pa_nil))))) (pss_one (ps_ret (pe_lst (pa_cons (pe_const rfl T.k_OUT_OF_RANGE) pa_nil)))) pss_nil)
  (pss_cons (ps_if (pt_val (pe_call (ok_is_taken T) (hr.mono (by decide)) rfl T.g_is_taken T.fun_is_taken.kp T.b_is_taken .nil pass0 (pa_cons (pv 0) (pa_cons (pv 2) (pa_cons (pv 3) pa_nil))))) (pss_one (ps_ret (pe_lst (pa_cons (pe_const rfl T.k_SO_ALREADY) pa_nil)))) pss_nil)
  (pss_cons (ps_set (i := 4) sc_shift_hold.nd rfl loc_ (pe_ix ix_list (pe_fld (pv 0) rfl) (pv 1) (fun _ _ => rfl)))
  (pss_cons (ps_set (i := 5) sc_shift_hold.nd rfl loc_ (pe_lst (pa_cons (pe_fld (pv 4) rfl) (pa_cons (pe_fld (pv 4) rfl) pa_nil))))
  (pss_cons (ps_fld (pv 4) (pv 2) rfl)
  (pss_cons (ps_fld (pv 4) (pv 3) rfl)
  (pss_one (ps_ret (pv 5)))))))))), ?_⟩
    refine ⟨_, rfl, _, rfl, L.p, _, dx, _, _, rfl, hw, T.cl_Wall, T.na_Wall_holds, lk_holds _ _ _ _ _, L.hl, _, rfl, .inl (SqL.of W.hl), _, _, rfl, rfl, _, rfl, ite2 (fun h1 => ⟨(by show 1 ≤ sizeLine; decide), fun l hl => Gives.no k W ?_ hl⟩) (fun h1 => ?_)⟩
    · rw [decide_eq_true_eq, List.length_map, W.nh] at h1
      unfold Su55.does; dsimp only
      rw [if_pos (isH_iff.mpr (by omega))]
    · rw [decide_eq_true_eq, List.length_map, W.nh] at h1
      have hlt : h < a.holds.length := by omega
      have n1 : ¬ a.isH h = false := fun z => by have := isH_iff.mp z; omega
      refine ⟨_, rfl, _, rfl, _, _, rfl, _, rfl, ite2 (fun h2 => ⟨(by show 1 ≤ sizeLine; decide), fun l hl => Gives.no k W ?_ hl⟩) (fun h2 => ?_)⟩
      · rw [le50, Bool.not_eq_true'] at h2
        unfold Su55.does; dsimp only
        rw [if_neg n1, if_pos h2]
      · rw [le50, Bool.not_eq_true', Bool.not_eq_false] at h2
        have n2 : ¬ Su55.okAt x y = false := fun z => by rw [h2] at z; cases z
        refine ⟨_, rfl, _, rfl, _, rfl, L, true, a, x, y, rfl, W, wf, fun H1 s1 => ⟨_, rfl, ite2 (fun h4 => ⟨(by show 1 ≤ sizeLine; decide), fun l hl => Gives.noS k W ?_ s1 hl⟩) (fun h4 => ?_)⟩⟩
        · unfold Su55.does; dsimp only
          rw [if_neg n1, if_neg n2, if_pos h4]
        · have W1 := W.same s1
          obtain ⟨dx1, hw1⟩ := W1.wall
          obtain ⟨q, dq, hq, hh, hH⟩ := W1.holdAt hlt
          refine ⟨_, rfl, L.p, _, dx1, _, _, rfl, hw1, T.cl_Wall, T.na_Wall_holds, lk_holds _ _ _ _ _, _, rfl, L.hl, _, _, _, rfl, rfl, SqL.of W1.hl, atI_nat (ref_at hq), ?_⟩
          refine ⟨_, rfl, q, _, dq, _, _, rfl, hH, T.cl_Hold, T.na_Hold_x, lk_x _, _, rfl, q, _, dq, _, _, rfl, hH, T.cl_Hold, T.na_Hold_y, lk_y _, (by show 2 ≤ sizeLine; decide), fun l hl => ?_⟩
          have nql : q ≠ l := ne_of_none hH hl
          refine ⟨_, rfl, _, rfl, q, _, dq, _, rfl, (by rw [upd_ne nql]; exact hH), T.cl_Hold, T.na_Hold_x, (by show 5 < 1000; decide), ?_⟩
          refine ⟨_, rfl, _, rfl, q, _, dq, _, rfl, upd_same, T.cl_Hold, T.na_Hold_y, (by show 5 < 1000; decide), ?_⟩
          refine ⟨_, rfl, ?_⟩
          have kp : ∀ c o, H1 c = some o → c ≠ q → (upd (upd (upd H1 l (.lst [.int (a.hold h).x, .int (a.hold h).y])) q (.ins D.c_Hold dq (fHold { (a.hold h) with x := x }))) q (.ins D.c_Hold dq (fHold { (a.hold h) with x := x, y := y }))) c = some o := fun c o e hc => by
            rw [upd_ne hc, upd_ne hc, upd_ne (ne_of_none e hl)]
            exact e
          have W3 := W1.setHold (f := fun z => { z with x := x, y := y }) hq hh ⟨dq, upd_same⟩ kp
          have ed : Su55.does a (.shift h x y) = (a.set h fun z => { z with x := x, y := y }, Su55.num (a.hold h).x [(a.hold h).y]) := by
            unfold Su55.does; dsimp only
            rw [if_neg n1, if_neg n2, if_neg h4]
          refine k _ L l ?_ (Moved.hold hq fun c o e hc => kp c o (s1 _ _ e) hc) ?_ (W1.out hl) (Same.free s1 hl)
          · rw [ed]
            exact W3
          · rw [ed]
            show upd _ q _ l = _
            rw [upd_ne nql.symm]
            show upd _ q _ l = _
            rw [upd_ne nql.symm, upd_same]
            rfl
def sp_put_back (K : PySem.W.Frag) (D : Dat) : Sp := fun vs H Q _ => ∃ (L : Lay) (a : Abs) (h : Nat), vs = [.ref L.p, nV h] ∧ WallAt D H L true a ∧ Wf a ∧ Gives D H L a (.back h) Q
theorem ok_put_back (T : Txt K mg D) : FnOk P w K mg base CX0 1 D.f_put_back D.d_put_back ["wall", "h"] (sp_put_back K D) := by
  refine T.fun_put_back.ok sc_put_back (fun vs H Q E h => ?_) (fun cdv A oenv s H vs Q E hr h => ?_)
  · obtain ⟨L, a, h, rfl, _⟩ := h
    rfl
  · obtain ⟨L, a, h, rfl, W, wf, k⟩ := h
    obtain ⟨dx, hw⟩ := W.wall
    refine ⟨_, (pss_cons (ps_if (pt_cmpR op_ge (pv 1) (pe_callB cr_len rfl T.n_len bt_len (pa_cons (pe_fld (pv 0) rfl) pa_nil)) (nomark _)) (pss_one (ps_ret (pe_lst (pa_cons (pe_const rfl T.k_NO_SUCH) pa_nil)))) pss_nil)
  (pss_cons (ps_set (i := 2) sc_put_back.nd rfl loc_ (pe_ix ix_list (pe_fld (pv 0) rfl) (pv 1) (fun _ _ => rfl)))
  (pss_cons (ps_if (pt_val (pe_fld (pv 2) rfl)) (pss_one (ps_ret (pe_lst (pa_cons (pe_const rfl T.k_SO_ALREADY) pa_nil)))) pss_nil)
  (pss_cons (ps_fld (pv 2) pe_bl rfl)
  (pss_one (ps_ret (pe_lst (pa_cons pe_int pa_nil)))))))), ?_⟩
    refine ⟨_, rfl, _, rfl, L.p, _, dx, _, _, rfl, hw, T.cl_Wall, T.na_Wall_holds, lk_holds _ _ _ _ _, L.hl, _, rfl, .inl (SqL.of W.hl), _, _, rfl, rfl, _, rfl, ite2 (fun h1 => ⟨(by show 1 ≤ sizeLine; decide), fun l hl => Gives.no k W ?_ hl⟩) (fun h1 => ?_)⟩
    · rw [decide_eq_true_eq, List.length_map, W.nh] at h1
      unfold Su55.does; dsimp only
      rw [if_pos (isH_iff.mpr (by omega))]
    · rw [decide_eq_true_eq, List.length_map, W.nh] at h1
      have hlt : h < a.holds.length := by omega
      have n1 : ¬ a.isH h = false := fun z => by have := isH_iff.mp z; omega
      obtain ⟨q, dq, hq, hh, hH⟩ := W.holdAt hlt
      refine ⟨_, rfl, L.p, _, dx, _, _, rfl, hw, T.cl_Wall, T.na_Wall_holds, lk_holds _ _ _ _ _, _, rfl, L.hl, _, _, _, rfl, rfl, SqL.of W.hl, atI_nat (ref_at hq), ?_⟩
      refine ⟨_, rfl, q, _, dq, _, _, rfl, hH, T.cl_Hold, T.na_Hold_on, lk_on _, _, rfl, ite2 (fun h2 => ⟨(by show 1 ≤ sizeLine; decide), fun l hl => Gives.no k W ?_ hl⟩) (fun h2 => ?_)⟩
      · unfold Su55.does; dsimp only
        rw [if_neg n1, if_pos h2]
      · refine ⟨_, rfl, q, _, dq, _, rfl, hH, T.cl_Hold, T.na_Hold_on, (by show 5 < 1000; decide), (by show 1 ≤ sizeLine; decide), fun l hl => ?_⟩
        have kp : ∀ c o, H c = some o → c ≠ q → (upd H q (.ins D.c_Hold dq (fHold { (a.hold h) with on_ := true }))) c = some o := fun c o e hc => by
          rw [upd_ne hc]
          exact e
        have W3 := W.setHold (f := fun z => { z with on_ := true }) hq hh ⟨dq, upd_same⟩ kp
        have ed : Su55.does a (.back h) = (a.set h fun z => { z with on_ := true }, Su55.no 0) := by
          unfold Su55.does; dsimp only
          rw [if_neg n1, if_neg h2]
        have nlq : l ≠ q := fun z => by
          rw [z] at hl
          exact nomatch hl.symm.trans (upd_same (H := H) (a := q))
        have hn : H l = none := by
          have hl' : upd H q _ l = none := hl
          rwa [upd_ne nlq] at hl'
        refine k _ L l ?_ (Moved.hold hq fun c o e hc => ?_) ?_ (W.out hn) hn
        · rw [ed]
          exact W3.same (same_new hl)
        · exact same_new hl _ _ (kp c o e hc)
        · rw [ed]
          exact upd_same
def sp_turn_hold (K : PySem.W.Frag) (D : Dat) : Sp := fun vs H Q _ => ∃ (L : Lay) (a : Abs) (h g : Nat), vs = [.ref L.p, nV h, nV g] ∧ WallAt D H L true a ∧ Wf a ∧ Gives D H L a (.turn h g) Q
theorem ok_turn_hold (T : Txt K mg D) : FnOk P w K mg base CX0 2 D.f_turn_hold D.d_turn_hold ["wall", "h", "grip"] (sp_turn_hold K D) := by
  refine T.fun_turn_hold.ok sc_turn_hold (fun vs H Q E h => ?_) (fun cdv A oenv s H vs Q E hr h => ?_)
  · obtain ⟨L, a, h, g, rfl, _⟩ := h
    rfl
  · obtain ⟨L, a, h, g, rfl, W, wf, k⟩ := h
    obtain ⟨dx, hw⟩ := W.wall
    refine ⟨_, (pss_cons (ps_if (pt_cmpR op_ge (pv 1) (pe_callB cr_len rfl T.n_len bt_len (pa_cons (pe_fld (pv 0) rfl) pa_nil)) (nomark _)) (pss_one (ps_ret (pe_lst (pa_cons (pe_const rfl T.k_NO_SUCH) pa_nil)))) pss_nil)
  (pss_cons (ps_if (pt_not (pt_val (pe_call (ok_is_grip T) (hr.mono (by decide)) rfl T.g_is_grip T.fun_is_grip.kp T.b_is_grip .nil pass0 (pa_cons (pv 2) pa_nil)))) (pss_one (ps_ret (pe_lst (pa_cons (pe_const rfl T.k_OUT_OF_RANGE) pa_nil)))) pss_nil)
  (pss_cons (ps_set (i := 3) sc_turn_hold.nd rfl loc_ (pe_ix ix_list (pe_fld (pv 0) rfl) (pv 1) (fun _ _ => rfl)))
  (pss_cons (ps_set (i := 4) sc_turn_hold.nd rfl loc_ (pe_lst (pa_cons (pe_fld (pv 3) rfl) (pa_cons (pe_fld (pv 3) rfl) pa_nil))))
  (pss_cons (ps_fld (pv 3) (pv 2) rfl)
  (pss_cons (ps_fld (pv 3) pe_int rfl)
  (pss_one (ps_ret (pv 4))))))))), ?_⟩
    refine ⟨_, rfl, _, rfl, L.p, _, dx, _, _, rfl, hw, T.cl_Wall, T.na_Wall_holds, lk_holds _ _ _ _ _, L.hl, _, rfl, .inl (SqL.of W.hl), _, _, rfl, rfl, _, rfl, ite2 (fun h1 => ⟨(by show 1 ≤ sizeLine; decide), fun l hl => Gives.no k W ?_ hl⟩) (fun h1 => ?_)⟩
    · rw [decide_eq_true_eq, List.length_map, W.nh] at h1
      unfold Su55.does; dsimp only
      rw [if_pos (isH_iff.mpr (by omega))]
    · rw [decide_eq_true_eq, List.length_map, W.nh] at h1
      have hlt : h < a.holds.length := by omega
      have n1 : ¬ a.isH h = false := fun z => by have := isH_iff.mp z; omega
      obtain ⟨q, dq, hq, hh, hH⟩ := W.holdAt hlt
      refine ⟨_, rfl, _, rfl, _, rfl, ite2 (fun h2 => ⟨(by show 1 ≤ sizeLine; decide), fun l hl => Gives.no k W ?_ hl⟩) (fun h2 => ?_)⟩
      · rw [grip9, Bool.not_not, decide_eq_true_eq] at h2
        unfold Su55.does; dsimp only
        rw [if_neg n1, if_pos h2]
      · rw [grip9, Bool.not_not, decide_eq_true_eq] at h2
        refine ⟨_, rfl, L.p, _, dx, _, _, rfl, hw, T.cl_Wall, T.na_Wall_holds, lk_holds _ _ _ _ _, _, rfl, L.hl, _, _, _, rfl, rfl, SqL.of W.hl, atI_nat (ref_at hq), ?_⟩
        refine ⟨_, rfl, q, _, dq, _, _, rfl, hH, T.cl_Hold, T.na_Hold_grip, lk_grip _, _, rfl, q, _, dq, _, _, rfl, hH, T.cl_Hold, T.na_Hold_hands, lk_hands _, (by show 2 ≤ sizeLine; decide), fun l hl => ?_⟩
        have nql : q ≠ l := ne_of_none hH hl
        refine ⟨_, rfl, _, rfl, q, _, dq, _, rfl, (by rw [upd_ne nql]; exact hH), T.cl_Hold, T.na_Hold_grip, (by show 5 < 1000; decide), ?_⟩
        refine ⟨_, rfl, q, _, dq, _, rfl, upd_same, T.cl_Hold, T.na_Hold_hands, (by show 5 < 1000; decide), ?_⟩
        refine ⟨_, rfl, ?_⟩
        have kp : ∀ c o, H c = some o → c ≠ q → (upd (upd (upd H l (.lst [.int (a.hold h).grip, .int (a.hold h).used])) q (.ins D.c_Hold dq (fHold { (a.hold h) with grip := g }))) q (.ins D.c_Hold dq (fHold { (a.hold h) with grip := g, used := 0 }))) c = some o := fun c o e hc => by
          rw [upd_ne hc, upd_ne hc, upd_ne (ne_of_none e hl)]
          exact e
        have W3 := W.setHold (f := fun z => { z with grip := g, used := 0 }) hq hh ⟨dq, upd_same⟩ kp
        have ed : Su55.does a (.turn h g) = (a.set h fun z => { z with grip := g, used := 0 }, Su55.num (a.hold h).grip [(a.hold h).used]) := by
          unfold Su55.does; dsimp only
          rw [if_neg n1, if_neg h2]
        refine k _ L l ?_ (Moved.hold hq kp) ?_ (W.out hl) hl
        · rw [ed]
          exact W3
        · rw [ed]
          show upd _ q _ l = _
          rw [upd_ne nql.symm]
          show upd _ q _ l = _
          rw [upd_ne nql.symm, upd_same]
          rfl
def sp_train_climber (K : PySem.W.Frag) (D : Dat) : Sp := fun vs H Q _ => ∃ (L : Lay) (a : Abs) (c s : Nat), vs = [.ref L.p, nV c, nV s] ∧ WallAt D H L true a ∧ Wf a ∧ Gives D H L a (.train c s) Q
theorem ok_train_climber (T : Txt K mg D) : FnOk P w K mg base CX0 2 D.f_train_climber D.d_train_climber ["wall", "c", "strength"] (sp_train_climber K D) := by
  refine T.fun_train_climber.ok sc_train_climber (fun vs H Q E h => ?_) (fun cdv A oenv s H vs Q E hr h => ?_)
  · obtain ⟨L, a, c, g, rfl, _⟩ := h
    rfl
  · obtain ⟨L, a, c, g, rfl, W, wf, k⟩ := h
    obtain ⟨dx, hw⟩ := W.wall
    refine ⟨_, (pss_cons (ps_if (pt_cmpR op_ge (pv 1) (pe_callB cr_len rfl T.n_len bt_len (pa_cons (pe_fld (pv 0) rfl) pa_nil)) (nomark _)) (pss_one (ps_ret (pe_lst (pa_cons (pe_const rfl T.k_NO_SUCH) pa_nil)))) pss_nil)
  (pss_cons (ps_if (pt_not (pt_val (pe_call (ok_is_strength T) (hr.mono (by decide)) rfl T.g_is_strength T.fun_is_strength.kp T.b_is_strength .nil pass0 (pa_cons (pv 2) pa_nil)))) (pss_one (ps_ret (pe_lst (pa_cons (pe_const rfl T.k_OUT_OF_RANGE) pa_nil)))) pss_nil)
  (pss_cons (ps_set (i := 3) sc_train_climber.nd rfl loc_ (pe_ix ix_list (pe_fld (pv 0) rfl) (pv 1) (fun _ _ => rfl)))
  (pss_cons (ps_set (i := 4) sc_train_climber.nd rfl loc_ (pe_lst (pa_cons (pe_fld (pv 3) rfl) pa_nil)))
  (pss_cons (ps_fld (pv 3) (pv 2) rfl)
  (pss_one (ps_ret (pv 4)))))))), ?_⟩
    refine ⟨_, rfl, _, rfl, L.p, _, dx, _, _, rfl, hw, T.cl_Wall, T.na_Wall_climbers, lk_climbers _ _ _ _ _, L.cl, _, rfl, .inl (SqL.of W.cl), _, _, rfl, rfl, _, rfl, ite2 (fun h1 => ⟨(by show 1 ≤ sizeLine; decide), fun l hl => Gives.no k W ?_ hl⟩) (fun h1 => ?_)⟩
    · rw [decide_eq_true_eq, List.length_map, W.nc] at h1
      unfold Su55.does; dsimp only
      rw [if_pos (isC_iff.mpr (by omega))]
    · rw [decide_eq_true_eq, List.length_map, W.nc] at h1
      have hlt : c < a.climbers.length := by omega
      have n1 : ¬ a.isC c = false := fun z => by have := isC_iff.mp z; omega
      obtain ⟨q, dq, hq, hh, hH⟩ := W.climberAt hlt
      refine ⟨_, rfl, _, rfl, _, rfl, ite2 (fun h2 => ⟨(by show 1 ≤ sizeLine; decide), fun l hl => Gives.no k W ?_ hl⟩) (fun h2 => ?_)⟩
      · rw [grip9, Bool.not_not, decide_eq_true_eq] at h2
        unfold Su55.does; dsimp only
        rw [if_neg n1, if_pos h2]
      · rw [grip9, Bool.not_not, decide_eq_true_eq] at h2
        refine ⟨_, rfl, L.p, _, dx, _, _, rfl, hw, T.cl_Wall, T.na_Wall_climbers, lk_climbers _ _ _ _ _, _, rfl, L.cl, _, _, _, rfl, rfl, SqL.of W.cl, atI_nat (ref_at hq), ?_⟩
        refine ⟨_, rfl, q, _, dq, _, _, rfl, hH, T.cl_Climber, T.na_Climber_strength, lk_strength _, (by show 1 ≤ sizeLine; decide), fun l hl => ?_⟩
        have nql : q ≠ l := ne_of_none hH hl
        refine ⟨_, rfl, _, rfl, q, _, dq, _, rfl, (by rw [upd_ne nql]; exact hH), T.cl_Climber, T.na_Climber_strength, (by show 5 < 1000; decide), ?_⟩
        refine ⟨_, rfl, ?_⟩
        have kp : ∀ b o, H b = some o → b ≠ q → (upd (upd H l (.lst [.int (a.climber c).strength])) q (.ins D.c_Climber dq (fClimber { (a.climber c) with strength := g }))) b = some o := fun b o e hc => by
          rw [upd_ne hc, upd_ne (ne_of_none e hl)]
          exact e
        have W3 := W.setClimber (f := fun z => { z with strength := g }) hq hh ⟨dq, upd_same⟩ kp
        have ed : Su55.does a (.train c g) = ({ a with climbers := a.climbers.modify c fun z => { z with strength := g } }, Su55.num (a.climber c).strength []) := by
          unfold Su55.does; dsimp only
          rw [if_neg n1, if_neg h2]
        refine k _ L l ?_ (Moved.climber hq kp) ?_ (W.out hl) hl
        · rw [ed]
          exact W3
        · rw [ed]
          show upd _ q _ l = _
          rw [upd_ne nql.symm, upd_same]
          rfl
end
end Cw
end
section
set_option Elab.async false
set_option linter.all false
set_option maxRecDepth 100000
set_option maxHeartbeats 2000000
namespace Cw
open PySem PySem.Spec PyProof.Rows L2
open Su55 (Abs)
section
variable {P : Program} {w : World} {K : PySem.W.Frag} {mg : Str → Option Value} {base : Heap} {D : Dat}
theorem inV_nat (h : Nat) : ∀ l : List Nat, inV (nV h) (l.map nV) = l.contains h
  | [] => rfl
  | x :: l => by
    have ih := inV_nat h l
    unfold inV at ih ⊢
    rw [List.map_cons, List.any_cons, ih, List.contains_cons]
    congr 1
    show ((x : Int) == (h : Int)) = (h == x)
    rw [Bool.eq_iff_iff, beq_iff_eq, beq_iff_eq]
    omega
theorem flat_nat : ∀ l : List Nat, (l.map nV).all flatV = true
  | [] => rfl
  | x :: l => by
    rw [List.map_cons, List.all_cons, flat_nat l]
    rfl
theorem filter_index {α : Type} (p : α → Bool) (d : α) : ∀ (l : List α), ((List.range l.length).filter fun i => p (l.getD i d)).length = (l.filter p).length := by
  intro l
  have e : l = (List.range l.length).map fun i => l.getD i d := by
    apply List.ext_getElem?
    intro i
    rw [List.getElem?_map]
    by_cases h : i < l.length
    · rw [List.getElem?_range h, List.getElem?_eq_getElem h]
      simp [List.getD_eq_getElem?_getD, List.getElem?_eq_getElem h]
    · rw [List.getElem?_eq_none (by omega), List.getElem?_eq_none (by simpa using h)]
      rfl
  conv => rhs; rw [e]
  rw [List.filter_map, List.length_map]
  rfl
def sp_take_off (K : PySem.W.Frag) (D : Dat) : Sp := fun vs H Q _ => ∃ (L : Lay) (a : Abs) (h : Nat), vs = [.ref L.p, nV h] ∧ WallAt D H L true a ∧ Wf a ∧ Gives D H L a (.off h) Q
theorem ok_take_off (T : Txt K mg D) : FnOk P w K mg base CX0 1 D.f_take_off D.d_take_off ["wall", "h"] (sp_take_off K D) := by
  refine T.fun_take_off.ok sc_take_off (fun vs H Q E h => ?_) (fun cdv A oenv s H vs Q E hr h => ?_)
  · obtain ⟨L, a, h, rfl, _⟩ := h
    rfl
  · obtain ⟨L, a, h, rfl, W, wf, k⟩ := h
    obtain ⟨dx, hw⟩ := W.wall
    refine ⟨_, (pss_cons (ps_if (pt_cmpR op_ge (pv 1) (pe_callB cr_len rfl T.n_len bt_len (pa_cons (pe_fld (pv 0) rfl) pa_nil)) (nomark _)) (pss_one (ps_ret (pe_lst (pa_cons (pe_const rfl T.k_NO_SUCH) pa_nil)))) pss_nil)
  (pss_cons (ps_set (i := 2) sc_take_off.nd rfl loc_ (pe_ix ix_list (pe_fld (pv 0) rfl) (pv 1) (fun _ _ => rfl)))
  (pss_cons (ps_if (pt_not (pt_val (pe_fld (pv 2) rfl))) (pss_one (ps_ret (pe_lst (pa_cons (pe_const rfl T.k_SO_ALREADY) pa_nil)))) pss_nil)
  (pss_cons (ps_fld (pv 2) pe_bl rfl)
  (pss_one (ps_ret (pe_lst (pa_cons (pe_callB cr_len rfl T.n_len bt_len (pa_cons (pe_lc rfl sc_take_off.nd (pi_list (pe_fld (pv 0) rfl)) (own := [("route", 3)]) (tt := (tTest (tOp (rIn K false) (tVar 1) (tFld K (tVar 3) "stops")))) (te := (tVar 3)) (blkOk_by rfl) (fun _ _ _ _ _ => pg_name (i := 3) sc_take_off.nd rfl loc_) (fun _ _ _ _ _ => (pts_one (pt_cmpR op_in_seq (pv 1) (pe_fld (pv 3) rfl) rfl))) (fun _ _ _ _ _ => (pv 3))) pa_nil)) pa_nil)))))))), ?_⟩
    refine ⟨_, rfl, _, rfl, L.p, _, dx, _, _, rfl, hw, T.cl_Wall, T.na_Wall_holds, lk_holds _ _ _ _ _, L.hl, _, rfl, .inl (SqL.of W.hl), _, _, rfl, rfl, _, rfl, ite2 (fun h1 => ⟨(by show 1 ≤ sizeLine; decide), fun l hl => Gives.no k W ?_ hl⟩) (fun h1 => ?_)⟩
    · rw [decide_eq_true_eq, List.length_map, W.nh] at h1
      unfold Su55.does; dsimp only
      rw [if_pos (isH_iff.mpr (by omega))]
    · rw [decide_eq_true_eq, List.length_map, W.nh] at h1
      have hlt : h < a.holds.length := by omega
      have n1 : ¬ a.isH h = false := fun z => by have := isH_iff.mp z; omega
      obtain ⟨q, dq, hq, hh, hH⟩ := W.holdAt hlt
      refine ⟨_, rfl, L.p, _, dx, _, _, rfl, hw, T.cl_Wall, T.na_Wall_holds, lk_holds _ _ _ _ _, _, rfl, L.hl, _, _, _, rfl, rfl, SqL.of W.hl, atI_nat (ref_at hq), ?_⟩
      refine ⟨_, rfl, q, _, dq, _, _, rfl, hH, T.cl_Hold, T.na_Hold_on, lk_on _, _, rfl, ite2 (fun h2 => ⟨(by show 1 ≤ sizeLine; decide), fun l hl => Gives.no k W ?_ hl⟩) (fun h2 => ?_)⟩
      · rw [Bool.not_eq_true'] at h2
        unfold Su55.does; dsimp only
        rw [if_neg n1, if_pos h2]
      · rw [Bool.not_eq_true'] at h2
        refine ⟨_, rfl, q, _, dq, _, rfl, hH, T.cl_Hold, T.na_Hold_on, (by show 5 < 1000; decide), ?_⟩
        have kp : ∀ c o, H c = some o → c ≠ q → (upd H q (.ins D.c_Hold dq (fHold { (a.hold h) with on_ := false }))) c = some o := fun c o e hc => by
          rw [upd_ne hc]
          exact e
        have W3 := W.setHold (f := fun z => { z with on_ := false }) hq hh ⟨dq, upd_same⟩ kp
        have ed : Su55.does a (.off h) = (a.set h fun z => { z with on_ := false }, Su55.num (a.routes.filter fun r => r.holds.contains h).length []) := by
          unfold Su55.does; dsimp only
          rw [if_neg n1, if_neg h2]
        have hn : ∀ l, upd H q (.ins D.c_Hold dq (fHold { (a.hold h) with on_ := false })) l = none → H l = none := fun l hl => by
          have nlq : l ≠ q := fun z => by
            rw [z] at hl
            exact nomatch hl.symm.trans (upd_same (H := H) (a := q))
          rwa [upd_ne nlq] at hl
        obtain ⟨dx3, hw3⟩ := W3.wall
        refine ⟨_, rfl, L.p, _, dx3, _, _, rfl, hw3, T.cl_Wall, T.na_Wall_routes, lk_routes _ _ _ _ _, L.rl, rfl, ⟨_, SqL.of W3.rl⟩, fun B hB => ?_⟩
        refine lc_same (fun i => (a.route i).holds.contains h) (fun i => (L.rs.map V.ref).getD i .non) (SqL.of W3.rl) hB (by rw [List.length_map, W.nr]; have := wf.nr; omega) (fun i v H1 acc hi s1 hl hz1 N k1 => ?_) (fun H1 s1 hl => ?_)
        · have hlt : i < a.routes.length := by
            have := (List.getElem?_eq_some_iff.mp hi).1
            rw [List.length_map, W.nr] at this
            exact this
          obtain ⟨r, dr, l, g1, g2, g3, g4, g5⟩ := W3.routeAt (j := i) hlt
          have hi' := hi
          rw [ref_at g1] at hi
          obtain rfl : V.ref r = v := Option.some.inj hi
          have k2 := k1 H1 (Same.refl _)
          refine ⟨rfl, _, rfl, _, rfl, r, _, dr, _, _, rfl, s1 _ _ g4, T.cl_Route, T.na_Route_stops, lk_stops _ _, l, _, rfl, .inl (SqL.of (s1 _ _ g5)), rfl, flat_nat _, _, rfl, ?_⟩
          have e0 : (a.set h fun z => { z with on_ := false }).route i = a.route i := rfl
          have e1 : (if false = true then !inV (nV h) ((a.route i).holds.map nV) else inV (nV h) ((a.route i).holds.map nV)) = (a.route i).holds.contains h := by
            rw [if_neg (by simp), inV_nat]
          refine ite2 (fun h5 => ⟨_, rfl, acc, hl, hz1, ?_⟩) (fun h5 => ?_)
          · have h5' : (a.route i).holds.contains h = true := e1.symm.trans h5
            rw [if_pos h5', List.getD_eq_getElem?_getD, hi'] at k2
            exact k2
          · have h5' : ¬ (a.route i).holds.contains h = true := fun z => h5 (e1.trans z)
            rw [if_neg h5'] at k2
            exact k2
        · refine ⟨B, _, rfl, .inl (SqL.of hl), (by show 1 ≤ sizeLine; decide), fun l hl2 => ?_⟩
          have s2 : Same (upd H q (.ins D.c_Hold dq (fHold { (a.hold h) with on_ := false }))) (upd H1 l (.lst [.int ((((List.range (L.rs.map V.ref).length).filter fun i => (a.route i).holds.contains h).map fun i => (L.rs.map V.ref).getD i .non).length : Int)])) := s1.trans (same_new hl2)
          have hn2 : H l = none := hn l (Same.free s1 hl2)
          refine k _ L l ?_ (Moved.hold hq fun c o e hc => s2 _ _ (kp c o e hc)) ?_ (W.out hn2) hn2
          · rw [ed]
            exact W3.same s2
          · rw [ed, upd_same]
            have e : ((((List.range (L.rs.map V.ref).length).filter fun i => (a.route i).holds.contains h).map fun i => (L.rs.map V.ref).getD i .non).length : Int) = ((a.routes.filter fun r => r.holds.contains h).length : Int) := by
              rw [List.length_map, List.length_map, W.nr]
              exact congrArg (fun n : Nat => (n : Int)) (filter_index (fun r : Su55.Route => r.holds.contains h) ⟨[], false⟩ a.routes)
            show some (HO.lst [V.int _]) = some (HO.lst [V.int _])
            rw [e]
            rfl
def sp_Wall (K : PySem.W.Frag) (D : Dat) : Sp := fun vs H Q _ => ∃ (p dx : Addr), vs = [.ref p] ∧ H p = some (.ins D.c_Wall dx []) ∧
  ∀ (H' : Hp) (L : Lay), L.p = p → WallAt D H' L false ⟨0, [], [], []⟩ → (∀ c o, H c = some o → c ≠ p → H' c = some o) → (∀ c, L.Foot c → c = p ∨ H c = none) → Q .non H'
theorem ok_Wall (T : Txt K mg D) : FnOk P w K mg base CX0 1 D.f_Wall D.d_Wall ["self"] (sp_Wall K D) := by
  refine T.fun_Wall.ok sc_Wall (fun vs H Q E h => ?_) (fun cdv A oenv s H vs Q E hr h => ?_)
  · obtain ⟨p, dx, rfl, _⟩ := h
    rfl
  · obtain ⟨p, dx, rfl, hp, k⟩ := h
    refine ⟨_, (pss_cons (ps_fld (pv 0) pe_bl rfl)
  (pss_cons (ps_fld (pv 0) pe_int rfl)
  (pss_cons (ps_fld (pv 0) (pe_lst pa_nil) rfl)
  (pss_cons (ps_fld (pv 0) (pe_lst pa_nil) rfl)
  (pss_one (ps_fld (pv 0) (pe_lst pa_nil) rfl)))))), ?_⟩
    refine ⟨_, rfl, p, _, dx, _, rfl, hp, T.cl_Wall, T.na_Wall_begun, (by show 0 < 1000; decide), ?_⟩
    refine ⟨_, rfl, p, _, dx, _, rfl, upd_same, T.cl_Wall, T.na_Wall_hands_to_fall, (by show 1 < 1000; decide), ?_⟩
    rw [upd_upd]
    refine ⟨Nat.zero_le _, fun x hx => ?_⟩
    have npx : p ≠ x := ne_of_none upd_same hx
    refine ⟨_, rfl, p, _, dx, _, rfl, (by rw [upd_ne npx, upd_same]), T.cl_Wall, T.na_Wall_holds, (by show 2 < 1000; decide), Nat.zero_le _, fun y hy => ?_⟩
    have npy : p ≠ y := ne_of_none upd_same hy
    refine ⟨_, rfl, p, _, dx, _, rfl, (by rw [upd_ne npy, upd_same]), T.cl_Wall, T.na_Wall_routes, (by show 3 < 1000; decide), Nat.zero_le _, fun z hz => ?_⟩
    have npz : p ≠ z := ne_of_none upd_same hz
    refine ⟨_, rfl, p, _, dx, _, rfl, (by rw [upd_ne npz, upd_same]), T.cl_Wall, T.na_Wall_climbers, (by show 4 < 1000; decide), ?_⟩
    have hxn : H x = none := by rwa [upd_ne npx.symm] at hx
    have nxy : x ≠ y := fun e => by
      rw [← e, upd_ne npx.symm, upd_same] at hy
      cases hy
    have hyn : H y = none := by rwa [upd_ne npy.symm, upd_ne nxy.symm, upd_ne npy.symm] at hy
    have nyz : y ≠ z := fun e => by
      rw [← e, upd_ne npy.symm, upd_same] at hz
      cases hz
    have nxz : x ≠ z := fun e => by
      rw [← e, upd_ne npx.symm, upd_ne nxy, upd_ne npx.symm, upd_same] at hz
      cases hz
    have hzn : H z = none := by rwa [upd_ne npz.symm, upd_ne nyz.symm, upd_ne npz.symm, upd_ne nxz.symm, upd_ne npz.symm] at hz
    refine k _ ⟨p, x, y, z, [], [], [], []⟩ rfl ⟨⟨dx, upd_same⟩, ?_, ?_, ?_, rfl, rfl, rfl, rfl, fun j _ _ h => by simp at h, fun j _ _ _ h => by simp at h, fun j _ _ h => by simp at h, .nil, .nil, ?_⟩ (fun c o e hc => ?_) (fun c hc => ?_)
    · rw [upd_ne npx.symm, upd_ne nxz, upd_ne npx.symm, upd_ne nxy, upd_ne npx.symm, upd_same]
      rfl
    · rw [upd_ne npy.symm, upd_ne nyz, upd_ne npy.symm, upd_same]
      rfl
    · rw [upd_ne npz.symm, upd_same]
      rfl
    · simp [nxy, nxz, nyz]
    · rw [upd_ne hc, upd_ne (ne_of_none e hzn), upd_ne hc, upd_ne (ne_of_none e hyn), upd_ne hc, upd_ne (ne_of_none e hxn), upd_ne hc]
      exact e
    · rcases hc with h | h | h | h | h | h | h | h
      · exact .inl h
      · exact .inr (by rw [h]; exact hxn)
      · exact .inr (by rw [h]; exact hyn)
      · exact .inr (by rw [h]; exact hzn)
      all_goals exact nomatch h
end
end Cw
end
section
set_option Elab.async false
set_option linter.all false
set_option maxRecDepth 100000
set_option maxHeartbeats 2000000
namespace Cw
open PySem PySem.Spec PyProof.Rows L2
open Su55 (Abs)
section
variable {P : Program} {w : World} {K : PySem.W.Frag} {mg : Str → Option Value} {base : Heap} {D : Dat}
def sp_begin (K : PySem.W.Frag) (D : Dat) : Sp := fun vs H Q _ => ∃ (L : Lay) (b : Bool) (a : Abs) (n : Nat), vs = [.ref L.p, nV n] ∧ WallAt D H L b a ∧
  ((n = 0 ∨ 100 < n) → ∀ l, H l = none → Q (.ref l) (upd H l (.lst [.int (-22)]))) ∧
  (¬ (n = 0 ∨ 100 < n) → ∀ (H' : Hp) (L' : Lay) (l : Addr), WallAt D H' L' true ⟨n, [], [], []⟩ → Moved H L H' L' → H' l = some (.lst [.int 0]) → ¬ L'.Foot l → H l = none → Q (.ref l) H')
theorem ok_begin (T : Txt K mg D) : FnOk P w K mg base CX0 1 D.f_begin D.d_begin ["wall", "hands_to_fall"] (sp_begin K D) := by
  refine T.fun_begin.ok sc_begin (fun vs H Q E h => ?_) (fun cdv A oenv s H vs Q E hr h => ?_)
  · obtain ⟨L, b, a, n, rfl, _⟩ := h
    rfl
  · obtain ⟨L, b, a, n, rfl, W, k1, k2⟩ := h
    obtain ⟨dx, hw⟩ := W.wall
    refine ⟨_, (pss_cons (ps_if (pt_not (pt_chain op_le op_le pe_int (pv 1) (pe_const rfl T.k_MOST_HANDS_TO_FALL))) (pss_one (ps_ret (pe_lst (pa_cons (pe_const rfl T.k_OUT_OF_RANGE) pa_nil)))) pss_nil)
  (pss_cons (ps_fld (pv 0) pe_bl rfl)
  (pss_cons (ps_fld (pv 0) (pv 1) rfl)
  (pss_cons (ps_fld (pv 0) (pe_lst pa_nil) rfl)
  (pss_cons (ps_fld (pv 0) (pe_lst pa_nil) rfl)
  (pss_cons (ps_fld (pv 0) (pe_lst pa_nil) rfl)
  (pss_one (ps_ret (pe_lst (pa_cons pe_int pa_nil)))))))))), ?_⟩
    refine ⟨_, rfl, _, _, rfl, rfl, _, rfl, ite2 (fun h1 => ⟨_, _, rfl, rfl, _, rfl, ite2 (fun h2 => ⟨(by show 1 ≤ sizeLine; decide), fun l hl => k1 ?_ l hl⟩) (fun h2 => ?_)⟩) (fun h1 => ⟨_, rfl, (by show 1 ≤ sizeLine; decide), fun l hl => k1 ?_ l hl⟩)⟩
    · rw [Bool.not_eq_true', decide_eq_false_iff_not] at h2
      right
      omega
    · rw [Bool.not_eq_true', decide_eq_false_iff_not, Classical.not_not] at h2
      rw [decide_eq_true_eq] at h1
      have hn : ¬ (n = 0 ∨ 100 < n) := by omega
      refine ⟨_, rfl, L.p, _, dx, _, rfl, hw, T.cl_Wall, T.na_Wall_begun, (by show 5 < 1000; decide), ?_⟩
      refine ⟨_, rfl, _, rfl, L.p, _, dx, _, rfl, upd_same, T.cl_Wall, T.na_Wall_hands_to_fall, (by show 5 < 1000; decide), ?_⟩
      rw [upd_upd]
      refine ⟨Nat.zero_le _, fun x hx => ?_⟩
      have npx : L.p ≠ x := ne_of_none upd_same hx
      refine ⟨_, rfl, L.p, _, dx, _, rfl, (by rw [upd_ne npx, upd_same]), T.cl_Wall, T.na_Wall_holds, (by show 5 < 1000; decide), Nat.zero_le _, fun y hy => ?_⟩
      have npy : L.p ≠ y := ne_of_none upd_same hy
      refine ⟨_, rfl, L.p, _, dx, _, rfl, (by rw [upd_ne npy, upd_same]), T.cl_Wall, T.na_Wall_routes, (by show 5 < 1000; decide), Nat.zero_le _, fun z hz => ?_⟩
      have npz : L.p ≠ z := ne_of_none upd_same hz
      refine ⟨_, rfl, L.p, _, dx, _, rfl, (by rw [upd_ne npz, upd_same]), T.cl_Wall, T.na_Wall_climbers, (by show 5 < 1000; decide), (by show 1 ≤ sizeLine; decide), fun l hl => ?_⟩
      have npl : L.p ≠ l := ne_of_none upd_same hl
      have hxn : H x = none := by rwa [upd_ne npx.symm] at hx
      have nxy : x ≠ y := fun e => by
        rw [← e, upd_ne npx.symm, upd_same] at hy
        cases hy
      have hyn : H y = none := by rwa [upd_ne npy.symm, upd_ne nxy.symm, upd_ne npy.symm] at hy
      have nyz : y ≠ z := fun e => by
        rw [← e, upd_ne npy.symm, upd_same] at hz
        cases hz
      have nxz : x ≠ z := fun e => by
        rw [← e, upd_ne npx.symm, upd_ne nxy, upd_ne npx.symm, upd_same] at hz
        cases hz
      have hzn : H z = none := by rwa [upd_ne npz.symm, upd_ne nyz.symm, upd_ne npz.symm, upd_ne nxz.symm, upd_ne npz.symm] at hz
      have nzl : z ≠ l := fun e => by
        rw [← e, upd_ne npz.symm, upd_same] at hl
        cases hl
      have nyl : y ≠ l := fun e => by
        rw [← e, upd_ne npy.symm, upd_ne nyz, upd_ne npy.symm, upd_same] at hl
        cases hl
      have nxl : x ≠ l := fun e => by
        rw [← e, upd_ne npx.symm, upd_ne nxz, upd_ne npx.symm, upd_ne nxy, upd_ne npx.symm, upd_same] at hl
        cases hl
      have hln : H l = none := by rwa [upd_ne npl.symm, upd_ne nzl.symm, upd_ne npl.symm, upd_ne nyl.symm, upd_ne npl.symm, upd_ne nxl.symm, upd_ne npl.symm] at hl
      refine k2 hn _ ⟨L.p, x, y, z, [], [], [], []⟩ l ⟨⟨dx, by rw [upd_ne npl, upd_same]; rfl⟩, ?_, ?_, ?_, rfl, rfl, rfl, rfl, fun j _ _ h => by simp at h, fun j _ _ _ h => by simp at h, fun j _ _ h => by simp at h, .nil, .nil, ?_⟩ ⟨fun c o e hc => ?_, fun c hc => ?_, rfl⟩ upd_same (fun hc => ?_) hln
      · rw [upd_ne nxl, upd_ne npx.symm, upd_ne nxz, upd_ne npx.symm, upd_ne nxy, upd_ne npx.symm, upd_same]
        rfl
      · rw [upd_ne nyl, upd_ne npy.symm, upd_ne nyz, upd_ne npy.symm, upd_same]
        rfl
      · rw [upd_ne nzl, upd_ne npz.symm, upd_same]
        rfl
      · simp [nxy, nxz, nyz]
      · have hcp : c ≠ L.p := fun z => hc (.inl z)
        rw [upd_ne (ne_of_none e hln), upd_ne hcp, upd_ne (ne_of_none e hzn), upd_ne hcp, upd_ne (ne_of_none e hyn), upd_ne hcp, upd_ne (ne_of_none e hxn), upd_ne hcp]
        exact e
      · rcases hc with h | h | h | h | h | h | h | h
        · exact .inl (.inl h)
        · exact .inr (by rw [h]; exact hxn)
        · exact .inr (by rw [h]; exact hyn)
        · exact .inr (by rw [h]; exact hzn)
        all_goals exact nomatch h
      · rcases hc with h | h | h | h | h | h | h | h
        · exact npl h.symm
        · exact nxl h.symm
        · exact nyl h.symm
        · exact nzl h.symm
        all_goals exact nomatch h
    · rw [decide_eq_true_eq] at h1
      left
      omega
theorem ints_inj {l : List Nat} : (l.map fun (n : Nat) => (n : Int)).Nodup ↔ l.Nodup := by
  unfold List.Nodup
  rw [List.pairwise_map]
  constructor
  · exact fun h => h.imp fun {a b} q e => q (by rw [e])
  · exact fun h => h.imp fun {a b} q e => q (by omega)
def sp_are_stops (K : PySem.W.Frag) (D : Dat) : Sp := fun vs H Q _ => ∃ (r : Addr) (l : List Nat), vs = [.ref r] ∧ SqL K H r (l.map nV) ∧ l.length ≤ 100 ∧ ∀ H', Same H H' → Q (.bl (decide (2 ≤ l.length ∧ l.length ≤ 8 ∧ l.Nodup))) H'
theorem ok_are_stops (T : Txt K mg D) : FnOk P w K mg base CX0 1 D.f_are_stops D.d_are_stops ["stops"] (sp_are_stops K D) := by
  refine T.fun_are_stops.ok sc_are_stops (fun vs H Q E h => ?_) (fun cdv A oenv s H vs Q E hr h => ?_)
  · obtain ⟨r, l, rfl, _⟩ := h
    rfl
  · obtain ⟨r, l, rfl, hS, hz, k⟩ := h
    refine ⟨_, (pss_one (ps_ret (pe_and (pe_chain op_le op_le (pe_const rfl T.k_FEWEST_STOPS) (pe_callB cr_len rfl T.n_len bt_len (pa_cons (pv 0) pa_nil)) (pe_const rfl T.k_MOST_STOPS)) (pe_one (pe_cmpR op_eq (pe_callB cr_lenset rfl T.n_len bt_len (pa_cons (pe_callTy (cr_set rfl) rfl T.n_set bt_set (pa_cons (pv 0) pa_nil)) pa_nil)) (pe_callB cr_len rfl T.n_len bt_len (pa_cons (pv 0) pa_nil)) (nomark _)))))), ?_⟩
    refine ⟨_, rfl, r, _, rfl, .inl hS, _, _, rfl, rfl, _, rfl, ite2 (fun h1 => ⟨_, _, rfl, rfl, _, rfl, ite2 (fun h2 => ?_) (fun h2 => ?_)⟩) (fun h1 => ⟨_, rfl, ?_⟩)⟩
    · rw [decide_eq_true_eq, List.length_map] at h1 h2
      refine ⟨_, rfl, r, l.map fun (n : Nat) => (n : Int), rfl, (by rw [← nV_ints]; exact hS), (by rw [List.length_map]; exact hz), fun p S n hp hn hle => ⟨p, S, n, rfl, upd_same, _, rfl, r, _, rfl, .inl ((same_new hp).seq hS), rfl, ?_⟩⟩
      have k' := k _ (same_new (o := .set S n) hp)
      have e : decide (V.int (n : Int) = V.int ((l.map nV).length : Int)) = decide (2 ≤ l.length ∧ l.length ≤ 8 ∧ l.Nodup) := by
        rw [List.length_map] at hn hle ⊢
        by_cases q : l.Nodup
        · have : n = l.length := hn.mpr (ints_inj.mpr q)
          rw [decide_eq_true (by rw [this]), decide_eq_true ⟨by omega, by omega, q⟩]
        · have : ¬ n = l.length := fun z => q (ints_inj.mp (hn.mp z))
          rw [decide_eq_false (fun z => this (by injection z with z; omega)), decide_eq_false (fun z => q z.2.2)]
      rw [e]
      exact k'
    · rw [decide_eq_true_eq, List.length_map] at h2
      have k' := k _ (Same.refl _)
      rw [decide_eq_false (fun z => h2 (by omega))] at k'
      exact k'
    · rw [decide_eq_true_eq, List.length_map] at h1
      have k' := k _ (Same.refl _)
      rw [decide_eq_false (fun z => h1 (by omega))] at k'
      exact k'
theorem one_eq (d : Nat) : decide (nV d = V.int 1) = (d == 1) := by
  rw [Bool.eq_iff_iff, decide_eq_true_eq, beq_iff_eq]
  exact ⟨fun q => by injection q with q; omega, fun q => by rw [q]; rfl⟩
def sp_add_route (K : PySem.W.Frag) (D : Dat) : Sp := fun vs H Q _ => ∃ (L : Lay) (a : Abs) (d : Nat) (r : Addr) (l : List Nat), vs = [.ref L.p, nV d, .ref r] ∧ WallAt D H L true a ∧ Wf a ∧ SqL K H r (l.map nV) ∧ l.length ≤ 100 ∧ Gives D H L a (.route d l) Q
theorem ok_add_route (T : Txt K mg D) : FnOk P w K mg base CX0 3 D.f_add_route D.d_add_route ["wall", "lead", "stops"] (sp_add_route K D) := by
  refine T.fun_add_route.ok sc_add_route (fun vs H Q E h => ?_) (fun cdv A oenv s H vs Q E hr h => ?_)
  · obtain ⟨L, a, d, r, l, rfl, _⟩ := h
    rfl
  · obtain ⟨L, a, d, r, l, rfl, W, wf, hS, hz, k⟩ := h
    obtain ⟨dx, hw⟩ := W.wall
    refine ⟨_, (pss_cons (ps_if (pt_cmpR op_eq (pe_callB cr_len rfl T.n_len bt_len (pa_cons (pe_fld (pv 0) rfl) pa_nil)) (pe_const rfl T.k_MOST_ROUTES) (nomark _)) (pss_one (ps_ret (pe_lst (pa_cons (pe_const rfl T.k_TOO_MANY) pa_nil)))) pss_nil)
  (pss_cons (ps_if (PW.pt (pw_or (pt_cmpR op_gt (pv 1) pe_int (nomark _)) (pw_or1 (pt_not (pt_val (pe_call (ok_are_stops T) (hr.mono (by decide)) rfl T.g_are_stops T.fun_are_stops.kp T.b_are_stops .nil pass0 (pa_cons (pv 2) pa_nil))))))) (pss_one (ps_ret (pe_lst (pa_cons (pe_const rfl T.k_OUT_OF_RANGE) pa_nil)))) pss_nil)
  (pss_cons (ps_if (pt_cmpR op_ge (pe_callB (cr_max rfl) rfl T.n_max bt_max (pa_cons (pv 2) pa_nil)) (pe_callB cr_len rfl T.n_len bt_len (pa_cons (pe_fld (pv 0) rfl) pa_nil)) (nomark _)) (pss_one (ps_ret (pe_lst (pa_cons (pe_const rfl T.k_NO_SUCH) pa_nil)))) pss_nil)
  (pss_cons (ps_expr (pe_bm PySem.F.plainAttrs_list PySem.F.slot_list_append PySem.F.type_list_append mt_append (pe_fld (pv 0) rfl) (pa_cons (pe_make T.mk_Route (ok_Route T) (hr.mono (by decide)) rfl T.g_Route T.b_Route .nil pass0 (pa_cons (pe_cmpR op_eq (pv 1) pe_int (nomark _)) (pa_cons (pe_callTy call_list_of rfl T.n_list bt_list (pa_cons (pv 2) pa_nil)) pa_nil))) pa_nil)))
  (pss_one (ps_ret (pe_lst (pa_cons (pe_op op_sub (pe_callB cr_len rfl T.n_len bt_len (pa_cons (pe_fld (pv 0) rfl) pa_nil)) pe_int) pa_nil)))))))), ?_⟩
    refine ⟨_, rfl, L.p, _, dx, _, _, rfl, hw, T.cl_Wall, T.na_Wall_routes, lk_routes _ _ _ _ _, L.rl, _, rfl, .inl (SqL.of W.rl), rfl, _, rfl, ite2 (fun h1 => ⟨(by show 1 ≤ sizeLine; decide), fun n hl => Gives.no k W ?_ hl⟩) (fun h1 => ?_)⟩
    · rw [int_eq, List.length_map, W.nr] at h1
      unfold Su55.does Su55.ROUTES; dsimp only
      rw [if_pos (by omega)]
    · rw [int_eq, List.length_map, W.nr] at h1
      have n1 : ¬ Su55.ROUTES ≤ a.routes.length := by have := wf.nr; unfold Su55.ROUTES; omega
      refine ⟨_, rfl, _, _, rfl, rfl, _, rfl, ite2 (fun h2 => iteT ⟨(by show 1 ≤ sizeLine; decide), fun n hl => Gives.no k W ?_ hl⟩) (fun h2 => ⟨_, rfl, r, l, rfl, hS, hz, fun H1 s1 => ⟨_, rfl, ite2 (fun h3 => ⟨(by show 1 ≤ sizeLine; decide), fun n hl => Gives.noS k W ?_ s1 hl⟩) (fun h3 => ?_)⟩⟩)⟩
      · rw [decide_eq_true_eq] at h2
        unfold Su55.does; dsimp only
        rw [if_neg n1, if_pos (.inl (by omega))]
      · rw [Bool.not_eq_true', decide_eq_false_iff_not] at h3
        unfold Su55.does; dsimp only
        rw [if_neg n1, if_pos ?_]
        by_cases q1 : l.length < 2
        · exact .inr (.inl q1)
        by_cases q2 : 8 < l.length
        · exact .inr (.inr (.inl q2))
        exact .inr (.inr (.inr fun q3 => h3 ⟨by omega, by omega, q3⟩))
      · rw [decide_eq_true_eq] at h2
        rw [Bool.not_eq_true', decide_eq_false_iff_not, Classical.not_not] at h3
        have n2 : ¬ (1 < d ∨ l.length < 2 ∨ 8 < l.length ∨ ¬ l.Nodup) := fun z => by
          rcases z with z | z | z | z
          · exact h2 (by omega)
          · omega
          · omega
          · exact z h3.2.2
        have W1 := W.same s1
        have hS1 := s1.seq hS
        obtain ⟨dx1, hw1⟩ := W1.wall
        refine ⟨_, rfl, r, l.map fun (n : Nat) => (n : Int), rfl, (by rw [← nV_ints]; exact hS1), (by rw [List.length_map]; omega), fun m hm hmax => ⟨_, rfl, L.p, _, dx1, _, _, rfl, hw1, T.cl_Wall, T.na_Wall_holds, lk_holds _ _ _ _ _, L.hl, _, rfl, .inl (SqL.of W1.hl), _, _, rfl, rfl, _, rfl,
          ite2 (fun h4 => ⟨(by show 1 ≤ sizeLine; decide), fun n hl => Gives.noS k W ?_ s1 hl⟩) (fun h4 => ?_)⟩⟩
        · rw [decide_eq_true_eq, List.length_map, W.nh] at h4
          unfold Su55.does; dsimp only
          rw [if_neg n1, if_neg n2, if_pos ?_]
          obtain ⟨x, hx, rfl⟩ := List.mem_map.mp hm
          refine List.any_eq_true.mpr ⟨x, hx, ?_⟩
          rw [isH_iff.mpr (by omega)]
          rfl
        · rw [decide_eq_true_eq, List.length_map, W.nh] at h4
          have n3 : ¬ (l.any fun h => !(a.isH h)) = true := fun z => by
            obtain ⟨x, hx, q⟩ := List.any_eq_true.mp z
            rw [Bool.not_eq_true', isH_iff] at q
            have := hmax (x : Int) (List.mem_map.mpr ⟨x, hx, rfl⟩)
            omega
          refine ⟨_, rfl, L.p, _, dx1, _, _, rfl, hw1, T.cl_Wall, T.na_Wall_routes, lk_routes _ _ _ _ _, .inl ⟨rfl, _, SqL.of W1.rl⟩, _, rfl, rfl, _, rfl, r, _, rfl, .inl hS1, fun ls hls q dq hq hdq hne => ⟨q, dq, ls, _, rfl, upd_same, rfl, ?_⟩⟩
          have nql : q ≠ ls := fun z => by
            rw [z, upd_same] at hq
            cases hq
          have ndl : dq ≠ ls := fun z => by
            rw [z, upd_same] at hdq
            cases hdq
          have hq1 : H1 q = none := by rwa [upd_ne nql] at hq
          have hdq1 : H1 dq = none := by rwa [upd_ne ndl] at hdq
          have s2 : Same H1 (upd (upd (upd (upd H1 ls (.lst (l.map nV))) dq (.own q)) q (.ins D.c_Route dq [])) q (.ins D.c_Route dq [("must_lead", .bl (decide (nV d = V.int 1))), ("stops", .ref ls)])) := fun c u e => by
            rw [upd_ne (ne_of_none e hq1), upd_ne (ne_of_none e hq1), upd_ne (ne_of_none e hdq1), upd_ne (ne_of_none e hls)]
            exact e
          refine ⟨L.rl, _, _, rfl, rfl, s2 _ _ W1.rl, small1000 (by rw [List.length_map, W.nr]; have := wf.nr; omega), ?_⟩
          have nrq : q ≠ L.rl := (ne_of_none W1.rl hq1).symm
          have nrl : ls ≠ L.rl := (ne_of_none W1.rl hls).symm
          have W3 := W1.addRoute (H' := upd (upd (upd (upd (upd H1 ls (.lst (l.map nV))) dq (.own q)) q (.ins D.c_Route dq [])) q (.ins D.c_Route dq [("must_lead", .bl (decide (nV d = V.int 1))), ("stops", .ref ls)])) L.rl (.lst (L.rs.map V.ref ++ [V.ref q]))) (x := q) (l := ls) (r := ⟨l, d == 1⟩) hls upd_same
            ⟨⟨dq, by rw [upd_ne nrq, upd_same, one_eq]; rfl⟩, by rw [upd_ne nrl, upd_ne nql.symm, upd_ne nql.symm, upd_ne ndl.symm, upd_same]⟩ (fun c u e hc => by rw [upd_ne hc]; exact s2 _ _ e)
          obtain ⟨dx3, hw3⟩ := W3.wall
          refine ⟨_, rfl, L.p, _, dx3, _, _, rfl, hw3, T.cl_Wall, T.na_Wall_routes, lk_routes _ _ _ _ _, L.rl, _, rfl, .inl (SqL.of W3.rl), _, _, rfl, rfl, (by show 1 ≤ sizeLine; decide), fun n hl => ?_⟩
          have ed : Su55.does a (.route d l) = ({ a with routes := a.routes ++ [⟨l, d == 1⟩] }, Su55.num a.routes.length []) := by
            unfold Su55.does; dsimp only
            rw [if_neg n1, if_neg n2, if_neg n3]
          have hn1 : H1 n = none := by
            cases e : H1 n with
            | none => rfl
            | some u =>
              by_cases z : n = L.rl
              · rw [z, upd_same] at hl
                cases hl
              · rw [upd_ne z] at hl
                exact nomatch hl.symm.trans (s2 _ _ e)
          have hn : H n = none := Same.free s1 hn1
          refine k _ { L with rs := L.rs ++ [q], ss := L.ss ++ [ls] } n ?_ ⟨fun c u e hc => ?_, fun c hc => ?_, rfl⟩ ?_ (W3.out hl) hn
          · rw [ed]
            exact W3.same (same_new hl)
          · have e1 := s1 _ _ e
            rw [upd_ne (ne_of_none e1 hn1), upd_ne (fun z => hc (.inr (.inr (.inl z))))]
            exact s2 _ _ e1
          · rcases hc with h | h | h | h | h | h | h | h
            · exact .inl (.inl h)
            · exact .inl (.inr (.inl h))
            · exact .inl (.inr (.inr (.inl h)))
            · exact .inl (.inr (.inr (.inr (.inl h))))
            · exact .inl (.inr (.inr (.inr (.inr (.inl h)))))
            · rcases List.mem_append.mp h with h | h
              · exact .inl (.inr (.inr (.inr (.inr (.inr (.inl h))))))
              · have : c = q := by simpa using h
                rw [this]
                exact .inr (Same.free s1 hq1)
            · rcases List.mem_append.mp h with h | h
              · exact .inl (.inr (.inr (.inr (.inr (.inr (.inr (.inl h)))))))
              · have : c = ls := by simpa using h
                rw [this]
                exact .inr (Same.free s1 hls)
            · exact .inl (.inr (.inr (.inr (.inr (.inr (.inr (.inr h)))))))
          · rw [ed, upd_same]
            have : ((((L.rs ++ [q]).map V.ref).length : Int) - 1) = (a.routes.length : Int) := by
              rw [List.length_map, List.length_append, W.nr, List.length_singleton]
              omega
            show some (HO.lst [V.int ((((L.rs ++ [q]).map V.ref).length : Int) - 1)]) = _
            rw [this]
            rfl
def sp_add_climber (K : PySem.W.Frag) (D : Dat) : Sp := fun vs H Q _ => ∃ (L : Lay) (a : Abs) (r s d : Nat), vs = [.ref L.p, nV r, nV s, nV d] ∧ WallAt D H L true a ∧ Wf a ∧ Gives D H L a (.climber r s d) Q
theorem ok_add_climber (T : Txt K mg D) : FnOk P w K mg base CX0 3 D.f_add_climber D.d_add_climber ["wall", "reach", "strength", "lead"] (sp_add_climber K D) := by
  refine T.fun_add_climber.ok sc_add_climber (fun vs H Q E h => ?_) (fun cdv A oenv s H vs Q E hr h => ?_)
  · obtain ⟨L, a, r, st, d, rfl, _⟩ := h
    rfl
  · obtain ⟨L, a, r, st, d, rfl, W, wf, k⟩ := h
    obtain ⟨dx, hw⟩ := W.wall
    refine ⟨_, (pss_cons (ps_if (pt_cmpR op_eq (pe_callB cr_len rfl T.n_len bt_len (pa_cons (pe_fld (pv 0) rfl) pa_nil)) (pe_const rfl T.k_MOST_CLIMBERS) (nomark _)) (pss_one (ps_ret (pe_lst (pa_cons (pe_const rfl T.k_TOO_MANY) pa_nil)))) pss_nil)
  (pss_cons (ps_if (PW.pt (pw_or (pt_not (pt_chain op_le op_le pe_int (pv 1) (pe_const rfl T.k_MOST_REACH))) (pw_or (pt_not (pt_val (pe_call (ok_is_strength T) (hr.mono (by decide)) rfl T.g_is_strength T.fun_is_strength.kp T.b_is_strength .nil pass0 (pa_cons (pv 2) pa_nil)))) (pw_or1 (pt_cmpR op_gt (pv 3) pe_int (nomark _)))))) (pss_one (ps_ret (pe_lst (pa_cons (pe_const rfl T.k_OUT_OF_RANGE) pa_nil)))) pss_nil)
  (pss_cons (ps_expr (pe_bm PySem.F.plainAttrs_list PySem.F.slot_list_append PySem.F.type_list_append mt_append (pe_fld (pv 0) rfl) (pa_cons (pe_make T.mk_Climber (ok_Climber T) (hr.mono (by decide)) rfl T.g_Climber T.b_Climber .nil pass0 (pa_cons (pv 1) (pa_cons (pv 2) (pa_cons (pe_cmpR op_eq (pv 3) pe_int (nomark _)) pa_nil)))) pa_nil)))
  (pss_one (ps_ret (pe_lst (pa_cons (pe_op op_sub (pe_callB cr_len rfl T.n_len bt_len (pa_cons (pe_fld (pv 0) rfl) pa_nil)) pe_int) pa_nil))))))), ?_⟩
    refine ⟨_, rfl, L.p, _, dx, _, _, rfl, hw, T.cl_Wall, T.na_Wall_climbers, lk_climbers _ _ _ _ _, L.cl, _, rfl, .inl (SqL.of W.cl), rfl, _, rfl, ite2 (fun h1 => ⟨(by show 1 ≤ sizeLine; decide), fun l hl => Gives.no k W ?_ hl⟩) (fun h1 => ?_)⟩
    · rw [int_eq, List.length_map, W.nc] at h1
      unfold Su55.does Su55.CLIMBERS; dsimp only
      rw [if_pos (by omega)]
    · rw [int_eq, List.length_map, W.nc] at h1
      have n1 : ¬ Su55.CLIMBERS ≤ a.climbers.length := by have := wf.nc; unfold Su55.CLIMBERS; omega
      have no : (r = 0 ∨ Su55.FAR < r ∨ st = 0 ∨ 9 < st ∨ 1 < d) → ∀ l, H l = none → Q (.ref l) (upd H l (.lst [.int (-22)])) := fun q l hl => Gives.no k W (by
        unfold Su55.does; dsimp only
        rw [if_neg n1, if_pos q]) hl
      have yes : ¬ (r = 0 ∨ Su55.FAR < r ∨ st = 0 ∨ 9 < st ∨ 1 < d) → Su55.does a (.climber r st d) = ({ a with climbers := a.climbers ++ [⟨r, st, d == 1, 0, 0⟩] }, Su55.num a.climbers.length []) := fun q => by
        unfold Su55.does; dsimp only
        rw [if_neg n1, if_neg q]
      refine ⟨_, rfl, _, _, rfl, rfl, _, rfl, ite2 (fun h2 => ⟨_, _, rfl, rfl, _, rfl, ite2 (fun h3 => iteT ⟨(by show 1 ≤ sizeLine; decide), no (.inr (.inl ?_))⟩) (fun h3 => ⟨_, rfl, _, rfl, _, rfl, ite2 (fun h4 => iteT ⟨(by show 1 ≤ sizeLine; decide), no (.inr (.inr ?_))⟩) (fun h4 => ⟨_, rfl, _, _, rfl, rfl, _, rfl, ite2 (fun h5 => ⟨(by show 1 ≤ sizeLine; decide), no (.inr (.inr (.inr (.inr ?_))))⟩) (fun h5 => ?_)⟩)⟩)⟩) (fun h2 => ⟨_, rfl, (by show 1 ≤ sizeLine; decide), no (.inl ?_)⟩)⟩
      · rw [Bool.not_eq_true', decide_eq_false_iff_not] at h3
        unfold Su55.FAR
        omega
      · rw [grip9, Bool.not_not, decide_eq_true_eq] at h4
        rcases h4 with h4 | h4
        · exact .inl h4
        · exact .inr (.inl h4)
      · rw [decide_eq_true_eq] at h5
        omega
      · rw [decide_eq_true_eq] at h2 h5
        rw [Bool.not_eq_true', decide_eq_false_iff_not, Classical.not_not] at h3
        rw [grip9, Bool.not_not, decide_eq_true_eq] at h4
        have ed := yes (by unfold Su55.FAR; omega)
        refine ⟨_, rfl, L.p, _, dx, _, _, rfl, hw, T.cl_Wall, T.na_Wall_climbers, lk_climbers _ _ _ _ _, .inl ⟨rfl, _, SqL.of W.cl⟩, _, rfl, _, rfl, _, rfl, rfl, fun q dq hq hdq hne => ⟨q, dq, _, _, _, rfl, upd_same, rfl, ?_⟩⟩
        have s2 : Same H (upd (upd (upd H dq (.own q)) q (.ins D.c_Climber dq [])) q (.ins D.c_Climber dq [("reach", nV r), ("strength", nV st), ("may_lead", .bl (decide (nV d = V.int 1))), ("climbs", .int 0), ("moves", .int 0)])) := fun c u e => by
          rw [upd_ne (ne_of_none e hq), upd_ne (ne_of_none e hq), upd_ne (ne_of_none e hdq)]
          exact e
        refine ⟨L.cl, _, _, rfl, rfl, s2 _ _ W.cl, small1000 (by rw [List.length_map, W.nc]; have := wf.nc; omega), ?_⟩
        have W3 := W.addClimber (H' := upd (upd (upd (upd H dq (.own q)) q (.ins D.c_Climber dq [])) q (.ins D.c_Climber dq [("reach", nV r), ("strength", nV st), ("may_lead", .bl (decide (nV d = V.int 1))), ("climbs", .int 0), ("moves", .int 0)])) L.cl (.lst (L.cs.map V.ref ++ [V.ref q]))) (x := q) (c := ⟨r, st, d == 1, 0, 0⟩) hq upd_same
          ⟨dq, by rw [upd_ne (Ne.symm (ne_of_none W.cl hq)), upd_same, one_eq]; rfl⟩ (fun c u e hc => by rw [upd_ne hc]; exact s2 _ _ e)
        obtain ⟨dx3, hw3⟩ := W3.wall
        refine ⟨_, rfl, L.p, _, dx3, _, _, rfl, hw3, T.cl_Wall, T.na_Wall_climbers, lk_climbers _ _ _ _ _, L.cl, _, rfl, .inl (SqL.of W3.cl), _, _, rfl, rfl, (by show 1 ≤ sizeLine; decide), fun l hl => ?_⟩
        have hn : H l = none := by
          cases e : H l with
          | none => rfl
          | some u =>
            by_cases z : l = L.cl
            · rw [z, upd_same] at hl
              cases hl
            · rw [upd_ne z] at hl
              exact nomatch hl.symm.trans (s2 _ _ e)
        refine k _ { L with cs := L.cs ++ [q] } l ?_ ⟨fun c u e hc => ?_, fun c hc => ?_, rfl⟩ ?_ (W3.out hl) hn
        · rw [ed]
          exact W3.same (same_new hl)
        · rw [upd_ne (ne_of_none e hn), upd_ne (fun z => hc (.inr (.inr (.inr (.inl z)))))]
          exact s2 _ _ e
        · rcases hc with h | h | h | h | h | h | h | h
          · exact .inl (.inl h)
          · exact .inl (.inr (.inl h))
          · exact .inl (.inr (.inr (.inl h)))
          · exact .inl (.inr (.inr (.inr (.inl h))))
          · exact .inl (.inr (.inr (.inr (.inr (.inl h)))))
          · exact .inl (.inr (.inr (.inr (.inr (.inr (.inl h))))))
          · exact .inl (.inr (.inr (.inr (.inr (.inr (.inr (.inl h)))))))
          · rcases List.mem_append.mp h with h | h
            · exact .inl (.inr (.inr (.inr (.inr (.inr (.inr (.inr h)))))))
            · have : c = q := by simpa using h
              rw [this]
              exact .inr hq
        · rw [ed, upd_same]
          have : ((((L.cs ++ [q]).map V.ref).length : Int) - 1) = (a.climbers.length : Int) := by
            rw [List.length_map, List.length_append, W.nc, List.length_singleton]
            omega
          show some (HO.lst [V.int ((((L.cs ++ [q]).map V.ref).length : Int) - 1)]) = _
          rw [this]
          rfl
      · rw [decide_eq_true_eq] at h2
        omega
end
end Cw
end
section
set_option Elab.async false
set_option linter.all false
set_option maxRecDepth 100000
set_option maxHeartbeats 2000000
namespace Cw
open PySem PySem.Spec PyProof.Rows L2
open Su55 (Abs)
section
variable {P : Program} {w : World} {K : PySem.W.Frag} {mg : Str → Option Value} {base : Heap} {D : Dat}
def heldH (s : Nat) (h : Su55.Hold) : Bool := h.on_ && decide (10 ≤ h.grip + s)
def fitsH (reach : Nat) (l r : Su55.Hold) : Bool := decide (Su55.gap l.x r.x * Su55.gap l.x r.x + Su55.gap l.y r.y * Su55.gap l.y r.y ≤ reach * reach) && decide (l.x ≤ r.x)
def sp_can_hold (K : PySem.W.Frag) (D : Dat) : Sp := fun vs H Q _ => ∃ (c h dc dh : Addr) (z : Su55.Climber) (y : Su55.Hold), vs = [.ref c, .ref h] ∧ H c = some (.ins D.c_Climber dc (fClimber z)) ∧ H h = some (.ins D.c_Hold dh (fHold y)) ∧ Q (.bl (heldH z.strength y)) H
theorem ok_can_hold (T : Txt K mg D) : FnOk P w K mg base CX0 1 D.f_can_hold D.d_can_hold ["climber", "hold"] (sp_can_hold K D) := by
  refine T.fun_can_hold.ok sc_can_hold (fun vs H Q E h => ?_) (fun cdv A oenv s H vs Q E hr h => ?_)
  · obtain ⟨c, h, dc, dh, z, y, rfl, _⟩ := h
    rfl
  · obtain ⟨c, h, dc, dh, z, y, rfl, hc, hh, k⟩ := h
    refine ⟨_, (pss_one (ps_ret (pe_and (pe_fld (pv 1) rfl) (pe_one (pe_cmpR op_ge (pe_op op_add (pe_fld (pv 1) rfl) (pe_fld (pv 0) rfl)) (pe_const rfl T.k_ENOUGH_TO_HOLD) (nomark _)))))), ?_⟩
    refine ⟨_, rfl, h, _, dh, _, _, rfl, hh, T.cl_Hold, T.na_Hold_on, lk_on _, _, rfl, ite2 (fun h1 => ⟨_, rfl, h, _, dh, _, _, rfl, hh, T.cl_Hold, T.na_Hold_grip, lk_grip _, _, rfl, c, _, dc, _, _, rfl, hc, T.cl_Climber, T.na_Climber_strength, lk_strength _, _, _, rfl, rfl, _, _, rfl, rfl, ?_⟩) (fun h1 => ?_)⟩
    · unfold heldH at k
      rw [h1, Bool.true_and] at k
      have e : decide ((10 : Int) ≤ (y.grip : Int) + (z.strength : Int)) = decide (10 ≤ y.grip + z.strength) := decide_eq_decide.mpr (by omega)
      rw [← e] at k
      exact k
    · unfold heldH at k
      rw [Bool.eq_false_iff.mpr h1, Bool.false_and] at k
      exact k
theorem gap_sq (x y : Nat) : ((Su55.gap x y * Su55.gap x y : Nat) : Int) = ((x : Int) - y) * ((x : Int) - y) := by
  unfold Su55.gap
  rcases Nat.le_total y x with h | h
  · have e : (x - y) + (y - x) = x - y := by omega
    rw [e, Int.natCast_mul, Int.ofNat_sub h]
  · have e : (x - y) + (y - x) = y - x := by omega
    rw [e, Int.natCast_mul, Int.ofNat_sub h]
    have : (x : Int) - y = -((y : Int) - x) := by omega
    rw [this, Int.neg_mul_neg]
def farH (l r : Su55.Hold) : Nat := Su55.gap l.x r.x * Su55.gap l.x r.x + Su55.gap l.y r.y * Su55.gap l.y r.y
def sp_apart_squared (K : PySem.W.Frag) (D : Dat) : Sp := fun vs H Q _ => ∃ (l r dl dr : Addr) (y y2 : Su55.Hold), vs = [.ref l, .ref r] ∧ H l = some (.ins D.c_Hold dl (fHold y)) ∧ H r = some (.ins D.c_Hold dr (fHold y2)) ∧
  y.x ≤ 50 ∧ y.y ≤ 50 ∧ y2.x ≤ 50 ∧ y2.y ≤ 50 ∧ Q (nV (farH y y2)) H
theorem ok_apart_squared (T : Txt K mg D) : FnOk P w K mg base CX0 1 D.f_apart_squared D.d_apart_squared ["hold", "other"] (sp_apart_squared K D) := by
  refine T.fun_apart_squared.ok sc_apart_squared (fun vs H Q E h => ?_) (fun cdv A oenv s H vs Q E hr h => ?_)
  · obtain ⟨l, r, dl, dr, y, y2, rfl, _⟩ := h
    rfl
  · obtain ⟨l, r, dl, dr, y, y2, rfl, hl, hh, b2, b3, b4, b5, k⟩ := h
    refine ⟨_, (pss_cons (ps_set (i := 2) sc_apart_squared.nd rfl loc_ (pe_op op_sub (pe_fld (pv 0) rfl) (pe_fld (pv 1) rfl)))
  (pss_cons (ps_set (i := 3) sc_apart_squared.nd rfl loc_ (pe_op op_sub (pe_fld (pv 0) rfl) (pe_fld (pv 1) rfl)))
  (pss_one (ps_ret (pe_op op_add (pe_op op_mul (pv 2) (pv 2)) (pe_op op_mul (pv 3) (pv 3))))))), ?_⟩
    refine ⟨_, rfl, l, _, dl, _, _, rfl, hl, T.cl_Hold, T.na_Hold_x, lk_x _, _, rfl, r, _, dr, _, _, rfl, hh, T.cl_Hold, T.na_Hold_x, lk_x _, _, _, rfl, rfl, ?_⟩
    refine ⟨_, rfl, l, _, dl, _, _, rfl, hl, T.cl_Hold, T.na_Hold_y, lk_y _, _, rfl, r, _, dr, _, _, rfl, hh, T.cl_Hold, T.na_Hold_y, lk_y _, _, _, rfl, rfl, ?_⟩
    refine ⟨_, rfl, _, rfl, _, _, rfl, rfl, .inl ⟨by omega, by omega⟩, _, rfl, _, rfl, _, _, rfl, rfl, .inl ⟨by omega, by omega⟩, _, _, rfl, rfl, ?_⟩
    have e : ((y.x : Int) - y2.x) * ((y.x : Int) - y2.x) + ((y.y : Int) - y2.y) * ((y.y : Int) - y2.y) = ((farH y y2 : Nat) : Int) := by
      unfold farH
      rw [Int.natCast_add, gap_sq, gap_sq]
    unfold nV at k
    rw [← e] at k
    exact k
def sp_is_within_reach (K : PySem.W.Frag) (D : Dat) : Sp := fun vs H Q _ => ∃ (c l r dc dl dr : Addr) (z : Su55.Climber) (y y2 : Su55.Hold), vs = [.ref c, .ref l, .ref r] ∧ H c = some (.ins D.c_Climber dc (fClimber z)) ∧ H l = some (.ins D.c_Hold dl (fHold y)) ∧ H r = some (.ins D.c_Hold dr (fHold y2)) ∧
  z.reach ≤ 71 ∧ y.x ≤ 50 ∧ y.y ≤ 50 ∧ y2.x ≤ 50 ∧ y2.y ≤ 50 ∧ Q (.bl (decide (farH y y2 ≤ z.reach * z.reach))) H
theorem ok_is_within_reach (T : Txt K mg D) : FnOk P w K mg base CX0 2 D.f_is_within_reach D.d_is_within_reach ["climber", "hold", "other"] (sp_is_within_reach K D) := by
  refine T.fun_is_within_reach.ok sc_is_within_reach (fun vs H Q E h => ?_) (fun cdv A oenv s H vs Q E hr h => ?_)
  · obtain ⟨c, l, r, dc, dl, dr, z, y, y2, rfl, _⟩ := h
    rfl
  · obtain ⟨c, l, r, dc, dl, dr, z, y, y2, rfl, hc, hl, hh, b1, b2, b3, b4, b5, k⟩ := h
    refine ⟨_, (pss_one (ps_ret (pe_cmpR op_le (pe_call (ok_apart_squared T) (hr.mono (by decide)) rfl T.g_apart_squared T.fun_apart_squared.kp T.b_apart_squared .nil pass0 (pa_cons (pv 1) (pa_cons (pv 2) pa_nil))) (pe_op op_mul (pe_fld (pv 0) rfl) (pe_fld (pv 0) rfl)) (nomark _)))), ?_⟩
    refine ⟨_, rfl, _, rfl, l, r, dl, dr, y, y2, rfl, hl, hh, b2, b3, b4, b5, _, rfl, c, _, dc, _, _, rfl, hc, T.cl_Climber, T.na_Climber_reach, lk_reach _, _, rfl, c, _, dc, _, _, rfl, hc, T.cl_Climber, T.na_Climber_reach, lk_reach _, _, _, rfl, rfl, .inl ⟨by omega, by omega⟩, _, _, rfl, rfl, ?_⟩
    have e : decide (((farH y y2 : Nat) : Int) ≤ (z.reach : Int) * (z.reach : Int)) = decide (farH y y2 ≤ z.reach * z.reach) := by
      rw [← Int.natCast_mul]
      exact decide_eq_decide.mpr Int.ofNat_le
    rw [← e] at k
    exact k
def sp_can_be_on (K : PySem.W.Frag) (D : Dat) : Sp := fun vs H Q _ => ∃ (c l r dc dl dr : Addr) (z : Su55.Climber) (y y2 : Su55.Hold), vs = [.ref c, .ref l, .ref r] ∧ H c = some (.ins D.c_Climber dc (fClimber z)) ∧ H l = some (.ins D.c_Hold dl (fHold y)) ∧ H r = some (.ins D.c_Hold dr (fHold y2)) ∧
  z.reach ≤ 71 ∧ y.x ≤ 50 ∧ y.y ≤ 50 ∧ y2.x ≤ 50 ∧ y2.y ≤ 50 ∧ Q (.bl (fitsH z.reach y y2)) H
theorem ok_can_be_on (T : Txt K mg D) : FnOk P w K mg base CX0 3 D.f_can_be_on D.d_can_be_on ["climber", "left", "right"] (sp_can_be_on K D) := by
  refine T.fun_can_be_on.ok sc_can_be_on (fun vs H Q E h => ?_) (fun cdv A oenv s H vs Q E hr h => ?_)
  · obtain ⟨c, l, r, dc, dl, dr, z, y, y2, rfl, _⟩ := h
    rfl
  · obtain ⟨c, l, r, dc, dl, dr, z, y, y2, rfl, hc, hl, hh, b1, b2, b3, b4, b5, k⟩ := h
    refine ⟨_, (pss_one (ps_ret (pe_and (pe_cmpR op_le (pe_fld (pv 1) rfl) (pe_fld (pv 2) rfl) (nomark _)) (pe_one (pe_call (ok_is_within_reach T) (hr.mono (by decide)) rfl T.g_is_within_reach T.fun_is_within_reach.kp T.b_is_within_reach .nil pass0 (pa_cons (pv 0) (pa_cons (pv 1) (pa_cons (pv 2) pa_nil)))))))), ?_⟩
    refine ⟨_, rfl, l, _, dl, _, _, rfl, hl, T.cl_Hold, T.na_Hold_x, lk_x _, _, rfl, r, _, dr, _, _, rfl, hh, T.cl_Hold, T.na_Hold_x, lk_x _, _, _, rfl, rfl, _, rfl, ite2 (fun h1 => ⟨_, rfl, _, rfl, _, rfl, c, l, r, dc, dl, dr, z, y, y2, rfl, hc, hl, hh, b1, b2, b3, b4, b5, ?_⟩) (fun h1 => ?_)⟩
    · rw [decide_eq_true_eq] at h1
      unfold fitsH at k
      rw [decide_eq_true (show y.x ≤ y2.x by omega), Bool.and_true] at k
      exact k
    · rw [decide_eq_true_eq] at h1
      unfold fitsH at k
      rw [decide_eq_false (show ¬ y.x ≤ y2.x by omega), Bool.and_false] at k
      exact k
def sp_hands_after (K : PySem.W.Frag) (D : Dat) : Sp := fun vs H Q _ => ∃ (t u : Addr) (x : Su55.Hands) (m : Su55.Move), vs = [.ref t, .ref u] ∧ H t = some (.tup [nV x.1, nV x.2]) ∧ H u = some (.tup [nV m.1, nV m.2]) ∧
  ∀ p, H p = none → Q (.ref p) (upd H p (.tup [nV (Su55.moved x m.1 m.2).1, nV (Su55.moved x m.1 m.2).2]))
theorem ok_hands_after (T : Txt K mg D) : FnOk P w K mg base CX0 1 D.f_hands_after D.d_hands_after ["hands", "move"] (sp_hands_after K D) := by
  refine T.fun_hands_after.ok sc_hands_after (fun vs H Q E h => ?_) (fun cdv A oenv s H vs Q E hr h => ?_)
  · obtain ⟨t, u, x, m, rfl, _⟩ := h
    rfl
  · obtain ⟨t, u, x, m, rfl, ht, hu, k⟩ := h
    refine ⟨_, (pss_cons (ps_if (pt_cmpR op_eq (pe_ix ix_tup (pv 1) pe_int (fun _ _ => rfl)) (pe_const rfl T.k_LEFT) (nomark _)) (pss_one (ps_ret (pe_tup (pa_cons (pe_ix ix_tup (pv 1) pe_int (fun _ _ => rfl)) (pa_cons (pe_ix ix_tup (pv 0) (pe_const rfl T.k_RIGHT) (fun _ _ => rfl)) pa_nil))))) pss_nil)
  (pss_one (ps_ret (pe_tup (pa_cons (pe_ix ix_tup (pv 0) (pe_const rfl T.k_LEFT) (fun _ _ => rfl)) (pa_cons (pe_ix ix_tup (pv 1) pe_int (fun _ _ => rfl)) pa_nil)))))), ?_⟩
    refine ⟨_, rfl, u, _, _, _, rfl, rfl, SqT.of hu, (at_of (j := 0) rfl rfl), rfl, _, rfl, ite2 (fun h1 => ?_) (fun h1 => ?_)⟩
    · refine ⟨_, rfl, u, _, _, _, rfl, rfl, SqT.of hu, (at_of (j := 1) rfl rfl), _, rfl, t, _, _, _, rfl, rfl, SqT.of ht, (at_of (j := 1) rfl rfl), (by show 2 ≤ sizeLine; decide), fun p hp => ?_⟩
      have k' := k p hp
      unfold Su55.moved at k'
      rw [if_pos (by have := of_decide_eq_true h1; injection this with this; omega)] at k'
      exact k'
    · refine ⟨_, rfl, t, _, _, _, rfl, rfl, SqT.of ht, (at_of (j := 0) rfl rfl), _, rfl, u, _, _, _, rfl, rfl, SqT.of hu, (at_of (j := 1) rfl rfl), (by show 2 ≤ sizeLine; decide), fun p hp => ?_⟩
      have k' := k p hp
      unfold Su55.moved at k'
      rw [if_neg (fun z => h1 (decide_eq_true (by rw [z]; rfl)))] at k'
      exact k'
def MvAt (H : Hp) (t : Addr) (m : Su55.Move) : Prop := H t = some (.tup [nV m.1, nV m.2])
def MovesAt (H : Hp) (v : Addr) (ms : List Su55.Move) : Prop := ∃ ts : List Addr, H v = some (.lst (ts.map V.ref)) ∧ Paired (MvAt H) ts ms
def keyOf (x : Su55.Hands) : List Key := [Sum.inl (x.1 : Int), Sum.inl (x.2 : Int)]
theorem keyOf_inj {x y : Su55.Hands} (e : keyOf x = keyOf y) : x = y := by
  unfold keyOf at e
  injection e with e1 e2
  injection e2 with e2 _
  injection e1 with e1
  injection e2 with e2
  exact Prod.ext (by omega) (by omega)
def WaysAt (H : Hp) (d f : Addr) (S : List Su55.Step) : Prop := ∃ kvs, H d = some (.dT kvs) ∧ Paired (fun (kv : List Key × V) (y : Su55.Step) => kv.1 = keyOf y.1 ∧ ∃ v, kv.2 = .ref v ∧ v ≠ f ∧ MovesAt H v y.2.reverse) kvs S
def RimAt (H : Hp) (l : Addr) (w : List Su55.Step) : Prop := ∃ ts : List Addr, H l = some (.lst (ts.map V.ref)) ∧ Paired (fun t (y : Su55.Step) => H t = some (.tup [nV y.1.1, nV y.1.2])) ts w
theorem Paired.at_ {α β : Type} {F : α → β → Prop} : ∀ {l : List α} {m : List β}, Paired F l m → ∀ {i : Nat} {b : β}, m[i]? = some b → ∃ a, l[i]? = some a ∧ F a b
  | _, _, .nil, i, b, h => by simp at h
  | _, _, .cons r t, 0, b, h => by
    have e : _ = b := Option.some.inj h
    subst e
    exact ⟨_, rfl, r⟩
  | _, _, .cons r t, i + 1, b, h => Paired.at_ t (i := i) h
theorem Paired.atL {α β : Type} {F : α → β → Prop} : ∀ {l : List α} {m : List β}, Paired F l m → ∀ {i : Nat} {a : α}, l[i]? = some a → ∃ b, m[i]? = some b ∧ F a b
  | _, _, .nil, i, b, h => by simp at h
  | _, _, .cons r t, 0, b, h => by
    have e : _ = b := Option.some.inj h
    subst e
    exact ⟨_, rfl, r⟩
  | _, _, .cons r t, i + 1, b, h => Paired.atL t (i := i) h
theorem MovesAt.keep {H H' : Hp} {v : Addr} {ms : List Su55.Move} (M : MovesAt H v ms) (hl : ∀ xs, H v = some (.lst xs) → H' v = some (.lst xs)) (ht : ∀ t xs, H t = some (.tup xs) → H' t = some (.tup xs)) : MovesAt H' v ms := by
  obtain ⟨ts, h1, h2⟩ := M
  exact ⟨ts, hl _ h1, Paired.mapP h2 fun t m e => ht _ _ e⟩
theorem valV_ways {kvs : List (List Key × V)} {S : List Su55.Step} {F : V → Su55.Step → Prop} (r : Paired (fun (kv : List Key × V) (y : Su55.Step) => kv.1 = keyOf y.1 ∧ F kv.2 y) kvs S) (k : Su55.Hands) :
    (valV kvs (keyOf k)).isSome = (S.any fun z => z.1 == k) := by
  induction r with
  | nil => rfl
  | @cons p y ps ys h t ih =>
    rw [List.any_cons]
    by_cases e : p.1 = keyOf k
    · have : y.1 = k := keyOf_inj (h.1.symm.trans e)
      rw [valV_pos e, this]
      simp
    · have : ¬ y.1 = k := fun z => e (h.1.trans (by rw [z]))
      rw [valV_neg e, ih]
      simp [this]
theorem valV_at {kvs : List (List Key × V)} {S : List Su55.Step} {F : V → Su55.Step → Prop} (r : Paired (fun (kv : List Key × V) (y : Su55.Step) => kv.1 = keyOf y.1 ∧ F kv.2 y) kvs S) (hn : (S.map (·.1)).Nodup) {y : Su55.Step} (hy : y ∈ S) :
    ∃ v, valV kvs (keyOf y.1) = some v ∧ F v y := by
  induction r with
  | nil => cases hy
  | @cons p z ps zs h t ih =>
    rw [List.map_cons, List.nodup_cons] at hn
    by_cases e : p.1 = keyOf y.1
    · rw [valV_pos e]
      have ez : z.1 = y.1 := keyOf_inj (h.1.symm.trans e)
      rcases List.mem_cons.mp hy with e2 | e2
      · rw [e2]
        exact ⟨_, rfl, h.2⟩
      · exact absurd (List.mem_map.mpr ⟨y, e2, ez.symm⟩) hn.1
    · rw [valV_neg e]
      rcases List.mem_cons.mp hy with e2 | e2
      · exact absurd (by rw [e2]; exact h.1) e
      · exact ih hn.2 e2
end
end Cw
end
section
set_option Elab.async false
set_option linter.all false
set_option maxRecDepth 100000
set_option maxHeartbeats 2000000
namespace Cw
open PySem PySem.Spec PyProof.Rows L2
open Su55 (Abs)
section
variable {P : Program} {w : World} {K : PySem.W.Frag} {mg : Str → Option Value} {base : Heap} {D : Dat}
theorem take_snoc {α : Type} {l : List α} {i : Nat} {x : α} (h : l[i]? = some x) : l.take (i + 1) = l.take i ++ [x] := by
  rw [List.take_add_one, h]
  rfl
theorem outer_snoc (fit : Su55.Hands → Bool) (M : List Su55.Move) (w S : List Su55.Step) (x : Su55.Step) : outer fit M (w ++ [x]) S = inner fit M x (outer fit M w S) := by
  unfold outer
  rw [List.foldl_append]
  rfl
theorem inner_snoc (fit : Su55.Hands → Bool) (M : List Su55.Move) (m : Su55.Move) (x : Su55.Step) (S : List Su55.Step) : inner fit (M ++ [m]) x S = put1 fit (inner fit M x S) (cand x m) := by
  unfold inner
  rw [List.foldl_append]
  rfl
def spreadPre (K : PySem.W.Frag) (D : Dat) (H : Hp) (L : Lay) (b : Bool) (a : Abs) (c dc ml d rl : Addr) (z : Su55.Climber) (M : List Su55.Move) (LL : List Nat) (S w : List Su55.Step) : Prop :=
  WallAt D H L b a ∧ Wf a ∧ H c = some (.ins D.c_Climber dc (fClimber z)) ∧ z.reach ≤ 71 ∧ MovesAt H ml M ∧ M.length ≤ 100 ∧ (∀ m ∈ M, m.2 ∈ LL) ∧ (∀ h ∈ LL, h < a.holds.length) ∧ LL.length ≤ 8 ∧
  WaysAt H d d S ∧ RimAt H rl w ∧ Good (a.fits z.reach) LL S ∧ (∀ x ∈ w, x ∈ S)
def sp_spread (K : PySem.W.Frag) (D : Dat) : Sp := fun vs H Q _ => ∃ (L : Lay) (b : Bool) (a : Abs) (c dc ml d rl : Addr) (z : Su55.Climber) (M : List Su55.Move) (LL : List Nat) (S w : List Su55.Step),
  vs = [.ref L.hl, .ref c, .ref ml, .ref d, .ref rl] ∧ spreadPre K D H L b a c dc ml d rl z M LL S w ∧
  ∀ (H' : Hp) (f : Addr), WaysAt H' d d (outer (a.fits z.reach) M w S) → RimAt H' f ((outer (a.fits z.reach) M w S).drop S.length) → (∀ c o, H c = some o → c ≠ d → H' c = some o) → Q (.ref f) H'
structure Spr (H0 H : Hp) (d f : Addr) (S0 S : List Su55.Step) : Prop where
  keep : ∀ c o, H0 c = some o → c ≠ d → H c = some o
  ways : WaysAt H d f S
  rim : RimAt H f (S.drop S0.length)
  ext : S0.length ≤ S.length
theorem WaysAt.any {H : Hp} {d f : Addr} {S : List Su55.Step} (W : WaysAt H d f S) (g : Addr) (hg : ∀ xs, H g ≠ some (.lst xs)) : WaysAt H d g S := by
  obtain ⟨kvs, h1, h2⟩ := W
  exact ⟨kvs, h1, Paired.mapP h2 fun p y ⟨e, v, e2, _, M⟩ => ⟨e, v, e2, fun q => by
    obtain ⟨ts, h3, _⟩ := M
    exact hg _ (by rw [← q]; exact h3), M⟩⟩
theorem Spr.start {H : Hp} {d f : Addr} {S : List Su55.Step} (W : WaysAt H d d S) (hf : H f = none) : Spr H (upd H f (.lst [])) d f S S := by
  have s : Same H (upd H f (.lst [])) := same_new hf
  refine ⟨fun c o e _ => s _ _ e, ?_, ⟨[], upd_same, by rw [List.drop_length]; exact .nil⟩, Nat.le_refl _⟩
  obtain ⟨kvs, h1, h2⟩ := W
  refine ⟨kvs, s _ _ h1, Paired.mapP h2 fun p y ⟨e, v, e2, _, M⟩ => ⟨e, v, e2, fun q => ?_, M.keep (fun xs h => s _ _ h) (fun t xs h => s _ _ h)⟩⟩
  obtain ⟨ts, h3, _⟩ := M
  rw [q, hf] at h3
  cases h3
theorem Spr.skip {H0 H H' : Hp} {d f : Addr} {S0 S : List Su55.Step} (I : Spr H0 H d f S0 S) (s : Same H H') : Spr H0 H' d f S0 S := by
  obtain ⟨kvs, h1, h2⟩ := I.ways
  obtain ⟨ts, h3, h4⟩ := I.rim
  exact ⟨fun c o e hc => s _ _ (I.keep c o e hc), ⟨kvs, s _ _ h1, Paired.mapP h2 fun p y ⟨e, v, e2, e3, M⟩ => ⟨e, v, e2, e3, M.keep (fun xs h => s _ _ h) (fun t xs h => s _ _ h)⟩⟩, ⟨ts, s _ _ h3, Paired.mapP h4 fun t y e => s _ _ e⟩, I.ext⟩
theorem Spr.add {H0 H H' : Hp} {d f p r : Addr} {S0 S : List Su55.Step} {y : Su55.Step} {kvs : List (List Key × V)} {ts : List Addr} (I : Spr H0 H d f S0 S) (hd0 : ∃ k0, H0 d = some (.dT k0)) (hf0 : H0 f = none) (hk : H d = some (.dT kvs)) (hr : H f = some (.lst (ts.map V.ref)))
    (hnew : valV kvs (keyOf y.1) = none) (hd : H' d = some (.dT (putK kvs (keyOf y.1) (.ref r)))) (hf : H' f = some (.lst (ts.map V.ref ++ [V.ref p]))) (hp : H' p = some (.tup [nV y.1.1, nV y.1.2])) (hm : MovesAt H' r y.2.reverse) (hrf : r ≠ f)
    (kp : ∀ c o, H c = some o → c ≠ d → c ≠ f → H' c = some o) : Spr H0 H' d f S0 (S ++ [y]) := by
  obtain ⟨kvs', h1, h2⟩ := I.ways
  rw [hk] at h1
  cases h1
  obtain ⟨ts', h3, h4⟩ := I.rim
  have ets : ts' = ts := by
    rw [hr] at h3
    have e : ts.map V.ref = ts'.map V.ref := by injection h3 with h3; injection h3
    have inj : ∀ {a b : List Addr}, a.map V.ref = b.map V.ref → a = b := by
      intro a
      induction a with
      | nil => intro b e; cases b with
        | nil => rfl
        | cons _ _ => cases e
      | cons x a ih => intro b e; cases b with
        | nil => cases e
        | cons y b =>
          rw [List.map_cons, List.map_cons] at e
          injection e with e1 e2
          injection e1 with e1
          rw [e1, ih e2]
    exact (inj e).symm
  subst ets
  have ktup : ∀ t xs, H t = some (.tup xs) → H' t = some (.tup xs) := fun t xs h => kp _ _ h (ne_of h hk (fun z => nomatch z)) (ne_of h hr (fun z => nomatch z))
  refine ⟨fun c o e hc => kp c o (I.keep c o e hc) hc (ne_of_none e hf0), ⟨_, hd, ?_⟩, ⟨ts' ++ [p], by rw [hf, List.map_append]; rfl, ?_⟩, by rw [List.length_append]; have := I.ext; omega⟩
  · rw [putK_new _ hnew]
    refine Paired.snoc (Paired.mapP h2 fun q z ⟨e, v, e2, e3, M⟩ => ⟨e, v, e2, e3, M.keep (fun xs h => kp _ _ h (ne_of h hk (fun z => nomatch z)) e3) ktup⟩) ⟨rfl, r, rfl, hrf, hm⟩
  · rw [List.drop_append_of_le_length I.ext]
    exact Paired.snoc (Paired.mapP h4 fun t z e => ktup _ _ e) hp
theorem WallAt.noDict {H : Hp} {L : Lay} {b : Bool} {a : Abs} (W : WallAt D H L b a) {c : Addr} (h : L.Foot c) {kvs : List (List Key × V)} (e : H c = some (.dT kvs)) : False := by
  rcases h with rfl | rfl | rfl | rfl | h | h | h | h
  · obtain ⟨dx, q⟩ := W.wall
    rw [e] at q
    cases q
  · exact nomatch e.symm.trans W.hl
  · exact nomatch e.symm.trans W.rl
  · exact nomatch e.symm.trans W.cl
  · obtain ⟨j, hj⟩ := List.getElem?_of_mem h
    have hlt : j < a.holds.length := by rw [← W.nh]; exact (List.getElem?_eq_some_iff.mp hj).1
    obtain ⟨dx, q⟩ := W.hold j c _ hj (List.getElem?_eq_getElem hlt)
    exact nomatch e.symm.trans q
  · obtain ⟨j, hj⟩ := List.getElem?_of_mem h
    have hlt : j < a.routes.length := by rw [← W.nr]; exact (List.getElem?_eq_some_iff.mp hj).1
    have hlt2 : j < L.ss.length := by rw [W.ns]; exact hlt
    obtain ⟨⟨dx, q⟩, _⟩ := W.route j c _ _ hj (List.getElem?_eq_getElem hlt2) (List.getElem?_eq_getElem hlt)
    exact nomatch e.symm.trans q
  · obtain ⟨j, hj⟩ := List.getElem?_of_mem h
    have hlt : j < a.routes.length := by rw [← W.ns]; exact (List.getElem?_eq_some_iff.mp hj).1
    have hlt2 : j < L.rs.length := by rw [W.nr]; exact hlt
    obtain ⟨_, q⟩ := W.route j _ c _ (List.getElem?_eq_getElem hlt2) hj (List.getElem?_eq_getElem hlt)
    exact nomatch e.symm.trans q
  · obtain ⟨j, hj⟩ := List.getElem?_of_mem h
    have hlt : j < a.climbers.length := by rw [← W.nc]; exact (List.getElem?_eq_some_iff.mp hj).1
    obtain ⟨dx, q⟩ := W.climber j c _ hj (List.getElem?_eq_getElem hlt)
    exact nomatch e.symm.trans q
theorem fits_hold (a : Abs) (reach : Nat) (x : Su55.Hands) : a.fits reach x = fitsH reach (a.hold x.1) (a.hold x.2) := rfl
theorem wf_hold {a : Abs} (wf : Wf a) {j : Nat} (hj : j < a.holds.length) : (a.hold j).x ≤ 50 ∧ (a.hold j).y ≤ 50 := by
  have e : a.holds[j]? = some (a.hold j) := by
    unfold Abs.hold
    rw [List.getD_eq_getElem?_getD, List.getElem?_eq_getElem hj]
    rfl
  have q := wf.hold _ (List.mem_of_getElem? e)
  exact ⟨q.1, q.2.1⟩
theorem ok_spread (T : Txt K mg D) : FnOk P w K mg base CX0 4 D.f_spread D.d_spread ["holds", "climber", "moves", "ways", "rim"] (sp_spread K D) := by
  refine T.fun_spread.ok sc_spread (fun vs H Q E h => ?_) (fun cdv A oenv s H vs Q E hr h => ?_)
  · obtain ⟨L, b, a, c, dc, ml, d, rl, z, M, LL, S, w', rfl, _⟩ := h
    rfl
  · obtain ⟨L, b, a, c, dc, ml, d, rl, z, M, LL, S, w', rfl, ⟨W, wf, hc, hre, hM, hMl, hML, hLa, hL8, hW, hR, G, hwS⟩, k⟩ := h
    have hu := hu_of hr
    refine ⟨_, (pss_cons (ps_set (i := 5) sc_spread.nd rfl loc_ (pe_lst pa_nil))
  (pss_cons (ps_for PassesOwn.never rfl (pi_list (pv 4)) (pg_name (i := 6) sc_spread.nd rfl loc_)
  (pss_one (ps_for PassesOwn.never rfl (pi_list (pv 2)) (pg_name (i := 7) sc_spread.nd rfl loc_)
  (pss_cons (ps_set (i := 8) sc_spread.nd rfl loc_ (pe_call (ok_hands_after T) (hr.mono (by decide)) rfl T.g_hands_after T.fun_hands_after.kp T.b_hands_after .nil pass0 (pa_cons (pv 6) (pa_cons (pv 7) pa_nil))))
  (pss_one (ps_if (PW.pt (pw_and (pt_cmp (pc_dnotin hu (pv 8) (pv 3))) (pw_and1 (pt_val (pe_call (ok_can_be_on T) (hr.mono (by decide)) rfl T.g_can_be_on T.fun_can_be_on.kp T.b_can_be_on .nil pass0 (pa_cons (pv 1) (pa_cons (pe_ix ix_list (pv 0) (pe_ix ix_tup (pv 8) (pe_const rfl T.k_LEFT) (fun _ _ => rfl)) (fun _ _ => rfl)) (pa_cons (pe_ix ix_list (pv 0) (pe_ix ix_tup (pv 8) (pe_const rfl T.k_RIGHT) (fun _ _ => rfl)) (fun _ _ => rfl)) pa_nil)))))))) (pss_cons (ps_dput hu (pv 3) (pv 8) (pe_op op_cat (pe_dget hu (pv 3) (pv 6) (fun _ _ => rfl)) (pe_lst (pa_cons (pv 7) pa_nil))) rfl)
  (pss_one (ps_expr (pe_bm PySem.F.plainAttrs_list PySem.F.slot_list_append PySem.F.type_list_append mt_append (pv 5) (pa_cons (pv 8) pa_nil))))) pss_nil))))))
  (pss_one (ps_ret (pv 5))))), ?_⟩
    refine ⟨Nat.zero_le _, fun f hf => ?_⟩
    have I0 := Spr.start hW hf
    obtain ⟨ts, hts, hpr⟩ := hR
    obtain ⟨ms, hms, hpm⟩ := hM
    obtain ⟨k0, hd0, _⟩ := id hW
    have dK : ∀ {q : Addr} {o : HO}, H q = some o → (∀ z, o ≠ .dT z) → q ≠ d := fun e n q => by
      rw [q, hd0] at e
      exact n _ (Option.some.inj e).symm
    have hfne : ∀ {q : Addr} {o : HO}, H q = some o → q ≠ f := fun e => ne_of_none e hf
    refine ⟨_, rfl, rl, rfl, ⟨_, SqL.of (I0.keep _ _ hts (dK hts (fun z q => nomatch q)))⟩, for_list (K := K) (a := rl) (xs := ts.map V.ref) (fun i σ H' => ∃ v6 v7 v8 : Option V, σ = [some (.ref L.hl), some (.ref c), some (.ref ml), some (.ref d), some (.ref rl), some (.ref f), v6, v7, v8] ∧
      Spr H H' d f S (outer (a.fits z.reach) M (w'.take i) S)) ⟨none, none, none, rfl, I0⟩ (fun i σ H' _ ⟨_, _, _, _, I⟩ => SqL.of (I.keep _ _ hts (dK hts (fun z q => nomatch q)))) ?_ ?_⟩
    · rintro i v σ H' hi ⟨v6, v7, v8, rfl, I⟩
      obtain ⟨t, ht, rfl⟩ : ∃ t, ts[i]? = some t ∧ v = V.ref t := by
        rw [List.getElem?_map] at hi
        cases e : ts[i]? with
        | none => rw [e] at hi; cases hi
        | some t => rw [e] at hi; exact ⟨t, rfl, (Option.some.inj hi).symm⟩
      obtain ⟨x, hx, htx⟩ := Paired.atL hpr ht
      have hxS : x ∈ S := hwS x (List.mem_of_getElem? hx)
      have Gi := (G.outer hML (w := w'.take i) fun y hy => hwS y (List.mem_of_mem_take hy))
      obtain ⟨Gi, Ti, eTi, _⟩ := Gi
      have hxi : x ∈ outer (a.fits z.reach) M (w'.take i) S := by rw [eTi]; exact List.mem_append_left _ hxS
      refine ⟨_, rfl, ml, rfl, ⟨_, SqL.of (I.keep _ _ hms (dK hms (fun z q => nomatch q)))⟩, for_list (K := K) (a := ml) (xs := ms.map V.ref) (fun j σ H' => ∃ v7 v8 : Option V, σ = [some (.ref L.hl), some (.ref c), some (.ref ml), some (.ref d), some (.ref rl), some (.ref f), some (.ref t), v7, v8] ∧
        Spr H H' d f S (inner (a.fits z.reach) (M.take j) x (outer (a.fits z.reach) M (w'.take i) S))) ⟨v7, v8, rfl, I⟩ (fun j σ H' _ ⟨_, _, _, I⟩ => SqL.of (I.keep _ _ hms (dK hms (fun z q => nomatch q)))) ?_ ?_⟩
      · rintro j v σ H1 hj ⟨v7, v8, rfl, I1⟩
        obtain ⟨u, hu', rfl⟩ : ∃ t, ms[j]? = some t ∧ v = V.ref t := by
          rw [List.getElem?_map] at hj
          cases e : ms[j]? with
          | none => rw [e] at hj; cases hj
          | some t => rw [e] at hj; exact ⟨t, rfl, (Option.some.inj hj).symm⟩
        obtain ⟨m, hm, hum⟩ := Paired.atL hpm hu'
        have hmM : m ∈ M := List.mem_of_getElem? hm
        obtain ⟨G1, T1, eT1, _⟩ := Gi.inner (M := M.take j) hxi (fun y hy => hML y (List.mem_of_mem_take hy))
        have hx1 : x ∈ inner (a.fits z.reach) (M.take j) x (outer (a.fits z.reach) M (w'.take i) S) := by rw [eT1]; exact List.mem_append_left _ hxi
        have ht1 : H1 t = some (.tup [nV x.1.1, nV x.1.2]) := I1.keep _ _ htx (dK htx (fun z q => nomatch q))
        have hu1 : H1 u = some (.tup [nV m.1, nV m.2]) := I1.keep _ _ hum (dK hum (fun z q => nomatch q))
        rw [take_snoc hm]
        simp only [inner_snoc]
        obtain ⟨kvs, hk, hkp⟩ := I1.ways
        refine ⟨_, rfl, _, rfl, t, u, x.1, m, rfl, ht1, hu1, fun p hp => ?_⟩
        have s2 : Same H1 (upd H1 p (.tup [nV (Su55.moved x.1 m.1 m.2).1, nV (Su55.moved x.1 m.1 m.2).2])) := same_new hp
        refine ⟨_, rfl, _, rfl, d, _, rfl, DGet.t (k := keyOf (cand x m).1) (s2 _ _ hk) upd_same, _, rfl, ?_⟩
        have e1 := valV_ways (F := fun v y => ∃ v', v = V.ref v' ∧ v' ≠ f ∧ MovesAt H1 v' y.2.reverse) hkp (cand x m).1
        rw [e1]
        have hy1 : (cand x m).1.1 < a.holds.length ∧ (cand x m).1.2 < a.holds.length := by
          have q1 := Gi.sub x hxi
          have q2 := hML m hmM
          unfold cand Su55.moved
          by_cases q : m.1 = 0
          · rw [if_pos q]
            exact ⟨hLa _ q2, hLa _ q1.2⟩
          · rw [if_neg q]
            exact ⟨hLa _ q1.1, hLa _ q2⟩
        have W1 : WallAt D H1 L b a := W.keep fun q o e hq => I1.keep q o e (dK e fun z0 q0 => W.noDict hq (e.trans (congrArg some q0)))
        have W2 := W1.same s2
        obtain ⟨a1, da1, g1, _, g3⟩ := W2.holdAt hy1.1
        obtain ⟨a2, da2, g4, _, g6⟩ := W2.holdAt hy1.2
        have b1 := wf_hold wf hy1.1
        have b2 := wf_hold wf hy1.2
        have hc2 := s2 _ _ (I1.keep _ _ hc (dK hc (fun z q => nomatch q)))
        have pos_ : ¬ (!((inner (a.fits z.reach) (M.take j) x (outer (a.fits z.reach) M (w'.take i) S)).any fun z => z.1 == (cand x m).1) && a.fits z.reach (cand x m).1) = true → put1 (a.fits z.reach) (inner (a.fits z.reach) (M.take j) x (outer (a.fits z.reach) M (w'.take i) S)) (cand x m) = inner (a.fits z.reach) (M.take j) x (outer (a.fits z.reach) M (w'.take i) S) := fun q => by
          unfold put1
          rw [if_neg q]
        refine ite2 (fun h1 => ?_) (fun h1 => ?_)
        · refine ⟨_, rfl, _, rfl, _, rfl, p, _, _, _, rfl, rfl, SqT.of upd_same, (at_of (j := 0) rfl rfl), L.hl, _, _, _, rfl, rfl, SqL.of W2.hl, atI_nat (ref_at g1), _, rfl, _, rfl, p, _, _, _, rfl, rfl, SqT.of upd_same, (at_of (j := 1) rfl rfl), L.hl, _, _, _, rfl, rfl, SqL.of W2.hl, atI_nat (ref_at g4),
            c, a1, a2, dc, da1, da2, z, _, _, rfl, hc2, g3, g6, hre, b1.1, b1.2, b2.1, b2.2, _, rfl, ite2 (fun h2 => ?_) (fun h2 => ?_)⟩
          · have hv := valV_at (F := fun v y => ∃ v', v = V.ref v' ∧ v' ≠ f ∧ MovesAt H1 v' y.2.reverse) hkp G1.nd hx1
            obtain ⟨v, hv, va, rfl, hvf, ms', hva, hvp⟩ := hv
            have hlen := G1.len x hx1
            have hS64 : (inner (a.fits z.reach) (M.take j) x (outer (a.fits z.reach) M (w'.take i) S)).length ≤ 64 := by
              have q := pairs_le (L := LL) G1.nd (fun k hk => by
                obtain ⟨y, hy, rfl⟩ := List.mem_map.mp hk
                exact G1.sub y hy)
              rw [List.length_map] at q
              have q2 : LL.length * LL.length ≤ 8 * 8 := Nat.mul_le_mul hL8 hL8
              omega
            have hkl : kvs.length = (inner (a.fits z.reach) (M.take j) x (outer (a.fits z.reach) M (w'.take i) S)).length := Paired.length hkp
            have hml : ms'.length = x.2.length := by rw [Paired.length hvp, List.length_reverse]
            obtain ⟨ts1, hts1, hpr1⟩ := I1.rim
            have htl : ts1.length ≤ 64 := by
              have := Paired.length hpr1
              rw [List.length_drop] at this
              omega
            refine ⟨_, rfl, _, rfl, d, _, rfl, (by rw [← hv]; exact DGet.t (s2 _ _ hk) (s2 _ _ ht1)), _, rfl, (by show 1 ≤ sizeLine; decide), fun q hq => ⟨va, q, _, _, rfl, rfl, same_new hq _ _ (s2 _ _ hva), upd_same, Nat.le_of_lt (small1000 (by rw [List.length_map, hml]; show x.2.length + 1 ≤ 1000; omega)), fun r hr' => ?_⟩⟩
            have s3 := same_new (o := .lst [V.ref u]) hq
            have s4 := same_new (o := .lst (ms'.map V.ref ++ [V.ref u])) hr'
            have s24 := (s2.trans s3).trans s4
            refine ⟨_, rfl, _, rfl, d, _, rfl, DPut.t (k := keyOf (cand x m).1) (s24 _ _ hk) (s4 _ _ (s3 _ _ upd_same)) (small1000 (by omega)), ?_⟩
            have hfd : f ≠ d := ne_of hts1 hk (fun z => nomatch z)
            have hpd : p ≠ d := fun q => by rw [q, hk] at hp; cases hp
            have hrd : r ≠ d := fun q => by
              rw [q] at hr'
              exact nomatch hr'.symm.trans (s3 _ _ (s2 _ _ hk))
            have hrf : r ≠ f := fun q => by
              rw [q] at hr'
              exact nomatch hr'.symm.trans (s3 _ _ (s2 _ _ hts1))
            have hpf : p ≠ f := fun q => by rw [q, hts1] at hp; cases hp
            refine ⟨_, rfl, .inl ⟨rfl, _, SqL.of (by rw [upd_ne hfd]; exact s24 _ _ hts1)⟩, _, rfl, f, _, _, rfl, rfl, (by rw [upd_ne hfd]; exact s24 _ _ hts1), small1000 (by rw [List.length_map]; omega), _, _, rfl, ?_⟩
            have epos : put1 (a.fits z.reach) (inner (a.fits z.reach) (M.take j) x (outer (a.fits z.reach) M (w'.take i) S)) (cand x m) = inner (a.fits z.reach) (M.take j) x (outer (a.fits z.reach) M (w'.take i) S) ++ [cand x m] := by
              unfold put1
              rw [if_pos (by rw [h1, Bool.true_and]; exact h2)]
            rw [epos]
            refine I1.add ⟨k0, hd0⟩ hf hk hts1 ?_ (r := r) (p := p) (by rw [upd_ne hfd.symm, upd_same]) upd_same ?_ ?_ hrf (fun c o e hc hc2 => by rw [upd_ne hc2, upd_ne hc]; exact s24 _ _ e)
            · cases ev : valV kvs (keyOf (cand x m).1) with
              | none => rfl
              | some v =>
                rw [ev] at e1
                rw [← e1] at h1
                cases h1
            · rw [upd_ne hpf, upd_ne hpd]
              exact s4 _ _ (s3 _ _ upd_same)
            · have ktup : ∀ t xs, H1 t = some (.tup xs) → (upd (upd (upd (upd (upd H1 p (.tup [nV (Su55.moved x.1 m.1 m.2).1, nV (Su55.moved x.1 m.1 m.2).2])) q (.lst [V.ref u])) r (.lst (ms'.map V.ref ++ [V.ref u]))) d (.dT (putK kvs (keyOf (cand x m).1) (.ref r)))) f (.lst (ts1.map V.ref ++ [V.ref p]))) t = some (.tup xs) := fun t xs e => by
                rw [upd_ne (ne_of e hts1 (fun z => nomatch z)), upd_ne (ne_of e hk (fun z => nomatch z))]
                exact s24 _ _ e
              refine ⟨ms' ++ [u], by rw [upd_ne hrf, upd_ne hrd, upd_same, List.map_append]; rfl, ?_⟩
              show Paired _ (ms' ++ [u]) (m :: x.2).reverse
              rw [List.reverse_cons]
              exact Paired.snoc (Paired.mapP hvp fun t y e => ktup _ _ e) (ktup _ _ hu1)
          · refine ⟨_, _, rfl, ?_⟩
            rw [pos_ (by rw [h1, Bool.true_and]; exact h2)]
            exact I1.skip s2
        · refine ⟨_, _, rfl, ?_⟩
          rw [pos_ (by rw [Bool.eq_false_iff.mpr h1]; simp)]
          exact I1.skip s2
      · rintro σ H1 ⟨v7, v8, rfl, I1⟩
        have e : ms.length = M.length := Paired.length hpm
        rw [List.length_map, e, List.take_length] at I1
        rw [take_snoc hx]
        simp only [outer_snoc]
        exact ⟨_, _, _, rfl, I1⟩
    · rintro σ H' ⟨v6, v7, v8, rfl, I⟩
      have e : ts.length = w'.length := Paired.length hpr
      rw [List.length_map, e, List.take_length] at I
      refine ⟨_, rfl, ?_⟩
      refine k H' f ?_ I.rim I.keep
      obtain ⟨kvs, h1, _⟩ := id I.ways
      exact I.ways.any d fun xs q => by rw [h1] at q; cases q
end
end Cw
end
section
set_option Elab.async false
set_option linter.all false
set_option maxRecDepth 100000
set_option maxHeartbeats 2000000
namespace Cw
open PySem PySem.Spec PyProof.Rows L2
open Su55 (Abs)
section
variable {P : Program} {w : World} {K : PySem.W.Frag} {mg : Str → Option Value} {base : Heap} {D : Dat}
theorem lc_pairs {a : Addr} {U : List Nat} {k : Nat} {j : Nat} {σ : L2.St} {H1 : Hp} {B : Addr} {Qd : Hp → Prop} (hσ : j < σ.length) (hS : H1 a = some (.lst (U.map nV))) (hB : H1 B = none) (hz : U.length ≤ 100)
    (hd : ∀ H, Same H1 H → MovesAt H B (U.map fun h => (k, h)) → Qd H) :
    ∃ W : Nat → Nat → Hp → Prop, (∃ m, W 0 m (upd H1 B (.lst []))) ∧ ∀ i m H, W i m H →
      ((Itl K a).stop i H ∧ Qd H) ∨ ((Itl K a).go i H ∧ ∃ Nx : Hp → Prop, (∀ H', Nx H' → ∃ m', m' < m ∧ W (i + 1) m' H') ∧ ∀ x H', (Itl K a).yld i H x H' → gName j x (wipe σ [j]) H' fun σ2 H2 => wipe σ2 [j] = wipe σ [j] ∧ tYes σ2 H2 fun b H3 =>
        if b = true then tTup (tCons (tC (.int (k : Int))) (tCons (tVar j) tNil)) σ2 H3 fun y H4 => ∃ acc, H4 B = some (.lst acc) ∧ acc.length < sizeLine ∧ Nx (upd H4 B (.lst (acc ++ [y]))) else Nx H3) := by
  refine lc_list (K := K) (a := a) (xs := U.map nV) (fun i H => Same H1 H ∧ i ≤ U.length ∧ ∃ ts : List Addr, H B = some (.lst (ts.map V.ref)) ∧ Paired (MvAt H) ts ((U.take i).map fun h => (k, h))) ⟨same_new hB, Nat.zero_le _, [], upd_same, .nil⟩ (fun i H _ ⟨s, _⟩ => SqL.of (s _ _ hS)) (fun i x H hx ⟨s, hi, ts, h1, h2⟩ => ?_) (fun H ⟨s, _, ts, h1, h2⟩ => ?_)
  · obtain ⟨h, hh, rfl⟩ : ∃ h, U[i]? = some h ∧ x = nV h := by
      rw [List.getElem?_map] at hx
      cases e : U[i]? with
      | none => rw [e] at hx; cases hx
      | some t => rw [e] at hx; exact ⟨t, rfl, (Option.some.inj hx).symm⟩
    have hlt : i < U.length := (List.getElem?_eq_some_iff.mp hh).1
    have hw : wipe σ [j] = σ.set j none := rfl
    have hl : ts.length = i := by
      rw [Paired.length h2, List.length_map, List.length_take]
      omega
    refine ⟨by rw [hw]; show ((σ.set j none).set j (some (nV h))).set j none = σ.set j none; rw [List.set_set, List.set_set], nV h, ?_, (by show 2 ≤ sizeLine; decide), fun p hp => ?_⟩
    · rw [hw, List.getElem?_set_self (by rw [List.length_set]; exact hσ)]
    · have hBp : B ≠ p := ne_of_none h1 hp
      refine ⟨ts.map V.ref, by rw [upd_ne hBp]; exact h1, small1000 (by rw [List.length_map]; omega), ?_⟩
      have kp : ∀ c o, H c = some o → c ≠ B → (upd (upd H p (.tup [V.int (k : Int), nV h])) B (.lst (ts.map V.ref ++ [V.ref p]))) c = some o := fun c o e hc => by
        rw [upd_ne hc, upd_ne (ne_of_none e hp)]
        exact e
      refine ⟨fun c o e => kp c o (s _ _ e) (ne_of_none e hB), hlt, ts ++ [p], by rw [upd_same, List.map_append]; rfl, ?_⟩
      rw [take_snoc hh, List.map_append]
      exact Paired.snoc (Paired.mapP h2 fun t m e => kp _ _ e (ne_of e h1 (fun z => nomatch z))) (by show upd _ B _ p = _; rw [upd_ne hBp.symm, upd_same])
  · rw [List.length_map, List.take_length] at h2
    exact hd H s ⟨ts, h1, h2⟩
theorem sorted_ints {ns' : List Int} {l : List Nat} (hp : ns'.Perm (l.map fun (n : Nat) => (n : Int))) (hs : ns'.Pairwise (· ≤ ·)) : ns'.map V.int = (Su55.sorted l).map nV := by
  have hpos : ∀ x ∈ ns', 0 ≤ x := fun x hx => by
    obtain ⟨n, _, rfl⟩ := List.mem_map.mp (hp.mem_iff.mp hx)
    omega
  have e : ns' = (ns'.map Int.toNat).map fun (n : Nat) => (n : Int) := by
    rw [List.map_map]
    conv => lhs; rw [← List.map_id ns']
    exact List.map_congr_left fun x hx => by
      show x = ((x.toNat : Nat) : Int)
      rw [Int.toNat_of_nonneg (hpos x hx)]
  have p2 : (ns'.map Int.toNat).Perm l := by
    have q := hp.map Int.toNat
    rw [List.map_map] at q
    have q2 : l.map (Int.toNat ∘ fun (n : Nat) => (n : Int)) = l := by
      conv => rhs; rw [← List.map_id l]
      exact List.map_congr_left fun x _ => by show ((x : Int)).toNat = x; omega
    rwa [q2] at q
  have s2 : (ns'.map Int.toNat).Pairwise (· ≤ ·) := by
    rw [List.pairwise_map]
    exact hs.imp fun {a b} h => by omega
  have e2 := sorted_unique p2 s2
  rw [← e2, nV_ints, ← e]
theorem filter_getD {l : List Nat} (p : Nat → Bool) (d : Nat) : ((List.range l.length).filter fun i => p (l.getD i d)).map (fun i => nV (l.getD i d)) = (l.filter p).map nV := by
  have e : l = (List.range l.length).map fun i => l.getD i d := by
    apply List.ext_getElem?
    intro i
    rw [List.getElem?_map]
    by_cases h : i < l.length
    · rw [List.getElem?_range h, List.getElem?_eq_getElem h]
      simp [List.getD_eq_getElem?_getD, List.getElem?_eq_getElem h]
    · rw [List.getElem?_eq_none (by omega), List.getElem?_eq_none (by simpa using h)]
      rfl
  conv => rhs; rw [e]
  rw [List.filter_map, List.map_map]
  rfl
theorem last_at {l : List Nat} (h : l ≠ []) : atI (l.map nV) (-1) = some (nV (l.getLastD 0)) := by
  have e : l = l.dropLast ++ [l.getLastD 0] := by
    cases l with
    | nil => exact absurd rfl h
    | cons x l =>
      have := List.dropLast_concat_getLast (l := x :: l) (by simp)
      rw [List.getLastD_eq_getLast?, List.getLast?_eq_some_getLast (by simp)]
      exact this.symm
  conv => lhs; rw [e]
  rw [List.map_append]
  exact atI_last _ _
theorem head_at {l : List Nat} (h : l ≠ []) : l[0]? = some (l.headD 0) := by
  cases l with
  | nil => exact absurd rfl h
  | cons x l => rfl
structure Stops (a : Abs) (l : List Nat) : Prop where
  two : 2 ≤ l.length
  few : l.length ≤ 8
  nd : l.Nodup
  lt : ∀ h ∈ l, h < a.holds.length
theorem Stops.ne {a : Abs} {l : List Nat} (s : Stops a l) : l ≠ [] := fun e => by
  have := s.two
  rw [e] at this
  simp at this
theorem Stops.ends {a : Abs} {l : List Nat} (s : Stops a l) : l.headD 0 ≠ l.getLastD 0 := by
  obtain ⟨h1, _, h3, _⟩ := s
  match l, h1, h3 with
  | x :: y :: r, _, h3 =>
    intro e
    have hm : (y :: r).getLastD 0 ∈ y :: r := by
      rw [List.getLastD_eq_getLast?, List.getLast?_eq_some_getLast (by simp)]
      exact List.getLast_mem _
    have e2 : (x :: y :: r).getLastD 0 = (y :: r).getLastD 0 := by
      rw [List.getLastD_eq_getLast?, List.getLastD_eq_getLast?]
      rfl
    have e3 : x = (y :: r).getLastD 0 := by rw [← e2]; exact e
    exact (List.nodup_cons.mp h3).1 (e3 ▸ hm)
theorem held_hold (a : Abs) (s h : Nat) : a.held s h = heldH s (a.hold h) := rfl
def sp_first_way (K : PySem.W.Frag) (D : Dat) : Sp := fun vs H Q _ => ∃ (L : Lay) (b : Bool) (a : Abs) (sl c dc : Addr) (z : Su55.Climber) (LL : List Nat), vs = [.ref L.hl, .ref sl, .ref c] ∧ WallAt D H L b a ∧ Wf a ∧ H sl = some (.lst (LL.map nV)) ∧ Stops a LL ∧
  H c = some (.ins D.c_Climber dc (fClimber z)) ∧ z.reach ≤ 71 ∧ ∀ (H' : Hp) (l : Addr), Same H H' → MovesAt H' l ((a.up z.reach z.strength LL).getD []) → Q (.ref l) H'
theorem ok_first_way (T : Txt K mg D) : FnOk P w K mg base CX0 5 D.f_first_way D.d_first_way ["holds", "stops", "climber"] (sp_first_way K D) := by
  refine T.fun_first_way.ok sc_first_way (fun vs H Q E h => ?_) (fun cdv A oenv s H vs Q E hr h => ?_)
  · obtain ⟨L, b, a, sl, c, dc, z, LL, rfl, _⟩ := h
    rfl
  · obtain ⟨L, b, a, sl, c, dc, z, LL, rfl, W, wf, hsl, st, hc, hre, k⟩ := h
    have hu := hu_of hr
    refine ⟨_, (pss_cons (ps_set (i := 3) sc_first_way.nd rfl loc_ (pe_callB cr_sorted rfl T.n_sorted bt_sorted (pa_cons (pe_lc rfl sc_first_way.nd (pi_list (pv 1)) (own := [("h", 4)]) (tt := (tB (tCall (sp_can_hold K D) [] E0 (tCons (tVar 2) (tCons (tOp (rIxL K) (tVar 0) (tVar 4)) tNil))))) (te := (tVar 4)) (blkOk_by rfl) (fun _ _ _ _ _ => pg_name (i := 4) sc_first_way.nd rfl loc_) (fun _ _ _ _ _ => (pts_one (pt_val (pe_call (ok_can_hold T) (hr.mono (by decide)) rfl T.g_can_hold T.fun_can_hold.kp T.b_can_hold .nil pass0 (pa_cons (pv 2) (pa_cons (pe_ix ix_list (pv 0) (pv 4) (fun _ _ => rfl)) pa_nil)))))) (fun _ _ _ _ _ => (pv 4))) pa_nil)))
  (pss_cons (ps_if (pt_cmpR op_notIn_seq (pe_ix ix_list (pv 1) pe_int (fun _ _ => rfl)) (pv 3) rfl) (pss_one (ps_ret (pe_lst pa_nil))) pss_nil)
  (pss_cons (ps_set (i := 5) sc_first_way.nd rfl loc_ (pe_op op_cat (pe_lc rfl sc_first_way.nd (pi_list (pv 3)) (own := [("h", 4)]) (tt := tYes) (te := (tTup (tCons (tC (.int (0))) (tCons (tVar 4) tNil)))) (blkOk_by rfl) (fun _ _ _ _ _ => pg_name (i := 4) sc_first_way.nd rfl loc_) (fun _ _ _ _ _ => pts_nil) (fun _ _ _ _ _ => (pe_tup (pa_cons (pe_const rfl T.k_LEFT) (pa_cons (pv 4) pa_nil))))) (pe_lc rfl sc_first_way.nd (pi_list (pv 3)) (own := [("h", 4)]) (tt := tYes) (te := (tTup (tCons (tC (.int (1))) (tCons (tVar 4) tNil)))) (blkOk_by rfl) (fun _ _ _ _ _ => pg_name (i := 4) sc_first_way.nd rfl loc_) (fun _ _ _ _ _ => pts_nil) (fun _ _ _ _ _ => (pe_tup (pa_cons (pe_const rfl T.k_RIGHT) (pa_cons (pv 4) pa_nil)))))))
  (pss_cons (ps_set (i := 6) sc_first_way.nd rfl loc_ (pe_tup (pa_cons (pe_ix ix_list (pv 1) pe_int (fun _ _ => rfl)) (pa_cons (pe_ix ix_list (pv 1) pe_int (fun _ _ => rfl)) pa_nil))))
  (pss_cons (ps_set (i := 7) sc_first_way.nd rfl loc_ (pe_tup (pa_cons (pe_ix ix_list (pv 1) (pe_un un_neg pe_int) (fun _ _ => rfl)) (pa_cons (pe_ix ix_list (pv 1) (pe_un un_neg pe_int) (fun _ _ => rfl)) pa_nil))))
  (pss_cons (ps_set (i := 8) sc_first_way.nd rfl loc_ (pe_dispT hu (pv 6) (pe_lst pa_nil)))
  (pss_cons (ps_set (i := 9) sc_first_way.nd rfl loc_ (pe_lst (pa_cons (pv 6) pa_nil)))
  (pss_cons (ps_while PassesOwn.never (PW.pt (pw_and (pt_truth (pv 9) (fun _ => rfl)) (pw_and1 (pt_cmp (pc_dnotin hu (pv 7) (pv 8))))))
  (pss_one (ps_set (i := 9) sc_first_way.nd rfl loc_ (pe_call (ok_spread T) (hr.mono (by decide)) rfl T.g_spread T.fun_spread.kp T.b_spread .nil pass0 (pa_cons (pv 0) (pa_cons (pv 2) (pa_cons (pv 5) (pa_cons (pv 8) (pa_cons (pv 9) pa_nil)))))))))
  (pss_one (ps_ret (pe_dget2 hu (pv 8) (pv 7) (pe_lst pa_nil) ⟨rfl, rfl, rfl, rfl⟩))))))))))), ?_⟩
    refine ⟨_, rfl, sl, rfl, ⟨_, SqL.of hsl⟩, fun B hB => ?_⟩
    refine lc_same (fun i => heldH z.strength (a.hold (LL.getD i 0))) (fun i => nV (LL.getD i 0)) (SqL.of hsl) hB (by rw [List.length_map]; have := st.few; omega) (fun i v H1 acc hi s1 hl hz1 N k1 => ?_) (fun H1 s1 hl => ?_)
    · obtain ⟨h, hh, rfl⟩ : ∃ h, LL[i]? = some h ∧ v = nV h := by
        rw [List.getElem?_map] at hi
        cases e : LL[i]? with
        | none => rw [e] at hi; cases hi
        | some t => rw [e] at hi; exact ⟨t, rfl, (Option.some.inj hi).symm⟩
      have eg : LL.getD i 0 = h := by rw [List.getD_eq_getElem?_getD, hh]; rfl
      have hlt := st.lt h (List.mem_of_getElem? hh)
      obtain ⟨q, dq, h1, _, h3⟩ := (W.same s1).holdAt hlt
      have k2 := k1 H1 (Same.refl _)
      rw [eg] at k2
      refine ⟨rfl, _, rfl, _, rfl, _, rfl, L.hl, _, _, _, rfl, rfl, SqL.of (s1 _ _ W.hl), atI_nat (ref_at h1), c, q, dc, dq, z, _, rfl, s1 _ _ hc, h3, _, rfl, ite2 (fun e1 => ⟨_, rfl, acc, hl, hz1, ?_⟩) (fun e1 => ?_)⟩
      · rw [if_pos e1] at k2
        exact k2
      · rw [if_neg e1] at k2
        exact k2
    · rw [List.length_map] at hl
      rw [filter_getD (fun h => heldH z.strength (a.hold h)) 0] at hl
      have hfl : (LL.filter fun h => heldH z.strength (a.hold h)).length ≤ 8 := Nat.le_trans (List.length_filter_le _ _) st.few
      refine ⟨B, (LL.filter fun h => heldH z.strength (a.hold h)).map fun (n : Nat) => (n : Int), rfl, SqL.of (by rw [← nV_ints]; exact hl), (by rw [List.length_map]; omega), fun ns' up hpm hsr hup => ?_⟩
      rw [sorted_ints hpm hsr]
      have eU : Su55.sorted (LL.filter fun h => heldH z.strength (a.hold h)) = (Su55.sorted LL).filter (a.held z.strength) := (sorted_filter (a.held z.strength) LL).symm
      generalize hU : Su55.sorted (LL.filter fun h => heldH z.strength (a.hold h)) = U at eU
      have hU8 : U.length ≤ 8 := by rw [← hU, (sorted_perm _).length_eq]; exact hfl
      have hUm : ∀ h, h ∈ U ↔ h ∈ LL ∧ a.held z.strength h = true := fun h => by
        rw [← hU, (sorted_perm _).mem_iff, List.mem_filter]
        rfl
      have s2 := same_new (o := .lst (U.map nV)) hup
      have s12 := s1.trans s2
      have h0 := head_at st.ne
      have h0m : LL.headD 0 ∈ LL := List.mem_of_getElem? h0
      refine ⟨_, rfl, sl, _, _, _, rfl, rfl, SqL.of (s12 _ _ hsl), at_of (j := 0) rfl (by rw [List.getElem?_map, h0]; rfl), _, rfl, up, _, rfl, .inl (SqL.of upd_same), rfl, flat_nat _, _, rfl, ?_⟩
      have einV : (if true = true then !inV (nV (LL.headD 0)) (U.map nV) else inV (nV (LL.headD 0)) (U.map nV)) = !(U.contains (LL.headD 0)) := by rw [if_pos rfl, inV_nat]
      rw [einV]
      refine ite2 (fun e1 => ⟨Nat.zero_le _, fun l hl0 => ?_⟩) (fun e1 => ?_)
      · have hnh : a.held z.strength (LL.headD 0) = false := by
          cases e : a.held z.strength (LL.headD 0) with
          | false => rfl
          | true =>
            rw [List.contains_iff_mem.mpr ((hUm _).mpr ⟨h0m, e⟩)] at e1
            cases e1
        have k' := k _ l (s12.trans (same_new (o := .lst []) hl0))
        rw [up_ne hnh] at k'
        exact k' ⟨[], upd_same, .nil⟩
      · have hh : a.held z.strength (LL.headD 0) = true := by
          have q : U.contains (LL.headD 0) = true := by
            cases e : U.contains (LL.headD 0) with
            | true => rfl
            | false => rw [e] at e1; exact absurd rfl e1
          exact ((hUm _).mp (List.contains_iff_mem.mp q)).2
        refine ⟨_, rfl, up, rfl, ⟨_, SqL.of upd_same⟩, fun B1 hB1 => ?_⟩
        refine lc_pairs (K := K) (U := U) (k := 0) (j := 4) (by show 4 < 10; decide) upd_same hB1 (by omega) (fun H3 s3 M1 => ?_)
        refine ⟨_, rfl, up, rfl, ⟨_, SqL.of (s3 _ _ upd_same)⟩, fun B2 hB2 => ?_⟩
        refine lc_pairs (K := K) (U := U) (k := 1) (j := 4) (by show 4 < 10; decide) (s3 _ _ upd_same) hB2 (by omega) (fun H4 s4 M2 => ?_)
        obtain ⟨t1, m1, p1⟩ := M1
        obtain ⟨t2, m2, p2⟩ := M2
        have l1 : t1.length ≤ 8 := by rw [Paired.length p1, List.length_map]; exact hU8
        have l2 : t2.length ≤ 8 := by rw [Paired.length p2, List.length_map]; exact hU8
        refine ⟨B1, B2, _, _, rfl, rfl, s4 _ _ m1, m2, Nat.le_of_lt (small1000 (by rw [List.length_map, List.length_map]; omega)), fun ml hml => ?_⟩
        have s5 := same_new (o := .lst (t1.map V.ref ++ t2.map V.ref)) hml
        have sA : Same H (upd H4 ml (.lst (t1.map V.ref ++ t2.map V.ref))) := ((s12.trans s3).trans s4).trans s5
        have MM : MovesAt (upd H4 ml (.lst (t1.map V.ref ++ t2.map V.ref))) ml (mvs U) := by
          refine ⟨t1 ++ t2, by rw [upd_same, List.map_append], ?_⟩
          have app : ∀ {α β : Type} {F : α → β → Prop} {l m : List α} {l' m' : List β}, Paired F l l' → Paired F m m' → Paired F (l ++ m) (l' ++ m') := by
            intro α β F l m l' m' r q
            induction r with
            | nil => exact q
            | cons h t ih => exact .cons h ih
          exact app (Paired.mapP p1 fun t m e => s5 _ _ (s4 _ _ e)) (Paired.mapP p2 fun t m e => s5 _ _ e)
        generalize upd H4 ml (.lst (t1.map V.ref ++ t2.map V.ref)) = H5 at sA MM
        have W5 := W.same sA
        refine ⟨_, rfl, sl, _, _, _, rfl, rfl, SqL.of (sA _ _ hsl), at_of (j := 0) rfl (by rw [List.getElem?_map, h0]; rfl), _, rfl, sl, _, _, _, rfl, rfl, SqL.of (sA _ _ hsl), at_of (j := 0) rfl (by rw [List.getElem?_map, h0]; rfl), (by show 2 ≤ sizeLine; decide), fun sa hsa => ?_⟩
        have s6 := same_new (o := .tup [nV (LL.headD 0), nV (LL.headD 0)]) hsa
        have hsa6 : upd H5 sa (.tup [nV (LL.headD 0), nV (LL.headD 0)]) sa = some (.tup [nV (LL.headD 0), nV (LL.headD 0)]) := upd_same
        generalize upd H5 sa (.tup [nV (LL.headD 0), nV (LL.headD 0)]) = H6 at s6 hsa6
        have sB := sA.trans s6
        refine ⟨_, rfl, _, rfl, sl, _, _, _, rfl, rfl, SqL.of (sB _ _ hsl), last_at st.ne, _, rfl, _, rfl, sl, _, _, _, rfl, rfl, SqL.of (sB _ _ hsl), last_at st.ne, (by show 2 ≤ sizeLine; decide), fun ta hta => ?_⟩
        have s7 := same_new (o := .tup [nV (LL.getLastD 0), nV (LL.getLastD 0)]) hta
        have hta7 : upd H6 ta (.tup [nV (LL.getLastD 0), nV (LL.getLastD 0)]) ta = some (.tup [nV (LL.getLastD 0), nV (LL.getLastD 0)]) := upd_same
        generalize upd H6 ta (.tup [nV (LL.getLastD 0), nV (LL.getLastD 0)]) = H7 at s7 hta7
        have sC := sB.trans s7
        refine fun d hd => ⟨_, rfl, Nat.zero_le _, fun v0 hv0 => ⟨sa, keyOf (Su55.start LL), rfl, ?_, ?_, ?_⟩⟩
        · rw [upd_ne (fun q => by rw [← q, upd_same] at hv0; cases hv0), upd_same]
        · exact same_new hv0 _ _ (same_new hd _ _ (s7 _ _ hsa6))
        · have hdv : d ≠ v0 := fun q => by rw [← q, upd_same] at hv0; cases hv0
          have hv7 : H7 v0 = none := by rwa [upd_ne hdv.symm] at hv0
          have kp8 : ∀ c o, H7 c = some o → (upd (upd (upd H7 d (.dT [])) v0 (.lst [])) d (.dT [(keyOf (Su55.start LL), .ref v0)])) c = some o := fun c o e => by
            rw [upd_ne (ne_of_none e hd), upd_ne (ne_of_none e hv7), upd_ne (ne_of_none e hd)]
            exact e
          have hd8 : (upd (upd (upd H7 d (.dT [])) v0 (.lst [])) d (.dT [(keyOf (Su55.start LL), .ref v0)])) d = some (.dT [(keyOf (Su55.start LL), .ref v0)]) := upd_same
          have hv8 : (upd (upd (upd H7 d (.dT [])) v0 (.lst [])) d (.dT [(keyOf (Su55.start LL), .ref v0)])) v0 = some (.lst []) := by rw [upd_ne hdv.symm, upd_same]
          generalize (upd (upd (upd H7 d (.dT [])) v0 (.lst [])) d (.dT [(keyOf (Su55.start LL), .ref v0)])) = H8 at kp8 hd8 hv8
          refine ⟨_, rfl, (by show 1 ≤ sizeLine; decide), fun r0 hr0 => ?_⟩
          have s9 := same_new (o := .lst [V.ref sa]) hr0
          have hr9 : upd H8 r0 (.lst [V.ref sa]) r0 = some (.lst [V.ref sa]) := upd_same
          generalize upd H8 r0 (.lst [V.ref sa]) = H9 at s9 hr9
          have sD : Same H H9 := fun c o e => s9 _ _ (kp8 _ _ (sC _ _ e))
          have hd9 := s9 _ _ hd8
          have nd : ∀ {q : Addr} {o : HO}, H7 q = some o → q ≠ d := fun e => ne_of_none e hd
          have W9 := W.same sD
          have I0 := srch_start (a := a) (reach := z.reach) (s := z.strength) (L := LL) (by have := st.two; omega) hh st.ends
          refine ⟨fun m σ H' => ∃ (rl : Addr) (S w' : List Su55.Step), σ = [some (.ref L.hl), some (.ref sl), some (.ref c), some (.ref up), none, some (.ref ml), some (.ref sa), some (.ref ta), some (.ref d), some (.ref rl)] ∧ (∀ c o, H9 c = some o → c ≠ d → H' c = some o) ∧ WaysAt H' d d S ∧ RimAt H' rl w' ∧
            Srch a z.reach z.strength (Su55.sorted LL) LL (Su55.top LL) (Su55.start LL) S w' m (a.up z.reach z.strength LL), ⟨_, r0, _, _, rfl, fun c o e _ => e, ⟨_, hd9, .cons ⟨rfl, v0, rfl, hdv.symm, [], s9 _ _ hv8, .nil⟩ .nil⟩, ⟨[sa], hr9, .cons (s9 _ _ (kp8 _ _ (s7 _ _ hsa6))) .nil⟩, I0⟩, ?_⟩
          rintro m σ H' ⟨rl, S, w', rfl, kp, hW, hR, I⟩
          obtain ⟨ts, hts, hpr⟩ := id hR
          obtain ⟨kvs, hk, hkp⟩ := id hW
          have hta' : H' ta = some (.tup [nV (LL.getLastD 0), nV (LL.getLastD 0)]) := kp _ _ (s9 _ _ (kp8 _ _ hta7)) (nd hta7)
          have hw0 : ts.isEmpty = w'.isEmpty := by cases hpr <;> rfl
          have e1 := valV_ways (F := fun v y => ∃ v', v = V.ref v' ∧ v' ≠ d ∧ MovesAt H' v' y.2.reverse) hkp (Su55.top LL)
          have fin : (w' = [] ∨ Su55.top LL ∈ S.map (·.1)) → (tRet (tDGet2 (tVar 8) (tVar 7) (tLst tNil))) { nx := fun _ H'' => Q .non H'', rt := Q } [some (.ref L.hl), some (.ref sl), some (.ref c), some (.ref up), none, some (.ref ml), some (.ref sa), some (.ref ta), some (.ref d), some (.ref rl)] H' := fun hend => by
            refine ⟨_, rfl, d, rfl, .inr ⟨_, .inl hk⟩, _, rfl, Nat.zero_le _, fun e he => ⟨_, DGet.t (k := keyOf (Su55.top LL)) (same_new he _ _ hk) (same_new he _ _ hta'), ?_⟩⟩
            have sE := same_new (o := .lst []) he
            have sF : Same H (upd H' e (.lst [])) := fun c o q => sE _ _ (kp _ _ (sD _ _ q) (nd (sC _ _ q)))
            by_cases hm : Su55.top LL ∈ S.map (·.1)
            · obtain ⟨y, hy, ey⟩ := List.mem_map.mp hm
              obtain ⟨hres, _⟩ := I.some_ hy ey (fun q => st.ends (by injection q))
              obtain ⟨v, hv, v', rfl, _, M⟩ := valV_at (F := fun v y => ∃ v', v = V.ref v' ∧ v' ≠ d ∧ MovesAt H' v' y.2.reverse) hkp I.good.nd hy
              rw [ey] at hv
              rw [hv]
              have k' := k _ v' sF
              rw [hres] at k'
              exact k' (M.keep (fun xs q => sE _ _ q) (fun t xs q => sE _ _ q))
            · rcases hend with h0 | h0
              · subst h0
                obtain ⟨hres, _⟩ := I.none_
                have hv : valV kvs (keyOf (Su55.top LL)) = none := by
                  cases ev : valV kvs (keyOf (Su55.top LL)) with
                  | none => rfl
                  | some v =>
                    rw [ev, any_keys] at e1
                    exact absurd (List.contains_iff_mem.mp e1.symm) hm
                rw [hv]
                have k' := k _ e sF
                rw [hres] at k'
                exact k' ⟨[], upd_same, .nil⟩
              · exact absurd h0 hm
          refine ⟨_, rfl, _, .inl ⟨_, SqL.of hts, rfl⟩, ite2 (fun h1 => ⟨_, rfl, _, rfl, d, _, rfl, DGet.t (k := keyOf (Su55.top LL)) hk hta', _, rfl, ite2 (fun h2 => ?_) (fun h2 => ?_)⟩) (fun h1 => ?_)⟩
          · rw [e1, any_keys, Bool.not_eq_true'] at h2
            have hg : Su55.top LL ∉ S.map (·.1) := fun q => by
              rw [List.contains_iff_mem.mpr q] at h2
              cases h2
            have hw : w' ≠ [] := fun q => by
              subst q
              cases hpr
              exact absurd h1 (by decide)
            obtain ⟨m', T', em, eo, I'⟩ := I.turn (fun h hh => (sorted_perm LL).mem_iff.mp hh) hw hg
            obtain ⟨Pf, eS, _⟩ := I.suf
            rw [← eU] at eo
            refine ⟨fun σ' H'' => ∃ (rl : Addr), σ' = [some (.ref L.hl), some (.ref sl), some (.ref c), some (.ref up), none, some (.ref ml), some (.ref sa), some (.ref ta), some (.ref d), some (.ref rl)] ∧ (∀ c o, H9 c = some o → c ≠ d → H'' c = some o) ∧ WaysAt H'' d d (S ++ T') ∧ RimAt H'' rl T', fun σ' H'' ⟨rl', q1, q2, q3, q4⟩ => ⟨m', by omega, rl', _, _, q1, q2, q3, q4, I'⟩, ?_⟩
            have WH : WallAt D H' L b a := W9.keep fun q o e hq => kp q o e fun z0 => W9.noDict hq ((congrArg H9 z0).trans hd9)
            have ndH : ∀ {q : Addr} {o : HO}, H q = some o → q ≠ d := fun e => nd (sC _ _ e)
            refine ⟨_, rfl, _, rfl, _, rfl, _, rfl, _, rfl, L, b, a, c, dc, ml, d, rl, z, mvs U, LL, S, w', rfl, ⟨WH, wf, kp _ _ (sD _ _ hc) (ndH hc), hre, MM.keep (fun xs q => ?_) (fun t xs q => ?_), ?_, fun m0 hm0 => ?_, st.lt, st.few, hW, hR, I.good, fun x hx => by rw [eS]; exact List.mem_append_right _ hx⟩, fun H'' f g1 g2 g3 => ?_⟩
            · have q7 := s7 _ _ (s6 _ _ q)
              exact kp _ _ (s9 _ _ (kp8 _ _ q7)) (nd q7)
            · have q7 := s7 _ _ (s6 _ _ q)
              exact kp _ _ (s9 _ _ (kp8 _ _ q7)) (nd q7)
            · unfold mvs
              rw [List.length_append, List.length_map, List.length_map]
              omega
            · rcases List.mem_append.mp hm0 with q | q
              all_goals
                obtain ⟨h', q', rfl⟩ := List.mem_map.mp q
                exact ((hUm h').mp q').1
            · rw [eo] at g1 g2
              rw [List.drop_left] at g2
              exact ⟨f, rfl, fun c o e hc => g3 c o (kp c o e hc) hc, g1, g2⟩
          · rw [e1, any_keys] at h2
            refine fin (.inr ?_)
            cases q : (S.map (·.1)).contains (Su55.top LL) with
            | true => exact List.contains_iff_mem.mp q
            | false => rw [q] at h2; exact absurd rfl h2
          · refine fin (.inl ?_)
            cases hpr with
            | nil => rfl
            | cons _ _ => exact absurd rfl h1
end
end Cw
end
section
set_option Elab.async false
set_option linter.all false
set_option maxRecDepth 100000
set_option maxHeartbeats 2000000
namespace Cw
open PySem PySem.Spec PyProof.Rows L2
open Su55 (Abs)
section
variable {P : Program} {w : World} {K : PySem.W.Frag} {mg : Str → Option Value} {base : Heap} {D : Dat}
theorem up_ok {a : Abs} {l : List Nat} (st : Stops a l) (reach s : Nat) : WayOk l (a.up reach s l) := by
  cases hh : a.held s (l.headD 0) with
  | false =>
    rw [up_ne hh]
    intro ms e
    cases e
  | true => exact (srch_start (reach := reach) (by have := st.two; omega) hh st.ends).ok (fun h q => (sorted_perm l).mem_iff.mp q) (fun q => st.ends (by injection q)) _
theorem stops_of {a : Abs} (wf : Wf a) {r : Nat} (hr : r < a.routes.length) : Stops a (a.route r).holds := by
  have e : a.routes[r]? = some (a.route r) := by
    unfold Abs.route
    rw [List.getD_eq_getElem?_getD, List.getElem?_eq_getElem hr]
    rfl
  obtain ⟨h1, h2, h3, h4⟩ := wf.route _ (List.mem_of_getElem? e)
  exact ⟨h1, h2, h3, h4⟩
theorem reach_of {a : Abs} (wf : Wf a) {c : Nat} (hc : c < a.climbers.length) : (a.climber c).reach ≤ 71 := by
  have e : a.climbers[c]? = some (a.climber c) := by
    unfold Abs.climber
    rw [List.getD_eq_getElem?_getD, List.getElem?_eq_getElem hc]
    rfl
  exact wf.climber _ (List.mem_of_getElem? e)
theorem way_ok {a : Abs} (wf : Wf a) {r : Nat} (hr : r < a.routes.length) (c : Nat) : ∀ ms, a.way c r = some ms → ms ≠ [] ∧ ms.length ≤ 64 ∧ ∀ m ∈ ms, m.2 < a.holds.length := fun ms e => by
  have st := stops_of wf hr
  obtain ⟨h1, h2, h3⟩ := up_ok st _ _ ms e
  have := Nat.mul_le_mul st.few st.few
  exact ⟨h1, by omega, fun m hm => st.lt _ (h3 m hm)⟩
def sp_are_there (K : PySem.W.Frag) (D : Dat) : Sp := fun vs H Q _ => ∃ (L : Lay) (b : Bool) (a : Abs) (c r : Nat), vs = [.ref L.p, nV c, nV r] ∧ WallAt D H L b a ∧ Q (.bl (a.isC c && a.isR r)) H
theorem ok_are_there (T : Txt K mg D) : FnOk P w K mg base CX0 1 D.f_are_there D.d_are_there ["wall", "c", "r"] (sp_are_there K D) := by
  refine T.fun_are_there.ok sc_are_there (fun vs H Q E h => ?_) (fun cdv A oenv s H vs Q E hr h => ?_)
  · obtain ⟨L, b, a, c, r, rfl, _⟩ := h
    rfl
  · obtain ⟨L, b, a, c, r, rfl, W, k⟩ := h
    obtain ⟨dx, hw⟩ := W.wall
    refine ⟨_, (pss_one (ps_ret (pe_and (pe_cmpR op_lt (pv 1) (pe_callB cr_len rfl T.n_len bt_len (pa_cons (pe_fld (pv 0) rfl) pa_nil)) (nomark _)) (pe_one (pe_cmpR op_lt (pv 2) (pe_callB cr_len rfl T.n_len bt_len (pa_cons (pe_fld (pv 0) rfl) pa_nil)) (nomark _)))))), ?_⟩
    refine ⟨_, rfl, _, rfl, L.p, _, dx, _, _, rfl, hw, T.cl_Wall, T.na_Wall_climbers, lk_climbers _ _ _ _ _, L.cl, _, rfl, .inl (SqL.of W.cl), _, _, rfl, rfl, _, rfl, ite2 (fun h1 => ⟨_, rfl, _, rfl, L.p, _, dx, _, _, rfl, hw, T.cl_Wall, T.na_Wall_routes, lk_routes _ _ _ _ _, L.rl, _, rfl, .inl (SqL.of W.rl), _, _, rfl, rfl, ?_⟩) (fun h1 => ?_)⟩
    · rw [decide_eq_true_eq, List.length_map, W.nc] at h1
      have e1 : a.isC c = true := by unfold Abs.isC; exact decide_eq_true (by omega)
      rw [e1, Bool.true_and] at k
      have e : decide ((r : Int) < ((L.rs.map V.ref).length : Int)) = a.isR r := by
        unfold Abs.isR
        rw [List.length_map, W.nr]
        exact decide_eq_decide.mpr (by omega)
      rw [← e] at k
      exact k
    · rw [decide_eq_true_eq, List.length_map, W.nc] at h1
      have e1 : a.isC c = false := isC_iff.mpr (by omega)
      rw [e1, Bool.false_and] at k
      exact k
def sp_way_of (K : PySem.W.Frag) (D : Dat) : Sp := fun vs H Q _ => ∃ (L : Lay) (b : Bool) (a : Abs) (c r : Nat), vs = [.ref L.p, nV c, nV r] ∧ WallAt D H L b a ∧ Wf a ∧ c < a.climbers.length ∧ r < a.routes.length ∧
  ∀ (H' : Hp) (l : Addr), Same H H' → MovesAt H' l ((a.way c r).getD []) → Q (.ref l) H'
theorem ok_way_of (T : Txt K mg D) : FnOk P w K mg base CX0 6 D.f_way_of D.d_way_of ["wall", "c", "r"] (sp_way_of K D) := by
  refine T.fun_way_of.ok sc_way_of (fun vs H Q E h => ?_) (fun cdv A oenv s H vs Q E hr h => ?_)
  · obtain ⟨L, b, a, c, r, rfl, _⟩ := h
    rfl
  · obtain ⟨L, b, a, c, r, rfl, W, wf, hc, hr', k⟩ := h
    obtain ⟨dx, hw⟩ := W.wall
    obtain ⟨q, dq, g1, _, g3⟩ := W.climberAt hc
    obtain ⟨rp, dr, ls, g4, g5, _, g7, g8⟩ := W.routeAt hr'
    refine ⟨_, (pss_one (ps_ret (pe_call (ok_first_way T) (hr.mono (by decide)) rfl T.g_first_way T.fun_first_way.kp T.b_first_way .nil pass0 (pa_cons (pe_fld (pv 0) rfl) (pa_cons (pe_fld (pe_ix ix_list (pe_fld (pv 0) rfl) (pv 2) (fun _ _ => rfl)) rfl) (pa_cons (pe_ix ix_list (pe_fld (pv 0) rfl) (pv 1) (fun _ _ => rfl)) pa_nil)))))), ?_⟩
    refine ⟨_, rfl, L.p, _, dx, _, _, rfl, hw, T.cl_Wall, T.na_Wall_holds, lk_holds _ _ _ _ _, _, rfl, L.p, _, dx, _, _, rfl, hw, T.cl_Wall, T.na_Wall_routes, lk_routes _ _ _ _ _, _, rfl, L.rl, _, _, _, rfl, rfl, SqL.of W.rl, atI_nat (ref_at g4), rp, _, dr, _, _, rfl, g7, T.cl_Route, T.na_Route_stops, lk_stops _ _,
      _, rfl, L.p, _, dx, _, _, rfl, hw, T.cl_Wall, T.na_Wall_climbers, lk_climbers _ _ _ _ _, _, rfl, L.cl, _, _, _, rfl, rfl, SqL.of W.cl, atI_nat (ref_at g1), L, b, a, ls, q, dq, a.climber c, (a.route r).holds, rfl, W, wf, g8, stops_of wf hr', g3, reach_of wf hc, k⟩
theorem there_no {a : Abs} {c r : Nat} (h : (!(a.isC c && a.isR r)) = true) : a.isC c = false ∨ a.isR r = false := by
  cases h1 : a.isC c with
  | false => exact .inl rfl
  | true =>
    rw [h1] at h
    cases h2 : a.isR r with
    | false => exact .inr rfl
    | true => rw [h2] at h; cases h
theorem there_yes {a : Abs} {c r : Nat} (h : ¬ (!(a.isC c && a.isR r)) = true) : ¬ (a.isC c = false ∨ a.isR r = false) ∧ c < a.climbers.length ∧ r < a.routes.length := by
  cases h1 : a.isC c with
  | false => rw [h1] at h; exact absurd rfl h
  | true =>
    rw [h1] at h
    cases h2 : a.isR r with
    | false => rw [h2] at h; exact absurd rfl h
    | true =>
      refine ⟨by simp, ?_, ?_⟩
      · unfold Abs.isC at h1; exact of_decide_eq_true h1
      · unfold Abs.isR at h2; exact of_decide_eq_true h2
theorem empty_moves {H : Hp} {l : Addr} {ms : List Su55.Move} (M : MovesAt H l ms) : ∃ ts : List Addr, H l = some (.lst (ts.map V.ref)) ∧ Paired (MvAt H) ts ms ∧ ts.length = ms.length ∧ ((ts.map V.ref).isEmpty = ms.isEmpty) := by
  obtain ⟨ts, h1, h2⟩ := M
  exact ⟨ts, h1, h2, Paired.length h2, by cases h2 <;> rfl⟩
theorem way_cases {a : Abs} (wf : Wf a) {c r : Nat} (hr : r < a.routes.length) : (a.way c r = none ∧ ((a.way c r).getD []).isEmpty = true) ∨ ∃ ms, a.way c r = some ms ∧ ((a.way c r).getD []).isEmpty = false := by
  cases e : a.way c r with
  | none => exact .inl ⟨rfl, rfl⟩
  | some ms =>
    refine .inr ⟨ms, rfl, ?_⟩
    have := (way_ok wf hr c ms e).1
    cases ms with
    | nil => exact absurd rfl this
    | cons _ _ => rfl
def sp_can_climb (K : PySem.W.Frag) (D : Dat) : Sp := fun vs H Q _ => ∃ (L : Lay) (a : Abs) (c r : Nat), vs = [.ref L.p, nV c, nV r] ∧ WallAt D H L true a ∧ Wf a ∧ Gives D H L a (.can c r) Q
theorem ok_can_climb (T : Txt K mg D) : FnOk P w K mg base CX0 7 D.f_can_climb D.d_can_climb ["wall", "c", "r"] (sp_can_climb K D) := by
  refine T.fun_can_climb.ok sc_can_climb (fun vs H Q E h => ?_) (fun cdv A oenv s H vs Q E hr h => ?_)
  · obtain ⟨L, a, c, r, rfl, _⟩ := h
    rfl
  · obtain ⟨L, a, c, r, rfl, W, wf, k⟩ := h
    refine ⟨_, (pss_cons (ps_if (pt_not (pt_val (pe_call (ok_are_there T) (hr.mono (by decide)) rfl T.g_are_there T.fun_are_there.kp T.b_are_there .nil pass0 (pa_cons (pv 0) (pa_cons (pv 1) (pa_cons (pv 2) pa_nil)))))) (pss_one (ps_ret (pe_lst (pa_cons (pe_const rfl T.k_NO_SUCH) pa_nil)))) pss_nil)
  (pss_one (ps_ret (pe_lst (pa_cons (pe_ifExp (pt_truth (pe_call (ok_way_of T) (hr.mono (by decide)) rfl T.g_way_of T.fun_way_of.kp T.b_way_of .nil pass0 (pa_cons (pv 0) (pa_cons (pv 1) (pa_cons (pv 2) pa_nil)))) (fun _ => rfl)) pe_int pe_int) pa_nil))))), ?_⟩
    refine ⟨_, rfl, _, rfl, _, rfl, L, true, a, c, r, rfl, W, _, rfl, ite2 (fun h1 => ⟨(by show 1 ≤ sizeLine; decide), fun l hl => Gives.no k W ?_ hl⟩) (fun h1 => ?_)⟩
    · unfold Su55.does; dsimp only
      rw [if_pos (there_no h1)]
    · obtain ⟨n1, hc, hr'⟩ := there_yes h1
      refine ⟨_, rfl, _, rfl, _, rfl, L, true, a, c, r, rfl, W, wf, hc, hr', fun H1 l s1 M => ?_⟩
      obtain ⟨ts, h2, h3, h4, h5⟩ := empty_moves M
      refine ⟨_, .inl ⟨_, SqL.of h2, rfl⟩, ?_⟩
      rw [h5]
      rcases way_cases wf hr' (c := c) with ⟨e1, e2⟩ | ⟨ms, e1, e2⟩
      · rw [e2]
        refine ⟨(by show 1 ≤ sizeLine; decide), fun n hn => Gives.now (r := Su55.num 0 []) k W ?_ s1 hn⟩
        unfold Su55.does; dsimp only
        rw [if_neg n1]
        unfold Abs.can
        rw [e1]
        rfl
      · rw [e2]
        refine ⟨(by show 1 ≤ sizeLine; decide), fun n hn => Gives.now (r := Su55.num 1 []) k W ?_ s1 hn⟩
        unfold Su55.does; dsimp only
        rw [if_neg n1]
        unfold Abs.can
        rw [e1]
        rfl
def sp_fewest_moves (K : PySem.W.Frag) (D : Dat) : Sp := fun vs H Q _ => ∃ (L : Lay) (a : Abs) (c r : Nat), vs = [.ref L.p, nV c, nV r] ∧ WallAt D H L true a ∧ Wf a ∧ Gives D H L a (.fewest c r) Q
theorem ok_fewest_moves (T : Txt K mg D) : FnOk P w K mg base CX0 7 D.f_fewest_moves D.d_fewest_moves ["wall", "c", "r"] (sp_fewest_moves K D) := by
  refine T.fun_fewest_moves.ok sc_fewest_moves (fun vs H Q E h => ?_) (fun cdv A oenv s H vs Q E hr h => ?_)
  · obtain ⟨L, a, c, r, rfl, _⟩ := h
    rfl
  · obtain ⟨L, a, c, r, rfl, W, wf, k⟩ := h
    refine ⟨_, (pss_cons (ps_if (pt_not (pt_val (pe_call (ok_are_there T) (hr.mono (by decide)) rfl T.g_are_there T.fun_are_there.kp T.b_are_there .nil pass0 (pa_cons (pv 0) (pa_cons (pv 1) (pa_cons (pv 2) pa_nil)))))) (pss_one (ps_ret (pe_lst (pa_cons (pe_const rfl T.k_NO_SUCH) pa_nil)))) pss_nil)
  (pss_cons (ps_set (i := 3) sc_fewest_moves.nd rfl loc_ (pe_call (ok_way_of T) (hr.mono (by decide)) rfl T.g_way_of T.fun_way_of.kp T.b_way_of .nil pass0 (pa_cons (pv 0) (pa_cons (pv 1) (pa_cons (pv 2) pa_nil)))))
  (pss_cons (ps_if (pt_not (pt_truth (pv 3) (fun _ => rfl))) (pss_one (ps_ret (pe_lst (pa_cons (pe_const rfl T.k_NO_WAY) pa_nil)))) pss_nil)
  (pss_one (ps_ret (pe_lst (pa_cons (pe_callB cr_len rfl T.n_len bt_len (pa_cons (pv 3) pa_nil)) pa_nil))))))), ?_⟩
    refine ⟨_, rfl, _, rfl, _, rfl, L, true, a, c, r, rfl, W, _, rfl, ite2 (fun h1 => ⟨(by show 1 ≤ sizeLine; decide), fun l hl => Gives.no k W ?_ hl⟩) (fun h1 => ?_)⟩
    · unfold Su55.does; dsimp only
      rw [if_pos (there_no h1)]
    · obtain ⟨n1, hc, hr'⟩ := there_yes h1
      refine ⟨_, rfl, _, rfl, _, rfl, L, true, a, c, r, rfl, W, wf, hc, hr', fun H1 l s1 M => ?_⟩
      obtain ⟨ts, h2, h3, h4, h5⟩ := empty_moves M
      refine ⟨_, rfl, _, .inl ⟨_, SqL.of h2, rfl⟩, ?_⟩
      rw [h5]
      rcases way_cases wf hr' (c := c) with ⟨e1, e2⟩ | ⟨ms, e1, e2⟩
      · rw [e2]
        refine ⟨(by show 1 ≤ sizeLine; decide), fun n hn => Gives.noS k W ?_ s1 hn⟩
        unfold Su55.does; dsimp only
        rw [if_neg n1, e1]
      · rw [e2]
        refine ⟨_, rfl, l, _, rfl, .inl (SqL.of h2), (by show 1 ≤ sizeLine; decide), fun n hn => ?_⟩
        have e3 : (((ts.map V.ref).length : Nat) : Int) = (ms.length : Int) := by
          rw [List.length_map, h4, e1]
          rfl
        rw [e3]
        refine Gives.now (r := Su55.num ms.length []) k W ?_ s1 hn
        unfold Su55.does; dsimp only
        rw [if_neg n1, e1]
def sp_tell_way (K : PySem.W.Frag) (D : Dat) : Sp := fun vs H Q _ => ∃ (L : Lay) (a : Abs) (c r : Nat), vs = [.ref L.p, nV c, nV r] ∧ WallAt D H L true a ∧ Wf a ∧ Gives D H L a (.way c r) Q
theorem flat_len (ms : List Su55.Move) : (ms.flatMap fun m => [m.1, m.2]).length = 2 * ms.length := by
  induction ms with
  | nil => rfl
  | cons m ms ih =>
    rw [List.flatMap_cons, List.length_append, ih, List.length_cons]
    simp
    omega
theorem ok_tell_way (T : Txt K mg D) : FnOk P w K mg base CX0 7 D.f_tell_way D.d_tell_way ["wall", "c", "r"] (sp_tell_way K D) := by
  refine T.fun_tell_way.ok sc_tell_way (fun vs H Q E h => ?_) (fun cdv A oenv s H vs Q E hr h => ?_)
  · obtain ⟨L, a, c, r, rfl, _⟩ := h
    rfl
  · obtain ⟨L, a, c, r, rfl, W, wf, k⟩ := h
    refine ⟨_, (pss_cons (ps_if (pt_not (pt_val (pe_call (ok_are_there T) (hr.mono (by decide)) rfl T.g_are_there T.fun_are_there.kp T.b_are_there .nil pass0 (pa_cons (pv 0) (pa_cons (pv 1) (pa_cons (pv 2) pa_nil)))))) (pss_one (ps_ret (pe_lst (pa_cons (pe_const rfl T.k_NO_SUCH) pa_nil)))) pss_nil)
  (pss_cons (ps_set (i := 3) sc_tell_way.nd rfl loc_ (pe_call (ok_way_of T) (hr.mono (by decide)) rfl T.g_way_of T.fun_way_of.kp T.b_way_of .nil pass0 (pa_cons (pv 0) (pa_cons (pv 1) (pa_cons (pv 2) pa_nil)))))
  (pss_cons (ps_if (pt_not (pt_truth (pv 3) (fun _ => rfl))) (pss_one (ps_ret (pe_lst (pa_cons (pe_const rfl T.k_NO_WAY) pa_nil)))) pss_nil)
  (pss_cons (ps_set (i := 4) sc_tell_way.nd rfl loc_ (pe_lst (pa_cons (pe_callB cr_len rfl T.n_len bt_len (pa_cons (pv 3) pa_nil)) pa_nil)))
  (pss_cons (ps_for PassesOwn.never rfl (pi_list (pv 3)) (pg_name (i := 5) sc_tell_way.nd rfl loc_)
  (pss_one (ps_expr (pe_bm PySem.F.plainAttrs_list PySem.F.slot_list_extend PySem.F.type_list_extend mt_extendT (pv 4) (pa_cons (pv 5) pa_nil)))))
  (pss_one (ps_ret (pv 4)))))))), ?_⟩
    refine ⟨_, rfl, _, rfl, _, rfl, L, true, a, c, r, rfl, W, _, rfl, ite2 (fun h1 => ⟨(by show 1 ≤ sizeLine; decide), fun l hl => Gives.no k W ?_ hl⟩) (fun h1 => ?_)⟩
    · unfold Su55.does; dsimp only
      rw [if_pos (there_no h1)]
    · obtain ⟨n1, hc, hr'⟩ := there_yes h1
      refine ⟨_, rfl, _, rfl, _, rfl, L, true, a, c, r, rfl, W, wf, hc, hr', fun H1 l s1 M => ?_⟩
      obtain ⟨ts, h2, h3, h4, h5⟩ := empty_moves M
      refine ⟨_, rfl, _, .inl ⟨_, SqL.of h2, rfl⟩, ?_⟩
      rw [h5]
      rcases way_cases wf hr' (c := c) with ⟨e1, e2⟩ | ⟨ms, e1, e2⟩
      · rw [e2]
        refine ⟨(by show 1 ≤ sizeLine; decide), fun n hn => Gives.noS k W ?_ s1 hn⟩
        unfold Su55.does; dsimp only
        rw [if_neg n1, e1]
      · rw [e2]
        have em : (a.way c r).getD [] = ms := by rw [e1]; rfl
        rw [em] at h3 h4
        have hm64 := (way_ok wf hr' c ms e1).2.1
        refine ⟨_, rfl, l, _, rfl, .inl (SqL.of h2), (by show 1 ≤ sizeLine; decide), fun n hn => ?_⟩
        have e3 : (((ts.map V.ref).length : Nat) : Int) = (ms.length : Int) := by
          rw [List.length_map, h4]
        rw [e3]
        have s2 := same_new (o := .lst [V.int (ms.length : Int)]) hn
        refine ⟨_, rfl, l, rfl, ⟨_, SqL.of (s2 _ _ h2)⟩, for_list (K := K) (a := l) (xs := ts.map V.ref) (fun i σ H' => ∃ v5 : Option V, σ = [some (.ref L.p), some (nV c), some (nV r), some (.ref l), some (.ref n), v5] ∧ Same H1 H' ∧ H' n = some (.lst (V.int (ms.length : Int) :: ((ms.take i).flatMap fun m => [m.1, m.2]).map nV)) ∧ i ≤ ms.length)
          ⟨none, rfl, s2, upd_same, Nat.zero_le _⟩ (fun i σ H' _ ⟨_, _, s3, _, _⟩ => SqL.of (s3 _ _ h2)) ?_ ?_⟩
        · rintro i v σ H' hi ⟨v5, rfl, s3, hn3, hi2⟩
          obtain ⟨t, ht, rfl⟩ : ∃ t, ts[i]? = some t ∧ v = V.ref t := by
            rw [List.getElem?_map] at hi
            cases e : ts[i]? with
            | none => rw [e] at hi; cases hi
            | some t => rw [e] at hi; exact ⟨t, rfl, (Option.some.inj hi).symm⟩
          obtain ⟨m, hm, htm⟩ := Paired.atL h3 ht
          have hlt : i < ms.length := (List.getElem?_eq_some_iff.mp hm).1
          refine ⟨_, rfl, .inl ⟨rfl, _, SqL.of hn3⟩, _, rfl, n, t, _, _, rfl, rfl, hn3, SqT.of (s3 _ _ htm), Nat.le_of_lt (small1000 ?_), ?_⟩
          · rw [List.length_cons, List.length_map, flat_len, List.length_take]
            show _ + 1 + 2 ≤ 1000
            omega
          · refine ⟨_, rfl, fun b o e => ?_, ?_, hlt⟩
            · rw [upd_ne (ne_of_none e hn)]
              exact s3 _ _ e
            · rw [upd_same, take_snoc hm, List.flatMap_append, List.map_append]
              rfl
        · rintro σ H' ⟨v5, rfl, s3, hn3, _⟩
          rw [List.length_map, h4, List.take_length] at hn3
          refine ⟨_, rfl, ?_⟩
          have hnH : H n = none := Same.free s1 hn
          have ed : Su55.does a (.way c r) = (a, Su55.num ms.length (ms.flatMap fun m => [m.1, m.2])) := by
            unfold Su55.does; dsimp only
            rw [if_neg n1, e1]
          have sH : Same H H' := s1.trans s3
          refine k H' L n ?_ (Moved.of_same sH) ?_ (W.out hnH) hnH
          · rw [ed]
            exact W.same sH
          · rw [ed]
            exact hn3
end
end Cw
end
section
set_option Elab.async false
set_option linter.all false
set_option maxRecDepth 100000
set_option maxHeartbeats 2000000
namespace Cw
open PySem PySem.Spec PyProof.Rows L2
open Su55 (Abs)
section
variable {P : Program} {w : World} {K : PySem.W.Frag} {mg : Str → Option Value} {base : Heap} {D : Dat}
def sp_wear (K : PySem.W.Frag) (D : Dat) : Sp := fun vs H Q _ => ∃ (h dh : Addr) (y : Su55.Hold) (n : Nat), vs = [.ref h, nV n] ∧ H h = some (.ins D.c_Hold dh (fHold y)) ∧ Q (.bl (fell n y)) (upd H h (.ins D.c_Hold dh (fHold (Su55.worn n y))))
theorem ok_wear (T : Txt K mg D) : FnOk P w K mg base CX0 1 D.f_wear D.d_wear ["hold", "hands_to_fall"] (sp_wear K D) := by
  refine T.fun_wear.ok sc_wear (fun vs H Q E h => ?_) (fun cdv A oenv s H vs Q E hr h => ?_)
  · obtain ⟨h, dh, y, n, rfl, _⟩ := h
    rfl
  · obtain ⟨h, dh, y, n, rfl, hh, k⟩ := h
    refine ⟨_, (pss_cons (ps_fldaug (pv 0) pe_int in_add)
  (pss_cons (ps_if (pt_cmpR op_lt (pe_fld (pv 0) rfl) (pv 1) (nomark _)) (pss_one (ps_ret pe_bl)) pss_nil)
  (pss_cons (ps_fld (pv 0) pe_int rfl)
  (pss_cons (ps_if (pt_cmpR op_eq (pe_fld (pv 0) rfl) pe_int (nomark _)) (pss_one (ps_ret pe_bl)) pss_nil)
  (pss_cons (ps_fldaug (pv 0) pe_int in_sub)
  (pss_one (ps_ret pe_bl))))))), ?_⟩
    refine ⟨_, rfl, h, _, dh, _, _, rfl, hh, T.cl_Hold, T.na_Hold_hands, lk_hands _, _, _, rfl, rfl, dh, _, hh, (by show 5 < 1000; decide), ?_⟩
    have e1 : putF "hands" (V.int ((y.used : Int) + 1)) (fHold y) = fHold { y with used := y.used + 1 } := put_hands y (y.used + 1)
    rw [e1]
    refine ⟨_, rfl, h, _, dh, _, _, rfl, upd_same, T.cl_Hold, T.na_Hold_hands, lk_hands _, _, rfl, _, _, rfl, rfl, _, rfl, ite2 (fun h1 => ?_) (fun h1 => ?_)⟩
    · rw [decide_eq_true_eq] at h1
      have h1' : ¬ n ≤ y.used + 1 := by
        intro q
        have : (((y.used + 1 : Nat)) : Int) < (n : Int) := h1
        omega
      have ef : fell n y = false := by unfold fell; simp [h1']
      have ew : Su55.worn n y = { y with used := y.used + 1 } := by unfold Su55.worn; rw [if_neg h1']
      rw [ef, ew] at k
      exact k
    · rw [decide_eq_true_eq] at h1
      have h1' : n ≤ y.used + 1 := by
        have : ¬ (((y.used + 1 : Nat)) : Int) < (n : Int) := h1
        omega
      refine ⟨_, rfl, h, _, dh, _, rfl, upd_same, T.cl_Hold, T.na_Hold_hands, (by show 5 < 1000; decide), ?_⟩
      have e2 : putF "hands" (V.int 0) (fHold { y with used := y.used + 1 }) = fHold { y with used := 0 } := rfl
      rw [e2, upd_upd]
      refine ⟨_, rfl, h, _, dh, _, _, rfl, upd_same, T.cl_Hold, T.na_Hold_grip, lk_grip _, rfl, _, rfl, ite2 (fun h2 => ?_) (fun h2 => ?_)⟩
      · rw [int_eq] at h2
        have h2' : y.grip = 0 := by
          have : ((y.grip : Nat) : Int) = 0 := h2
          omega
        have ef : fell n y = false := by unfold fell; simp [h2']
        have ew : Su55.worn n y = { y with used := 0 } := by
          unfold Su55.worn
          rw [if_pos h1', h2']
        rw [ef, ew] at k
        exact k
      · rw [int_eq] at h2
        have h2' : 0 < y.grip := by
          have : ¬ ((y.grip : Nat) : Int) = 0 := h2
          omega
        refine ⟨_, rfl, h, _, dh, _, _, rfl, upd_same, T.cl_Hold, T.na_Hold_grip, lk_grip _, _, _, rfl, rfl, dh, _, upd_same, (by show 5 < 1000; decide), ?_⟩
        have e3 : putF "grip" (V.int ((({ y with used := 0 } : Su55.Hold).grip : Int) - 1)) (fHold { y with used := 0 }) = fHold { y with grip := y.grip - 1, used := 0 } := by
          have : (({ y with used := 0 } : Su55.Hold).grip : Int) - 1 = ((y.grip - 1 : Nat) : Int) := by
            show (y.grip : Int) - 1 = _
            omega
          rw [this]
          rfl
        rw [e3, upd_upd]
        have ef : fell n y = true := by unfold fell; simp [h1', h2']
        have ew : Su55.worn n y = { y with grip := y.grip - 1, used := 0 } := by unfold Su55.worn; rw [if_pos h1']
        rw [ef, ew] at k
        exact k
def FellAt (H : Hp) (d : Addr) (F : List Nat) : Prop := H d = some (.dK (F.map fun (h : Nat) => ((Sum.inl (h : Int) : Key), V.bl true)))
theorem valV_fell (F : List Nat) (h : Nat) : (valV (F.map fun (h : Nat) => ((Sum.inl (h : Int) : Key), V.bl true)) (Sum.inl (h : Int))).isSome = decide (h ∈ F) := by
  induction F with
  | nil => rfl
  | cons x F ih =>
    rw [List.map_cons]
    by_cases e : x = h
    · subst e
      rw [valV_pos rfl]
      simp
    · rw [valV_neg (fun q => e (by injection q with q; omega)), ih]
      have : ¬ h = x := fun q => e q.symm
      simp [this]
theorem put_fell (F : List Nat) (h : Nat) : putK (F.map fun (h : Nat) => ((Sum.inl (h : Int) : Key), V.bl true)) (Sum.inl (h : Int)) (V.bl true) = ((if h ∈ F then F else F ++ [h]).map fun (h : Nat) => ((Sum.inl (h : Int) : Key), V.bl true)) := by
  have e := valV_fell F h
  by_cases q : h ∈ F
  · rw [if_pos q]
    unfold putK
    rw [valV_any, e, decide_eq_true q, if_pos rfl, List.map_map]
    refine List.map_congr_left fun x _ => ?_
    show (if (Sum.inl (x : Int) : Key) = Sum.inl (h : Int) then _ else _) = _
    split <;> rfl
  · rw [if_neg q, List.map_append, putK_new]
    · rfl
    · cases ev : valV (F.map fun (h : Nat) => ((Sum.inl (h : Int) : Key), V.bl true)) (Sum.inl (h : Int)) with
      | none => rfl
      | some v =>
        rw [ev, decide_eq_false q] at e
        cases e
theorem wears_snoc (a : Abs) (ms : List Su55.Move) (m : Su55.Move) : a.wears (ms ++ [m]) = { (a.wears ms) with holds := (a.wears ms).holds.modify m.2 (Su55.worn (a.wears ms).wear) } := by
  unfold Abs.wears
  rw [List.foldl_append]
  rfl
def sp_make_moves (K : PySem.W.Frag) (D : Dat) : Sp := fun vs H Q _ => ∃ (L : Lay) (a : Abs) (l : Addr) (ms : List Su55.Move), vs = [.ref L.p, .ref l] ∧ WallAt D H L true a ∧ Wf a ∧ MovesAt H l ms ∧ ¬ L.Foot l ∧ (∀ m ∈ ms, m.2 < a.holds.length) ∧
  ∀ H' : Hp, WallAt D H' L true (a.wears ms) → Moved H L H' L → Q (nV (a.worse (a.wears ms))) H'
theorem WallAt.noTup {H : Hp} {L : Lay} {b : Bool} {a : Abs} (W : WallAt D H L b a) {c : Addr} (h : L.Foot c) {xs : List V} (e : H c = some (.tup xs)) : False := by
  rcases h with rfl | rfl | rfl | rfl | h | h | h | h
  · obtain ⟨dx, q⟩ := W.wall
    rw [e] at q
    cases q
  · exact nomatch e.symm.trans W.hl
  · exact nomatch e.symm.trans W.rl
  · exact nomatch e.symm.trans W.cl
  · obtain ⟨j, hj⟩ := List.getElem?_of_mem h
    have hlt : j < a.holds.length := by rw [← W.nh]; exact (List.getElem?_eq_some_iff.mp hj).1
    obtain ⟨dx, q⟩ := W.hold j c _ hj (List.getElem?_eq_getElem hlt)
    exact nomatch e.symm.trans q
  · obtain ⟨j, hj⟩ := List.getElem?_of_mem h
    have hlt : j < a.routes.length := by rw [← W.nr]; exact (List.getElem?_eq_some_iff.mp hj).1
    have hlt2 : j < L.ss.length := by rw [W.ns]; exact hlt
    obtain ⟨⟨dx, q⟩, _⟩ := W.route j c _ _ hj (List.getElem?_eq_getElem hlt2) (List.getElem?_eq_getElem hlt)
    exact nomatch e.symm.trans q
  · obtain ⟨j, hj⟩ := List.getElem?_of_mem h
    have hlt : j < a.routes.length := by rw [← W.ns]; exact (List.getElem?_eq_some_iff.mp hj).1
    have hlt2 : j < L.rs.length := by rw [W.nr]; exact hlt
    obtain ⟨_, q⟩ := W.route j _ c _ (List.getElem?_eq_getElem hlt2) hj (List.getElem?_eq_getElem hlt)
    exact nomatch e.symm.trans q
  · obtain ⟨j, hj⟩ := List.getElem?_of_mem h
    have hlt : j < a.climbers.length := by rw [← W.nc]; exact (List.getElem?_eq_some_iff.mp hj).1
    obtain ⟨dx, q⟩ := W.climber j c _ hj (List.getElem?_eq_getElem hlt)
    exact nomatch e.symm.trans q
theorem ok_make_moves (T : Txt K mg D) : FnOk P w K mg base CX0 2 D.f_make_moves D.d_make_moves ["wall", "moves"] (sp_make_moves K D) := by
  refine T.fun_make_moves.ok sc_make_moves (fun vs H Q E h => ?_) (fun cdv A oenv s H vs Q E hr h => ?_)
  · obtain ⟨L, a, l, ms, rfl, _⟩ := h
    rfl
  · obtain ⟨L, a, l, ms, rfl, W, wf, M, hlF, hms, k⟩ := h
    have hu := hu_of hr
    obtain ⟨ts, h2, h3, h4, _⟩ := empty_moves M
    refine ⟨_, (pss_cons (ps_set (i := 2) sc_make_moves.nd rfl loc_ pe_dnewK)
  (pss_cons (ps_for PassesOwn.never rfl (pi_list (pv 1)) (pg_name (i := 3) sc_make_moves.nd rfl loc_)
  (pss_one (ps_if (pt_val (pe_call (ok_wear T) (hr.mono (by decide)) rfl T.g_wear T.fun_wear.kp T.b_wear .nil pass0 (pa_cons (pe_ix ix_list (pe_fld (pv 0) rfl) (pe_ix ix_tup (pv 3) pe_int (fun _ _ => rfl)) (fun _ _ => rfl)) (pa_cons (pe_fld (pv 0) rfl) pa_nil)))) (pss_one (ps_dput hu (pv 2) (pe_ix ix_tup (pv 3) pe_int (fun _ _ => rfl)) pe_bl rfl)) pss_nil)))
  (pss_one (ps_ret (pe_callB call_lenD rfl T.n_len bt_len (pa_cons (pv 2) pa_nil)))))), ?_⟩
    refine fun d hd => ?_
    have s1 := same_new (o := .dK []) hd
    refine ⟨_, rfl, l, rfl, ⟨_, SqL.of (s1 _ _ h2)⟩, for_list (K := K) (a := l) (xs := ts.map V.ref) (fun i σ H' => ∃ (v3 : Option V) (F : List Nat), σ = [some (.ref L.p), some (.ref l), some (.ref d), v3] ∧ WallAt D H' L true (a.wears (ms.take i)) ∧ (∀ c o, H c = some o → ¬ L.Foot c → H' c = some o) ∧ FellAt H' d F ∧ Fell a (a.wears (ms.take i)) F)
      ⟨none, [], rfl, W.same s1, fun c o e _ => s1 _ _ e, upd_same, Fell.start a⟩ (fun i σ H' _ ⟨_, _, _, _, kp, _, _⟩ => SqL.of (kp _ _ h2 hlF)) ?_ ?_⟩
    · rintro i v σ H' hi ⟨v3, F, rfl, W1, kp, hF, IF⟩
      obtain ⟨t, ht, rfl⟩ : ∃ t, ts[i]? = some t ∧ v = V.ref t := by
        rw [List.getElem?_map] at hi
        cases e : ts[i]? with
        | none => rw [e] at hi; cases hi
        | some t => rw [e] at hi; exact ⟨t, rfl, (Option.some.inj hi).symm⟩
      obtain ⟨m, hm, htm⟩ := Paired.atL h3 ht
      have hm2 : m.2 < a.holds.length := hms m (List.mem_of_getElem? hm)
      have hm3 : m.2 < (a.wears (ms.take i)).holds.length := by rw [wears_len]; exact hm2
      have ht1 : H' t = some (.tup [nV m.1, nV m.2]) := kp _ _ htm (fun q => W.noTup q htm)
      obtain ⟨dx, hw⟩ := W1.wall
      obtain ⟨q, dq, g1, g2, g3⟩ := W1.holdAt hm3
      have hqd : d ≠ q := ne_of hF g3 (fun z => nomatch z)
      have htq : t ≠ q := ne_of ht1 g3 (fun z => nomatch z)
      refine ⟨_, rfl, L.p, _, dx, _, _, rfl, hw, T.cl_Wall, T.na_Wall_holds, lk_holds _ _ _ _ _, _, rfl, t, _, _, _, rfl, rfl, SqT.of ht1, (at_of (j := 1) rfl rfl), L.hl, _, _, _, rfl, rfl, SqL.of W1.hl, atI_nat (ref_at g1), _, rfl, L.p, _, dx, _, _, rfl, hw, T.cl_Wall, T.na_Wall_hands_to_fall, lk_fall _ _ _ _ _,
        q, dq, _, _, rfl, g3, _, rfl, ?_⟩
      have kp1 : ∀ c o, H' c = some o → c ≠ q → (upd H' q (.ins D.c_Hold dq (fHold (Su55.worn (a.wears (ms.take i)).wear ((a.wears (ms.take i)).hold m.2))))) c = some o := fun c o e hc => by rw [upd_ne hc]; exact e
      have W2 := W1.setHold (f := Su55.worn (a.wears (ms.take i)).wear) g1 g2 ⟨dq, upd_same⟩ kp1
      have IF2 := IF.turn hm2
      have kp2 : ∀ c o, H c = some o → ¬ L.Foot c → (upd H' q (.ins D.c_Hold dq (fHold (Su55.worn (a.wears (ms.take i)).wear ((a.wears (ms.take i)).hold m.2))))) c = some o := fun c o e hc => kp1 c o (kp c o e hc) (fun z => hc (.inr (.inr (.inr (.inr (.inl (by rw [z]; exact List.mem_of_getElem? g1)))))))
      rw [take_snoc hm]
      simp only [wears_snoc]
      refine ite2 (fun e1 => ?_) (fun e1 => ?_)
      · rw [if_pos e1] at IF2
        refine ⟨_, rfl, _, rfl, t, _, _, _, rfl, rfl, SqT.of (kp1 _ _ ht1 htq), (at_of (j := 1) rfl rfl), d, _, rfl, DPut.k (k := Sum.inl (m.2 : Int)) (kp1 _ _ hF hqd) (small1000 ?_), ?_⟩
        · rw [List.length_map]
          have q1 := len_le_of_nodup_subset (m := List.range a.holds.length) IF.nd (fun h hh => List.mem_range.mpr ((IF.mem h).mp hh).1)
          rw [List.length_range] at q1
          have := wf.nh
          omega
        · have hdn : H d = none := hd
          refine ⟨_, _, rfl, W2.keep fun c o e hc => ?_, fun c o e hc => ?_, (by unfold FellAt; rw [upd_same, put_fell]), IF2⟩
          · rw [upd_ne (fun z : c = d => W.out hdn (z ▸ hc))]
            exact e
          · rw [upd_ne (ne_of_none e hdn)]
            exact kp2 c o e hc
      · rw [if_neg e1] at IF2
        exact ⟨_, _, rfl, W2, kp2, kp1 _ _ hF hqd, IF2⟩
    · rintro σ H' ⟨v3, F, rfl, W1, kp, hF, IF⟩
      rw [List.length_map, h4, List.take_length] at W1 IF
      refine ⟨_, rfl, d, _, rfl, hF, ?_⟩
      rw [List.length_map, IF.count rfl]
      exact k H' W1 ⟨kp, fun c h => .inl h, rfl⟩
end
end Cw
end
section
set_option Elab.async false
set_option linter.all false
set_option maxRecDepth 100000
set_option maxHeartbeats 2000000
namespace Cw
open PySem PySem.Spec PyProof.Rows L2
open Su55 (Abs)
theorem lc_rsame {lo : Int} {n : Nat} {g : TG} {tt : TT} {te : TE} {vs : List Nat} {σ : L2.St} {H1 : Hp} {D : Addr} {Qd : Hp → Prop} (p : Nat → Bool) (f : Nat → V) (hD : H1 D = none) (hz : n ≤ 1000)
    (hs : ∀ i H acc, i < n → Same H1 H → H D = some (.lst acc) → acc.length < sizeLine → ∀ N : Hp → Prop, (∀ H4, Same H H4 → N (if p i = true then upd H4 D (.lst (acc ++ [f i])) else H4)) →
      g (.int (lo + i)) (wipe σ vs) H fun σ2 H2 => wipe σ2 vs = wipe σ vs ∧ tt σ2 H2 fun b H3 => if b = true then te σ2 H3 fun y H4 => ∃ acc, H4 D = some (.lst acc) ∧ acc.length < sizeLine ∧ N (upd H4 D (.lst (acc ++ [y]))) else N H3)
    (hd : ∀ H, Same H1 H → H D = some (.lst (((List.range n).filter p).map f)) → Qd H) :
    ∃ W : Nat → Nat → Hp → Prop, (∃ m, W 0 m (upd H1 D (.lst []))) ∧ ∀ i m H, W i m H →
      ((Itr lo n).stop i H ∧ Qd H) ∨ ((Itr lo n).go i H ∧ ∃ Nx : Hp → Prop, (∀ H', Nx H' → ∃ m', m' < m ∧ W (i + 1) m' H') ∧ ∀ x H', (Itr lo n).yld i H x H' → g x (wipe σ vs) H' fun σ2 H2 => wipe σ2 vs = wipe σ vs ∧ tt σ2 H2 fun b H3 =>
        if b = true then te σ2 H3 fun y H4 => ∃ acc, H4 D = some (.lst acc) ∧ acc.length < sizeLine ∧ Nx (upd H4 D (.lst (acc ++ [y]))) else Nx H3) := by
  refine lc_range (lo := lo) (n := n) (fun i H => Same H1 H ∧ H D = some (.lst (((List.range i).filter p).map f)) ∧ i ≤ n) ⟨same_new hD, upd_same, Nat.zero_le _⟩ (fun i H hlt ⟨s, hl, hi⟩ => ?_) (fun H ⟨s, hl, _⟩ => hd H s hl)
  have hlen : (((List.range i).filter p).map f).length ≤ i := by
    rw [List.length_map]
    exact Nat.le_trans (List.length_filter_le _ _) (by simp)
  refine hs i H _ hlt s hl (small1000 (by omega)) _ fun H4 s4 => ?_
  have s14 : Same H1 H4 := s.trans s4
  rw [List.range_succ, List.filter_append, List.map_append]
  cases hp : p i with
  | true =>
    refine ⟨fun c u e => ?_, ?_, hlt⟩
    · rw [if_pos rfl, upd_ne (ne_of_none e hD)]
      exact s14 _ _ e
    · rw [if_pos rfl, upd_same]
      simp [hp]
  | false =>
    refine ⟨?_, ?_, hlt⟩
    · rw [if_neg (by simp)]
      exact s14
    · rw [if_neg (by simp)]
      have := s4 _ _ hl
      simpa [hp] using this
theorem lc_r0 {n : Nat} {g : TG} {tt : TT} {te : TE} {vs : List Nat} {σ : L2.St} {H1 : Hp} {D : Addr} {Qd : Hp → Prop} (p : Nat → Bool) (f : Nat → V) (hD : H1 D = none) (hz : n ≤ 1000)
    (hs : ∀ i H acc, i < n → Same H1 H → H D = some (.lst acc) → acc.length < sizeLine → ∀ N : Hp → Prop, (∀ H4, Same H H4 → N (if p i = true then upd H4 D (.lst (acc ++ [f i])) else H4)) →
      g (nV i) (wipe σ vs) H fun σ2 H2 => wipe σ2 vs = wipe σ vs ∧ tt σ2 H2 fun b H3 => if b = true then te σ2 H3 fun y H4 => ∃ acc, H4 D = some (.lst acc) ∧ acc.length < sizeLine ∧ N (upd H4 D (.lst (acc ++ [y]))) else N H3)
    (hd : ∀ H, Same H1 H → H D = some (.lst (((List.range n).filter p).map f)) → Qd H) :
    ∃ W : Nat → Nat → Hp → Prop, (∃ m, W 0 m (upd H1 D (.lst []))) ∧ ∀ i m H, W i m H →
      ((Itr 0 n).stop i H ∧ Qd H) ∨ ((Itr 0 n).go i H ∧ ∃ Nx : Hp → Prop, (∀ H', Nx H' → ∃ m', m' < m ∧ W (i + 1) m' H') ∧ ∀ x H', (Itr 0 n).yld i H x H' → g x (wipe σ vs) H' fun σ2 H2 => wipe σ2 vs = wipe σ vs ∧ tt σ2 H2 fun b H3 =>
        if b = true then te σ2 H3 fun y H4 => ∃ acc, H4 D = some (.lst acc) ∧ acc.length < sizeLine ∧ Nx (upd H4 D (.lst (acc ++ [y]))) else Nx H3) :=
  lc_rsame (lo := 0) p f hD hz (fun i H acc h1 h2 h3 h4 N k => by
    rw [show (0 : Int) + (i : Int) = (i : Int) from Int.zero_add _]
    exact hs i H acc h1 h2 h3 h4 N k) hd
theorem lc_esame {K : PySem.W.Frag} {a : Addr} {xs : List V} {g : TG} {tt : TT} {te : TE} {vs : List Nat} {σ : L2.St} {H1 : Hp} {D : Addr} {Qd : Hp → Prop} (p : Nat → Bool) (f : Nat → V) (hS : SqL K H1 a xs) (hD : H1 D = none) (hz : xs.length ≤ 1000)
    (hs : ∀ i x t H acc, xs[i]? = some x → Same H1 H → H D = some (.lst acc) → acc.length < sizeLine → H t = some (.tup [nV i, x]) → ∀ N : Hp → Prop, (∀ H4, Same H H4 → N (if p i = true then upd H4 D (.lst (acc ++ [f i])) else H4)) →
      g (.ref t) (wipe σ vs) H fun σ2 H2 => wipe σ2 vs = wipe σ vs ∧ tt σ2 H2 fun b H3 => if b = true then te σ2 H3 fun y H4 => ∃ acc, H4 D = some (.lst acc) ∧ acc.length < sizeLine ∧ N (upd H4 D (.lst (acc ++ [y]))) else N H3)
    (hd : ∀ H, Same H1 H → H D = some (.lst (((List.range xs.length).filter p).map f)) → Qd H) :
    ∃ W : Nat → Nat → Hp → Prop, (∃ m, W 0 m (upd H1 D (.lst []))) ∧ ∀ i m H, W i m H →
      ((Ite K a).stop i H ∧ Qd H) ∨ ((Ite K a).go i H ∧ ∃ Nx : Hp → Prop, (∀ H', Nx H' → ∃ m', m' < m ∧ W (i + 1) m' H') ∧ ∀ x H', (Ite K a).yld i H x H' → g x (wipe σ vs) H' fun σ2 H2 => wipe σ2 vs = wipe σ vs ∧ tt σ2 H2 fun b H3 =>
        if b = true then te σ2 H3 fun y H4 => ∃ acc, H4 D = some (.lst acc) ∧ acc.length < sizeLine ∧ Nx (upd H4 D (.lst (acc ++ [y]))) else Nx H3) := by
  refine ⟨fun i m H => m = xs.length - i ∧ i ≤ xs.length ∧ Same H1 H ∧ H D = some (.lst (((List.range i).filter p).map f)), ⟨xs.length, rfl, Nat.zero_le _, same_new hD, upd_same⟩, ?_⟩
  rintro i m H ⟨rfl, hi, s, hl⟩
  by_cases hlt : i < xs.length
  · have hx : xs[i]? = some xs[i] := List.getElem?_eq_getElem hlt
    refine .inr ⟨⟨xs, xs[i], s.seq hS, hx⟩, fun H' => Same H1 H' ∧ H' D = some (.lst (((List.range (i + 1)).filter p).map f)), fun H' q => ⟨xs.length - (i + 1), by omega, rfl, hlt, q⟩, fun v H' hy => ?_⟩
    obtain ⟨t, x, rfl, ht, rfl, hx2⟩ := hy
    have ex : xs[i] = x := Option.some.inj (hx.symm.trans (hx2 xs (s.seq hS)))
    have st := same_new (o := .tup [V.int (i : Int), x]) ht
    have hlen : (((List.range i).filter p).map f).length ≤ i := by
      rw [List.length_map]
      exact Nat.le_trans (List.length_filter_le _ _) (by simp)
    refine hs i x t _ _ (hx2 xs (s.seq hS)) (s.trans st) (st _ _ hl) (small1000 (by omega)) upd_same _ fun H4 s4 => ?_
    have s14 : Same H1 H4 := (s.trans st).trans s4
    rw [List.range_succ, List.filter_append, List.map_append]
    cases hp : p i with
    | true =>
      refine ⟨fun c u e => ?_, ?_⟩
      · rw [if_pos rfl, upd_ne (ne_of_none e hD)]
        exact s14 _ _ e
      · rw [if_pos rfl, upd_same]
        simp [hp]
    | false =>
      refine ⟨?_, ?_⟩
      · rw [if_neg (by simp)]
        exact s14
      · rw [if_neg (by simp)]
        have := s4 _ _ (st _ _ hl)
        simpa [hp] using this
  · have e : i = xs.length := by omega
    subst e
    exact .inl ⟨⟨xs, s.seq hS, Nat.le_refl _⟩, hd H s hl⟩
def mvData (ms : List Su55.Move) : List PyData := ms.map fun m => .tuple [.int (m.1 : Int), .int (m.2 : Int)]
theorem dp_all {K : PySem.W.Frag} {H : Hp} {ts : List Addr} {ms : List Su55.Move} (h : Paired (MvAt H) ts ms) : DpAll K H (ts.map V.ref) (mvData ms) := by
  induction h with
  | nil => exact .nil
  | cons r t ih => exact .cons (.tup (SqT.of r) (.cons (.int _) (.cons (.int _) .nil))) ih
theorem dp_moves {K : PySem.W.Frag} {H : Hp} {l : Addr} {ms : List Su55.Move} (M : MovesAt H l ms) : Dp K H (.ref l) (.list (mvData ms)) := by
  obtain ⟨ts, h1, h2⟩ := M
  exact .lst (SqL.of h1) (dp_all h2)
theorem lay_all (ms : List Su55.Move) : PyData.canLayAll0 (mvData ms) = true := by
  induction ms with
  | nil => rfl
  | cons m ms ih =>
    show (_ && PyData.canLayAll0 (mvData ms)) = true
    rw [ih]
    rfl
theorem depth_all (ms : List Su55.Move) : PyData.depthAll (mvData ms) ≤ 10 := by
  induction ms with
  | nil => simp [mvData, PyData.depthAll]
  | cons m ms ih =>
    unfold mvData at ih ⊢
    simp only [List.map_cons, PyData.depthAll, PyData.depth]
    omega
theorem shaped_moves (ms : List Su55.Move) : SeqAt.shaped (.list (mvData ms)) = true := by
  unfold SeqAt.shaped
  rw [Bool.and_eq_true]
  refine ⟨lay_all ms, decide_eq_true ?_⟩
  have := depth_all ms
  simp only [PyData.depth]
  omega
theorem eqv_moves (ms : List Su55.Move) : PyData.eqv (.list (mvData ms)) (.list []) = ms.isEmpty := by
  cases ms with
  | nil => rfl
  | cons m ms => rfl
theorem ne_empty {K : PySem.W.Frag} {H : Hp} {l : Addr} {ms : List Su55.Move} {Q : VK} (M : MovesAt H l ms) {e : Addr} (he : H e = some (.lst [])) (q : Q (.bl (!ms.isEmpty)) H) : rNeD K (.ref l) (.ref e) H Q :=
  ⟨_, _, dp_moves M, .lst (SqL.of he) .nil, shaped_moves ms, rfl, by rw [eqv_moves]; exact q⟩
theorem some_iff {a : Abs} {l : List Nat} (st : Stops a l) (n s : Nat) : (a.up n s l).isSome = !((a.up n s l).getD []).isEmpty := by
  cases e : a.up n s l with
  | none => rfl
  | some ms =>
    have := (up_ok st n s ms e).1
    cases ms with
    | nil => exact absurd rfl this
    | cons _ _ => rfl
theorem can_iff {a : Abs} (wf : Wf a) {c r : Nat} (hr : r < a.routes.length) : a.can c r = !((a.way c r).getD []).isEmpty := some_iff (stops_of wf hr) _ _
theorem MovesAt.same {H H' : Hp} {l : Addr} {ms : List Su55.Move} (M : MovesAt H l ms) (s : Same H H') : MovesAt H' l ms := M.keep (fun _ e => s _ _ e) fun _ _ e => s _ _ e
theorem list_nV (l : List Nat) : [V.int ((l.map nV).length : Int)] ++ l.map nV = ansV (Su55.list l) := by
  rw [List.length_map]
  rfl
section
variable {D : Dat}
theorem WallAt.movesOut {H : Hp} {L : Lay} {b : Bool} {a : Abs} (W : WallAt D H L b a) {l : Addr} {ms : List Su55.Move} (M : MovesAt H l ms) (hne : ms ≠ []) : ¬ L.Foot l := by
  obtain ⟨ts, h1, h2⟩ := M
  cases h2 with
  | nil => exact absurd rfl hne
  | @cons t m ts' ms' ht _ =>
    have ht : H t = some (.tup [nV m.1, nV m.2]) := ht
    have first : ∀ {xs : List V}, H l = some (.lst xs) → xs[0]? = some (V.ref t) := fun e => by
      rw [h1] at e
      injection e with e
      injection e with e
      rw [← e]
      rfl
    have refs : ∀ {as : List Addr}, H l = some (.lst (as.map V.ref)) → as[0]? = some t := fun {as} e => by
      have q := first e
      rw [List.getElem?_map] at q
      cases as with
      | nil => cases q
      | cons y as =>
        have q : V.ref y = V.ref t := Option.some.inj q
        injection q with q
        rw [q]
        rfl
    intro q
    rcases q with q | q | q | q | q | q | q | q
    · obtain ⟨dx, e⟩ := W.wall
      rw [← q] at e
      exact nomatch h1.symm.trans e
    · have e := refs (by rw [q]; exact W.hl)
      have hlt : 0 < a.holds.length := by rw [← W.nh]; exact (List.getElem?_eq_some_iff.mp e).1
      obtain ⟨dx, e2⟩ := W.hold 0 t _ e (List.getElem?_eq_getElem hlt)
      exact nomatch ht.symm.trans e2
    · have e := refs (by rw [q]; exact W.rl)
      have hlt : 0 < a.routes.length := by rw [← W.nr]; exact (List.getElem?_eq_some_iff.mp e).1
      have hlt2 : 0 < L.ss.length := by rw [W.ns]; exact hlt
      obtain ⟨⟨dx, e2⟩, _⟩ := W.route 0 t _ _ e (List.getElem?_eq_getElem hlt2) (List.getElem?_eq_getElem hlt)
      exact nomatch ht.symm.trans e2
    · have e := refs (by rw [q]; exact W.cl)
      have hlt : 0 < a.climbers.length := by rw [← W.nc]; exact (List.getElem?_eq_some_iff.mp e).1
      obtain ⟨dx, e2⟩ := W.climber 0 t _ e (List.getElem?_eq_getElem hlt)
      exact nomatch ht.symm.trans e2
    · obtain ⟨j, hj⟩ := List.getElem?_of_mem q
      have hlt : j < a.holds.length := by rw [← W.nh]; exact (List.getElem?_eq_some_iff.mp hj).1
      obtain ⟨dx, e⟩ := W.hold j l _ hj (List.getElem?_eq_getElem hlt)
      exact nomatch h1.symm.trans e
    · obtain ⟨j, hj⟩ := List.getElem?_of_mem q
      have hlt : j < a.routes.length := by rw [← W.nr]; exact (List.getElem?_eq_some_iff.mp hj).1
      have hlt2 : j < L.ss.length := by rw [W.ns]; exact hlt
      obtain ⟨⟨dx, e⟩, _⟩ := W.route j l _ _ hj (List.getElem?_eq_getElem hlt2) (List.getElem?_eq_getElem hlt)
      exact nomatch h1.symm.trans e
    · obtain ⟨j, hj⟩ := List.getElem?_of_mem q
      have hlt : j < a.routes.length := by rw [← W.ns]; exact (List.getElem?_eq_some_iff.mp hj).1
      have hlt2 : j < L.rs.length := by rw [W.nr]; exact hlt
      obtain ⟨_, e⟩ := W.route j _ l _ (List.getElem?_eq_getElem hlt2) hj (List.getElem?_eq_getElem hlt)
      have q2 := first e
      rw [List.getElem?_map] at q2
      cases z : (a.routes[j]).holds[0]? with
      | none => rw [z] at q2; cases q2
      | some y => rw [z] at q2; exact nomatch Option.some.inj q2
    · obtain ⟨j, hj⟩ := List.getElem?_of_mem q
      have hlt : j < a.climbers.length := by rw [← W.nc]; exact (List.getElem?_eq_some_iff.mp hj).1
      obtain ⟨dx, e⟩ := W.climber j l _ hj (List.getElem?_eq_getElem hlt)
      exact nomatch h1.symm.trans e
end
end Cw
end
section
set_option Elab.async false
set_option linter.all false
set_option maxRecDepth 100000
set_option maxHeartbeats 2000000
namespace Cw
open PySem PySem.Spec PyProof.Rows L2
open Su55 (Abs)
theorem and_not {x y : Bool} {A B U : Prop} (hu : (if (!y) = true then A else B) → U) (h1 : x = true → y = false → A) (h2 : ¬ (x = true ∧ y = false) → B) : if x = true then U else (if false = true then A else B) := by
  cases x with
  | false => exact h2 (fun z => nomatch z.1)
  | true =>
    refine hu ?_
    cases y with
    | false => exact h1 rfl rfl
    | true => exact h2 (fun z => nomatch z.2)
section
variable {P : Program} {w : World} {K : PySem.W.Frag} {mg : Str → Option Value} {base : Heap} {D : Dat}
theorem Moved.fresh {H H' : Hp} {L : Lay} {b : Bool} {a : Abs} (W : WallAt D H' L b a) (mv : Moved H L H' L) {n : Addr} (hn : H' n = none) : H n = none := by
  cases e : H n with
  | none => rfl
  | some o =>
    have nf := W.out hn
    have := mv.keep n o e nf
    rw [hn] at this
    cases this
theorem Wf.climbers {a : Abs} (wf : Wf a) (c : Nat) (f : Su55.Climber → Su55.Climber) (hf : ∀ z, (f z).reach = z.reach) : Wf { a with climbers := a.climbers.modify c f } :=
  ⟨wf.nh, wf.nr, by show (a.climbers.modify c f).length ≤ 8; rw [List.length_modify]; exact wf.nc, wf.hold, wf.route, mem_modify wf.climber fun x hx => by rw [hf]; exact wf.climber x hx⟩
def sp_climb_route (K : PySem.W.Frag) (D : Dat) : Sp := fun vs H Q _ => ∃ (L : Lay) (a : Abs) (c r : Nat), vs = [.ref L.p, nV c, nV r] ∧ WallAt D H L true a ∧ Wf a ∧ Gives D H L a (.climb c r) Q
theorem ok_climb_route (T : Txt K mg D) : FnOk P w K mg base CX0 7 D.f_climb_route D.d_climb_route ["wall", "c", "r"] (sp_climb_route K D) := by
  refine T.fun_climb_route.ok sc_climb_route (fun vs H Q E h => ?_) (fun cdv A oenv s H vs Q E hr h => ?_)
  · obtain ⟨L, a, c, r, rfl, _⟩ := h
    rfl
  · obtain ⟨L, a, c, r, rfl, W, wf, k⟩ := h
    refine ⟨_, (pss_cons (ps_if (pt_not (pt_val (pe_call (ok_are_there T) (hr.mono (by decide)) rfl T.g_are_there T.fun_are_there.kp T.b_are_there .nil pass0 (pa_cons (pv 0) (pa_cons (pv 1) (pa_cons (pv 2) pa_nil)))))) (pss_one (ps_ret (pe_lst (pa_cons (pe_const rfl T.k_NO_SUCH) pa_nil)))) pss_nil)
  (pss_cons (ps_set (i := 3) sc_climb_route.nd rfl loc_ (pe_ix ix_list (pe_fld (pv 0) rfl) (pv 1) (fun _ _ => rfl)))
  (pss_cons (ps_if (PW.pt (pw_and (pt_val (pe_fld (pe_ix ix_list (pe_fld (pv 0) rfl) (pv 2) (fun _ _ => rfl)) rfl)) (pw_and1 (pt_not (pt_val (pe_fld (pv 3) rfl)))))) (pss_one (ps_ret (pe_lst (pa_cons (pe_const rfl T.k_MUST_LEAD) pa_nil)))) pss_nil)
  (pss_cons (ps_set (i := 4) sc_climb_route.nd rfl loc_ (pe_call (ok_way_of T) (hr.mono (by decide)) rfl T.g_way_of T.fun_way_of.kp T.b_way_of .nil pass0 (pa_cons (pv 0) (pa_cons (pv 1) (pa_cons (pv 2) pa_nil)))))
  (pss_cons (ps_if (pt_not (pt_truth (pv 4) (fun _ => rfl))) (pss_one (ps_ret (pe_lst (pa_cons (pe_const rfl T.k_NO_WAY) pa_nil)))) pss_nil)
  (pss_cons (ps_fldaug (pv 3) pe_int in_add)
  (pss_cons (ps_fldaug (pv 3) (pe_callB cr_len rfl T.n_len bt_len (pa_cons (pv 4) pa_nil)) in_add)
  (pss_one (ps_ret (pe_lst (pa_cons (pe_callB cr_len rfl T.n_len bt_len (pa_cons (pv 4) pa_nil)) (pa_cons (pe_call (ok_make_moves T) (hr.mono (by decide)) rfl T.g_make_moves T.fun_make_moves.kp T.b_make_moves .nil pass0 (pa_cons (pv 0) (pa_cons (pv 4) pa_nil))) pa_nil)))))))))))), ?_⟩
    refine ⟨_, rfl, _, rfl, _, rfl, L, true, a, c, r, rfl, W, _, rfl, ite2 (fun h1 => ⟨(by show 1 ≤ sizeLine; decide), fun l hl => Gives.no k W ?_ hl⟩) (fun h1 => ?_)⟩
    · unfold Su55.does; dsimp only
      rw [if_pos (there_no h1)]
    · obtain ⟨n1, hc, hr'⟩ := there_yes h1
      obtain ⟨dx, hw⟩ := W.wall
      obtain ⟨q, dq, g1, g2, g3⟩ := W.climberAt hc
      obtain ⟨rp, drr, ls, g4, g5, _, g7, g8⟩ := W.routeAt hr'
      refine ⟨_, rfl, L.p, _, dx, _, _, rfl, hw, T.cl_Wall, T.na_Wall_climbers, lk_climbers _ _ _ _ _, _, rfl, L.cl, _, _, _, rfl, rfl, SqL.of W.cl, atI_nat (ref_at g1), ?_⟩
      refine ⟨_, rfl, L.p, _, dx, _, _, rfl, hw, T.cl_Wall, T.na_Wall_routes, lk_routes _ _ _ _ _, _, rfl, L.rl, _, _, _, rfl, rfl, SqL.of W.rl, atI_nat (ref_at g4), rp, _, drr, _, _, rfl, g7, T.cl_Route, T.na_Route_must_lead, lk_must _ _, _, rfl,
        and_not (fun z => ⟨_, rfl, q, _, dq, _, _, rfl, g3, T.cl_Climber, T.na_Climber_may_lead, lk_may _, _, rfl, z⟩) (fun m1 m2 => ⟨(by show 1 ≤ sizeLine; decide), fun l hl => Gives.no k W ?_ hl⟩) (fun mn => ?_)⟩
      · unfold Su55.does; dsimp only
        rw [if_neg n1, m1, m2]
        rfl
      · have nl : ¬ ((a.route r).lead && !(a.climber c).lead) = true := fun z => mn (by
          rw [Bool.and_eq_true, Bool.not_eq_true'] at z
          exact z)
        refine ⟨_, rfl, _, rfl, _, rfl, L, true, a, c, r, rfl, W, wf, hc, hr', fun H1 l s1 M => ?_⟩
        obtain ⟨ts, h2, h3, h4, h5⟩ := empty_moves M
        refine ⟨_, rfl, _, .inl ⟨_, SqL.of h2, rfl⟩, ?_⟩
        rw [h5]
        rcases way_cases wf hr' (c := c) with ⟨e1, e2⟩ | ⟨ms, e1, e2⟩
        · rw [e2]
          refine ⟨(by show 1 ≤ sizeLine; decide), fun n hn => Gives.noS k W ?_ s1 hn⟩
          unfold Su55.does; dsimp only
          rw [if_neg n1, if_neg nl, e1]
        · rw [e2]
          have em : (a.way c r).getD [] = ms := by rw [e1]; rfl
          rw [em] at M h3 h4
          obtain ⟨wne, w64, wlt⟩ := way_ok wf hr' c ms e1
          have g3' := s1 _ _ g3
          refine ⟨_, rfl, q, _, dq, _, _, rfl, g3', T.cl_Climber, T.na_Climber_climbs, lk_climbs _, _, _, rfl, rfl, dq, _, g3', (by show 5 < 1000; decide), ?_⟩
          have p1 : putF "climbs" (V.int (((a.climber c).climbs : Int) + 1)) (fClimber (a.climber c)) = fClimber { (a.climber c) with climbs := (a.climber c).climbs + 1 } := put_climbs _ _
          rw [p1]
          have hlq : l ≠ q := ne_of h2 g3' lst_ins
          refine ⟨_, rfl, q, _, dq, _, _, rfl, upd_same, T.cl_Climber, T.na_Climber_moves, lk_moves _, _, rfl, l, _, rfl, .inl (SqL.of (by rw [upd_ne hlq]; exact h2)), _, _, rfl, rfl, dq, _, upd_same, (by show 5 < 1000; decide), ?_⟩
          have p2 : putF "moves" (V.int (((({ (a.climber c) with climbs := (a.climber c).climbs + 1 } : Su55.Climber).moves : Nat) : Int) + (((ts.map V.ref).length : Nat) : Int))) (fClimber { (a.climber c) with climbs := (a.climber c).climbs + 1 }) = fClimber { (a.climber c) with climbs := (a.climber c).climbs + 1, moves := (a.climber c).moves + ms.length } := by
            rw [List.length_map, h4]
            exact put_moves _ _
          rw [p2, upd_upd]
          have kp : ∀ c' o, H1 c' = some o → c' ≠ q → (upd H1 q (.ins D.c_Climber dq (fClimber { (a.climber c) with climbs := (a.climber c).climbs + 1, moves := (a.climber c).moves + ms.length }))) c' = some o := fun c' o e hc' => by
            rw [upd_ne hc']
            exact e
          have W1 := W.same s1
          have W2 := W1.setClimber (f := fun z => { z with climbs := z.climbs + 1, moves := z.moves + ms.length }) g1 g2 ⟨dq, upd_same⟩ kp
          have wf2 := wf.climbers c (fun z => { z with climbs := z.climbs + 1, moves := z.moves + ms.length }) (fun _ => rfl)
          have M2 := M.keep (fun xs e => kp _ _ e (ne_of e g3' lst_ins)) (fun t xs e => kp _ _ e (ne_of e g3' (fun z => nomatch z)))
          refine ⟨_, rfl, l, _, rfl, .inl (SqL.of (kp _ _ h2 hlq)), _, rfl, _, rfl, L, _, l, ms, rfl, W2, wf2, M2, W1.movesOut M wne, wlt, fun H' W3 mv => ⟨(by show 2 ≤ sizeLine; decide), fun n hn => ?_⟩⟩
          have ed : Su55.does a (.climb c r) = (a.climbed c ms, Su55.num ms.length [a.worse (a.climbed c ms)]) := by
            unfold Su55.does; dsimp only
            rw [if_neg n1, if_neg nl, e1]
          have hn2 := Moved.fresh W3 mv hn
          have hn1 : H1 n = none := by
            by_cases z : n = q
            · rw [z, upd_same] at hn2
              cases hn2
            · rwa [upd_ne z] at hn2
          have hqF : L.Foot q := .inr (.inr (.inr (.inr (.inr (.inr (.inr (List.mem_of_getElem? g1)))))))
          refine k _ L n ?_ ⟨fun c' o e hc' => ?_, fun c' h' => .inl h', rfl⟩ ?_ (W3.out hn) (Same.free s1 hn1)
          · rw [ed, climbed_eq]
            exact W3.same (same_new hn)
          · exact same_new hn _ _ (mv.keep c' o (kp _ _ (s1 _ _ e) (fun z => hc' (z ▸ hqF))) hc')
          · rw [ed, climbed_eq, upd_same, List.length_map, h4]
            rfl
end
end Cw
end
section
set_option Elab.async false
set_option linter.all false
set_option maxRecDepth 100000
set_option maxHeartbeats 2000000
namespace Cw
open PySem PySem.Spec PyProof.Rows L2
open Su55 (Abs)
section
variable {P : Program} {w : World} {K : PySem.W.Frag} {mg : Str → Option Value} {base : Heap} {D : Dat}
def sp_tell_who (K : PySem.W.Frag) (D : Dat) : Sp := fun vs H Q _ => ∃ (L : Lay) (a : Abs) (r : Nat), vs = [.ref L.p, nV r] ∧ WallAt D H L true a ∧ Wf a ∧ Gives D H L a (.who r) Q
theorem ok_tell_who (T : Txt K mg D) : FnOk P w K mg base CX0 7 D.f_tell_who D.d_tell_who ["wall", "r"] (sp_tell_who K D) := by
  refine T.fun_tell_who.ok sc_tell_who (fun vs H Q E h => ?_) (fun cdv A oenv s H vs Q E hr h => ?_)
  · obtain ⟨L, a, r, rfl, _⟩ := h
    rfl
  · obtain ⟨L, a, r, rfl, W, wf, k⟩ := h
    obtain ⟨dx, hw⟩ := W.wall
    refine ⟨_, (pss_cons (ps_if (pt_cmpR op_ge (pv 1) (pe_callB cr_len rfl T.n_len bt_len (pa_cons (pe_fld (pv 0) rfl) pa_nil)) (nomark _)) (pss_one (ps_ret (pe_lst (pa_cons (pe_const rfl T.k_NO_SUCH) pa_nil)))) pss_nil)
  (pss_cons (ps_setLc rfl sc_tell_who.nd (i := 2) rfl rfl (sw_true rfl rfl rfl rfl) (pi_range1 rfl T.n_range (pa_cons (pe_callB cr_len rfl T.n_len bt_len (pa_cons (pe_fld (pv 0) rfl) pa_nil)) pa_nil)) (own := [("c", 3)]) (tt := (tTru K (tCall (sp_way_of K D) [] E0 (tCons (tVar 0) (tCons (tVar 3) (tCons (tVar 1) tNil)))))) (te := (tVar 3)) (blkOk_by rfl) (fun _ _ _ _ _ => pg_name (i := 3) sc_tell_who.nd rfl loc_) (fun _ _ _ _ _ => (pts_one (pt_truth (pe_call (ok_way_of T) (hr.mono (by decide)) rfl T.g_way_of T.fun_way_of.kp T.b_way_of .nil pass0 (pa_cons (pv 0) (pa_cons (pv 3) (pa_cons (pv 1) pa_nil)))) (fun _ => rfl)))) (fun _ _ _ _ _ => (pv 3)))
  (pss_one (ps_ret (pe_op op_cat (pe_lst (pa_cons (pe_callB cr_len rfl T.n_len bt_len (pa_cons (pv 2) pa_nil)) pa_nil)) (pv 2)))))), ?_⟩
    refine ⟨_, rfl, _, rfl, L.p, _, dx, _, _, rfl, hw, T.cl_Wall, T.na_Wall_routes, lk_routes _ _ _ _ _, L.rl, _, rfl, .inl (SqL.of W.rl), _, _, rfl, rfl, _, rfl, ite2 (fun h1 => ⟨(by show 1 ≤ sizeLine; decide), fun l hl => Gives.no k W ?_ hl⟩) (fun h1 => ?_)⟩
    · rw [decide_eq_true_eq, List.length_map, W.nr] at h1
      unfold Su55.does; dsimp only
      rw [if_pos (isR_iff.mpr (by omega))]
    · rw [decide_eq_true_eq, List.length_map, W.nr] at h1
      have hlt : r < a.routes.length := by omega
      have n1 : ¬ a.isR r = false := fun z => by have := isR_iff.mp z; omega
      refine ⟨_, rfl, L.p, _, dx, _, _, rfl, hw, T.cl_Wall, T.na_Wall_climbers, lk_climbers _ _ _ _ _, L.cl, _, rfl, .inl (SqL.of W.cl), _, rfl, (by omega), (by rw [List.length_map, W.nc]; have := wf.nc; omega), fun B hB => ?_⟩
      have en : ((((L.cs.map V.ref).length : Nat) : Int)).toNat = a.climbers.length := by rw [Int.toNat_natCast, List.length_map, W.nc]
      rw [en]
      refine lc_r0 (fun c => a.can c r) nV hB (by have := wf.nc; omega) (fun c H1 acc hc s1 hl hz1 N k1 => ?_) (fun H1 s1 hl => ?_)
      · refine ⟨rfl, _, rfl, _, rfl, _, rfl, L, true, a, c, r, rfl, W.same s1, wf, hc, hlt, fun H2 l s2 M => ?_⟩
        obtain ⟨ts, h2, h3, h4, h5⟩ := empty_moves M
        refine ⟨_, .inl ⟨_, SqL.of h2, rfl⟩, ?_⟩
        rw [h5, ← can_iff wf hlt]
        have k2 : N (if a.can c r = true then upd H2 B (.lst (acc ++ [nV c])) else H2) := k1 H2 s2
        cases e : a.can c r with
        | true =>
          rw [e, if_pos rfl] at k2
          exact ⟨_, rfl, acc, s2 _ _ hl, hz1, k2⟩
        | false =>
          rw [e, if_neg (by simp)] at k2
          exact k2
      · refine ⟨_, rfl, B, _, rfl, .inl (SqL.of hl), (by show 1 ≤ sizeLine; decide), fun e he => ⟨_, rfl, e, B, _, _, rfl, rfl, upd_same, (same_new he _ _ hl), Nat.le_of_lt (small1000 ?_), fun p hp => ?_⟩⟩
        · rw [List.length_map]
          have := List.length_filter_le (fun c => a.can c r) (List.range a.climbers.length)
          rw [List.length_range] at this
          have := wf.nc
          show 1 + _ ≤ 1000
          omega
        · rw [list_nV]
          refine Gives.now k W ?_ (s1.trans (same_new he)) hp
          unfold Su55.does; dsimp only
          rw [if_neg n1]
def sp_tell_which (K : PySem.W.Frag) (D : Dat) : Sp := fun vs H Q _ => ∃ (L : Lay) (a : Abs) (c : Nat), vs = [.ref L.p, nV c] ∧ WallAt D H L true a ∧ Wf a ∧ Gives D H L a (.which c) Q
theorem ok_tell_which (T : Txt K mg D) : FnOk P w K mg base CX0 7 D.f_tell_which D.d_tell_which ["wall", "c"] (sp_tell_which K D) := by
  refine T.fun_tell_which.ok sc_tell_which (fun vs H Q E h => ?_) (fun cdv A oenv s H vs Q E hr h => ?_)
  · obtain ⟨L, a, c, rfl, _⟩ := h
    rfl
  · obtain ⟨L, a, c, rfl, W, wf, k⟩ := h
    obtain ⟨dx, hw⟩ := W.wall
    refine ⟨_, (pss_cons (ps_if (pt_cmpR op_ge (pv 1) (pe_callB cr_len rfl T.n_len bt_len (pa_cons (pe_fld (pv 0) rfl) pa_nil)) (nomark _)) (pss_one (ps_ret (pe_lst (pa_cons (pe_const rfl T.k_NO_SUCH) pa_nil)))) pss_nil)
  (pss_cons (ps_setLc rfl sc_tell_which.nd (i := 2) rfl rfl (sw_true rfl rfl rfl rfl) (pi_range1 rfl T.n_range (pa_cons (pe_callB cr_len rfl T.n_len bt_len (pa_cons (pe_fld (pv 0) rfl) pa_nil)) pa_nil)) (own := [("r", 3)]) (tt := (tTru K (tCall (sp_way_of K D) [] E0 (tCons (tVar 0) (tCons (tVar 1) (tCons (tVar 3) tNil)))))) (te := (tVar 3)) (blkOk_by rfl) (fun _ _ _ _ _ => pg_name (i := 3) sc_tell_which.nd rfl loc_) (fun _ _ _ _ _ => (pts_one (pt_truth (pe_call (ok_way_of T) (hr.mono (by decide)) rfl T.g_way_of T.fun_way_of.kp T.b_way_of .nil pass0 (pa_cons (pv 0) (pa_cons (pv 1) (pa_cons (pv 3) pa_nil)))) (fun _ => rfl)))) (fun _ _ _ _ _ => (pv 3)))
  (pss_one (ps_ret (pe_op op_cat (pe_lst (pa_cons (pe_callB cr_len rfl T.n_len bt_len (pa_cons (pv 2) pa_nil)) pa_nil)) (pv 2)))))), ?_⟩
    refine ⟨_, rfl, _, rfl, L.p, _, dx, _, _, rfl, hw, T.cl_Wall, T.na_Wall_climbers, lk_climbers _ _ _ _ _, L.cl, _, rfl, .inl (SqL.of W.cl), _, _, rfl, rfl, _, rfl, ite2 (fun h1 => ⟨(by show 1 ≤ sizeLine; decide), fun l hl => Gives.no k W ?_ hl⟩) (fun h1 => ?_)⟩
    · rw [decide_eq_true_eq, List.length_map, W.nc] at h1
      unfold Su55.does; dsimp only
      rw [if_pos (isC_iff.mpr (by omega))]
    · rw [decide_eq_true_eq, List.length_map, W.nc] at h1
      have hlt : c < a.climbers.length := by omega
      have n1 : ¬ a.isC c = false := fun z => by have := isC_iff.mp z; omega
      refine ⟨_, rfl, L.p, _, dx, _, _, rfl, hw, T.cl_Wall, T.na_Wall_routes, lk_routes _ _ _ _ _, L.rl, _, rfl, .inl (SqL.of W.rl), _, rfl, (by omega), (by rw [List.length_map, W.nr]; have := wf.nr; omega), fun B hB => ?_⟩
      have en : ((((L.rs.map V.ref).length : Nat) : Int)).toNat = a.routes.length := by rw [Int.toNat_natCast, List.length_map, W.nr]
      rw [en]
      refine lc_r0 (fun r => a.can c r) nV hB (by have := wf.nr; omega) (fun r H1 acc hc s1 hl hz1 N k1 => ?_) (fun H1 s1 hl => ?_)
      · refine ⟨rfl, _, rfl, _, rfl, _, rfl, L, true, a, c, r, rfl, W.same s1, wf, hlt, hc, fun H2 l s2 M => ?_⟩
        obtain ⟨ts, h2, h3, h4, h5⟩ := empty_moves M
        refine ⟨_, .inl ⟨_, SqL.of h2, rfl⟩, ?_⟩
        rw [h5, ← can_iff wf hc]
        have k2 : N (if a.can c r = true then upd H2 B (.lst (acc ++ [nV r])) else H2) := k1 H2 s2
        cases e : a.can c r with
        | true =>
          rw [e, if_pos rfl] at k2
          exact ⟨_, rfl, acc, s2 _ _ hl, hz1, k2⟩
        | false =>
          rw [e, if_neg (by simp)] at k2
          exact k2
      · refine ⟨_, rfl, B, _, rfl, .inl (SqL.of hl), (by show 1 ≤ sizeLine; decide), fun e he => ⟨_, rfl, e, B, _, _, rfl, rfl, upd_same, (same_new he _ _ hl), Nat.le_of_lt (small1000 ?_), fun p hp => ?_⟩⟩
        · rw [List.length_map]
          have := List.length_filter_le (fun r => a.can c r) (List.range a.routes.length)
          rw [List.length_range] at this
          have := wf.nr
          show 1 + _ ≤ 1000
          omega
        · rw [list_nV]
          refine Gives.now k W ?_ (s1.trans (same_new he)) hp
          unfold Su55.does; dsimp only
          rw [if_neg n1]
def sp_best_route (K : PySem.W.Frag) (D : Dat) : Sp := fun vs H Q _ => ∃ (L : Lay) (a : Abs) (c : Nat), vs = [.ref L.p, nV c] ∧ WallAt D H L true a ∧ Wf a ∧ Gives D H L a (.best c) Q
theorem ok_best_route (T : Txt K mg D) : FnOk P w K mg base CX0 7 D.f_best_route D.d_best_route ["wall", "c"] (sp_best_route K D) := by
  refine T.fun_best_route.ok sc_best_route (fun vs H Q E h => ?_) (fun cdv A oenv s H vs Q E hr h => ?_)
  · obtain ⟨L, a, c, rfl, _⟩ := h
    rfl
  · obtain ⟨L, a, c, rfl, W, wf, k⟩ := h
    obtain ⟨dx, hw⟩ := W.wall
    refine ⟨_, (pss_cons (ps_if (pt_cmpR op_ge (pv 1) (pe_callB cr_len rfl T.n_len bt_len (pa_cons (pe_fld (pv 0) rfl) pa_nil)) (nomark _)) (pss_one (ps_ret (pe_lst (pa_cons (pe_const rfl T.k_NO_SUCH) pa_nil)))) pss_nil)
  (pss_cons (ps_setLc rfl sc_best_route.nd (i := 2) rfl rfl (sw_true rfl rfl rfl rfl) (pi_range1 rfl T.n_range (pa_cons (pe_callB cr_len rfl T.n_len bt_len (pa_cons (pe_fld (pv 0) rfl) pa_nil)) pa_nil)) (own := [("r", 3)]) (tt := tYes) (te := (tCB (rLen K) (tCons (tCall (sp_way_of K D) [] E0 (tCons (tVar 0) (tCons (tVar 1) (tCons (tVar 3) tNil)))) tNil))) (blkOk_by rfl) (fun _ _ _ _ _ => pg_name (i := 3) sc_best_route.nd rfl loc_) (fun _ _ _ _ _ => pts_nil) (fun _ _ _ _ _ => (pe_callB cr_len rfl T.n_len bt_len (pa_cons (pe_call (ok_way_of T) (hr.mono (by decide)) rfl T.g_way_of T.fun_way_of.kp T.b_way_of .nil pass0 (pa_cons (pv 0) (pa_cons (pv 1) (pa_cons (pv 3) pa_nil)))) pa_nil))))
  (pss_cons (ps_set (i := 4) sc_best_route.nd rfl loc_ (pe_maxd rfl rfl T.n_max (pv 2) pe_int))
  (pss_cons (ps_if (pt_cmpR op_eq (pv 4) pe_int (nomark _)) (pss_one (ps_ret (pe_lst (pa_cons (pe_const rfl T.k_NONE_AT_ALL) pa_nil)))) pss_nil)
  (pss_one (ps_ret (pe_lst (pa_cons (pe_bm PySem.F.plainAttrs_list PySem.F.slot_list_index PySem.F.type_list_index mt_index (pv 2) (pa_cons (pv 4) pa_nil)) (pa_cons (pv 4) pa_nil))))))))), ?_⟩
    refine ⟨_, rfl, _, rfl, L.p, _, dx, _, _, rfl, hw, T.cl_Wall, T.na_Wall_climbers, lk_climbers _ _ _ _ _, L.cl, _, rfl, .inl (SqL.of W.cl), _, _, rfl, rfl, _, rfl, ite2 (fun h1 => ⟨(by show 1 ≤ sizeLine; decide), fun l hl => Gives.no k W ?_ hl⟩) (fun h1 => ?_)⟩
    · rw [decide_eq_true_eq, List.length_map, W.nc] at h1
      unfold Su55.does; dsimp only
      rw [if_pos (isC_iff.mpr (by omega))]
    · rw [decide_eq_true_eq, List.length_map, W.nc] at h1
      have hlt : c < a.climbers.length := by omega
      have n1 : ¬ a.isC c = false := fun z => by have := isC_iff.mp z; omega
      refine ⟨_, rfl, L.p, _, dx, _, _, rfl, hw, T.cl_Wall, T.na_Wall_routes, lk_routes _ _ _ _ _, L.rl, _, rfl, .inl (SqL.of W.rl), _, rfl, (by omega), (by rw [List.length_map, W.nr]; have := wf.nr; omega), fun B hB => ?_⟩
      have en : ((((L.rs.map V.ref).length : Nat) : Int)).toNat = a.routes.length := by rw [Int.toNat_natCast, List.length_map, W.nr]
      rw [en]
      refine lc_r0 (fun _ => true) (fun i => nV (cnt a c i)) hB (by have := wf.nr; omega) (fun r H1 acc hr' s1 hl hz1 N k1 => ?_) (fun H1 s1 hl => ?_)
      · refine ⟨rfl, ?_⟩
        refine ⟨_, rfl, _, rfl, _, rfl, L, true, a, c, r, rfl, W.same s1, wf, hlt, hr', fun H2 l s2 M => ?_⟩
        obtain ⟨ts, h2, h3, h4, h5⟩ := empty_moves M
        refine ⟨l, _, rfl, .inl (SqL.of h2), acc, s2 _ _ hl, hz1, ?_⟩
        have k2 := k1 H2 s2
        rw [if_pos rfl] at k2
        have e3 : (((ts.map V.ref).length : Nat) : Int) = ((cnt a c r : Nat) : Int) := by
          rw [List.length_map, h4]
          rfl
        rw [e3]
        exact k2
      · have hl' : H1 B = some (.lst (((List.range a.routes.length).map fun i => ((cnt a c i : Nat) : Int)).map V.int)) := by
          rw [hl, List.filter_eq_self.mpr (fun _ _ => rfl), List.map_map]
          rfl
        have bt := best_at a c a.routes.length (fun i hi ms e => (way_ok wf hi c ms e).1)
        rw [← best_eq] at bt
        refine ⟨_, rfl, B, _, rfl, SqL.of hl', (fun z => ?_), fun m hm hmax => ?_⟩
        · have z0 : a.routes.length = 0 := by simpa using z
          refine ⟨_, rfl, rfl, _, rfl, ite2 (fun _ => ⟨(by show 1 ≤ sizeLine; decide), fun l hl => Gives.noS k W ?_ s1 hl⟩) (fun h3 => absurd rfl h3)⟩
          rcases bt with ⟨b1, _⟩ | ⟨j, _, b2, _⟩
          · unfold Su55.does; dsimp only
            rw [if_neg n1, b1]
          · omega
        · obtain ⟨i0, hi0, rfl⟩ := List.mem_map.mp hm
          rw [List.mem_range] at hi0
          have hmax' : ∀ i, i < a.routes.length → cnt a c i ≤ cnt a c i0 := fun i hi => by
            have := hmax _ (List.mem_map.mpr ⟨i, List.mem_range.mpr hi, rfl⟩)
            omega
          refine ⟨_, rfl, rfl, _, rfl, ite2 (fun h3 => ⟨(by show 1 ≤ sizeLine; decide), fun l hl => Gives.noS k W ?_ s1 hl⟩) (fun h3 => ?_)⟩
          · rw [int_eq] at h3
            rcases bt with ⟨b1, _⟩ | ⟨j, _, b2, b3, _⟩
            · unfold Su55.does; dsimp only
              rw [if_neg n1, b1]
            · have := hmax' j b2
              omega
          · rw [int_eq] at h3
            rcases bt with ⟨_, b1⟩ | ⟨j, b1, b2, b3, b4, b5⟩
            · exact absurd (by rw [b1 i0 hi0]; rfl) h3
            · have ej : cnt a c i0 = cnt a c j := Nat.le_antisymm (b4 i0 hi0) (hmax' j b2)
              rw [ej]
              have gt : ∀ i, i < a.routes.length → (((List.range a.routes.length).map fun i => ((cnt a c i : Nat) : Int)).map V.int)[i]? = some (nV (cnt a c i)) := fun i hi => by
                rw [List.getElem?_map, List.getElem?_map, List.getElem?_range hi]
                rfl
              refine ⟨_, rfl, .inl ⟨rfl, _, SqL.of hl'⟩, _, rfl, B, _, _, j, _, rfl, rfl, SqL.of hl', rfl, ?_, gt j b2, ?_, fun i z' hi hz => ?_, _, rfl, (by show 2 ≤ sizeLine; decide), fun l hl => ?_⟩
              · rw [List.all_map, List.all_eq_true]
                exact fun _ _ => rfl
              · show (((cnt a c j : Nat) : Int) == ((cnt a c j : Nat) : Int)) = true
                exact beq_self_eq_true _
              · have hi2 : i < a.routes.length := by omega
                rw [gt i hi2] at hz
                obtain rfl := Option.some.inj hz
                have := b5 i hi
                show ((((cnt a c i : Nat) : Int) == ((cnt a c j : Nat) : Int)) = false)
                exact beq_eq_false_iff_ne.mpr (by omega)
              · refine Gives.now (r := Su55.num j [cnt a c j]) k W ?_ s1 hl
                unfold Su55.does; dsimp only
                rw [if_neg n1, b1]
end
end Cw
end
section
set_option Elab.async false
set_option linter.all false
set_option maxRecDepth 100000
set_option maxHeartbeats 2000000
namespace Cw
open PySem PySem.Spec PyProof.Rows L2
open Su55 (Abs)
section
variable {P : Program} {w : World} {K : PySem.W.Frag} {mg : Str → Option Value} {base : Heap} {D : Dat}
def sp_would_get_up (K : PySem.W.Frag) (D : Dat) : Sp := fun vs H Q _ => ∃ (L : Lay) (a : Abs) (r n st : Nat), vs = [.ref L.p, nV r, nV n, nV st] ∧ WallAt D H L true a ∧ Wf a ∧ r < a.routes.length ∧ n ≤ 71 ∧ ∀ H', Same H H' → Q (.bl (a.up n st (a.route r).holds).isSome) H'
theorem ok_would_get_up (T : Txt K mg D) : FnOk P w K mg base CX0 6 D.f_would_get_up D.d_would_get_up ["wall", "r", "reach", "strength"] (sp_would_get_up K D) := by
  refine T.fun_would_get_up.ok sc_would_get_up (fun vs H Q E h => ?_) (fun cdv A oenv s H vs Q E hr h => ?_)
  · obtain ⟨L, a, r, n, st, rfl, _⟩ := h
    rfl
  · obtain ⟨L, a, r, n, st, rfl, W, wf, hr', hn, k⟩ := h
    obtain ⟨dx, hw⟩ := W.wall
    obtain ⟨rp, drr, ls, g4, g5, _, g7, g8⟩ := W.routeAt hr'
    refine ⟨_, (pss_one (ps_ret (pe_cmpR (op_neD hr.units) (pe_call (ok_first_way T) (hr.mono (by decide)) rfl T.g_first_way T.fun_first_way.kp T.b_first_way .nil pass0 (pa_cons (pe_fld (pv 0) rfl) (pa_cons (pe_fld (pe_ix ix_list (pe_fld (pv 0) rfl) (pv 1) (fun _ _ => rfl)) rfl) (pa_cons (pe_make T.mk_Climber (ok_Climber T) (hr.mono (by decide)) rfl T.g_Climber T.b_Climber .nil pass0 (pa_cons (pv 2) (pa_cons (pv 3) (pa_cons pe_bl pa_nil)))) pa_nil)))) (pe_lst pa_nil) (nomark _)))), ?_⟩
    refine ⟨_, rfl, L.p, _, dx, _, _, rfl, hw, T.cl_Wall, T.na_Wall_holds, lk_holds _ _ _ _ _, _, rfl, L.p, _, dx, _, _, rfl, hw, T.cl_Wall, T.na_Wall_routes, lk_routes _ _ _ _ _, _, rfl, L.rl, _, _, _, rfl, rfl, SqL.of W.rl, atI_nat (ref_at g4), rp, _, drr, _, _, rfl, g7, T.cl_Route, T.na_Route_stops, lk_stops _ _, _, rfl, _, rfl, fun q dq hq hdq hne => ⟨q, dq, _, _, _, rfl, upd_same, rfl, ?_⟩⟩
    have s2 : Same H (upd (upd (upd H dq (.own q)) q (.ins D.c_Climber dq [])) q (.ins D.c_Climber dq (fClimber ⟨n, st, false, 0, 0⟩))) := fun c u e => by
      rw [upd_ne (ne_of_none e hq), upd_ne (ne_of_none e hq), upd_ne (ne_of_none e hdq)]
      exact e
    refine ⟨L, true, a, ls, q, dq, ⟨n, st, false, 0, 0⟩, (a.route r).holds, rfl, W.same s2, wf, s2 _ _ g8, stops_of wf hr', upd_same, hn, fun H1 l s1 M => ⟨Nat.zero_le _, fun e he => ne_empty (M.same (same_new he)) upd_same ?_⟩⟩
    have k2 := k _ ((s2.trans s1).trans (same_new (o := .lst []) he))
    rw [some_iff (stops_of wf hr')] at k2
    exact k2
def sp_least_reach (K : PySem.W.Frag) (D : Dat) : Sp := fun vs H Q _ => ∃ (L : Lay) (a : Abs) (r : Nat), vs = [.ref L.p, nV r] ∧ WallAt D H L true a ∧ Wf a ∧ Gives D H L a (.reach r) Q
theorem ok_least_reach (T : Txt K mg D) : FnOk P w K mg base CX0 7 D.f_least_reach D.d_least_reach ["wall", "r"] (sp_least_reach K D) := by
  refine T.fun_least_reach.ok sc_least_reach (fun vs H Q E h => ?_) (fun cdv A oenv s H vs Q E hr h => ?_)
  · obtain ⟨L, a, r, rfl, _⟩ := h
    rfl
  · obtain ⟨L, a, r, rfl, W, wf, k⟩ := h
    obtain ⟨dx, hw⟩ := W.wall
    refine ⟨_, (pss_cons (ps_if (pt_cmpR op_ge (pv 1) (pe_callB cr_len rfl T.n_len bt_len (pa_cons (pe_fld (pv 0) rfl) pa_nil)) (nomark _)) (pss_one (ps_ret (pe_lst (pa_cons (pe_const rfl T.k_NO_SUCH) pa_nil)))) pss_nil)
  (pss_cons (ps_set (i := 2) sc_least_reach.nd rfl loc_ pe_int)
  (pss_cons (ps_set (i := 3) sc_least_reach.nd rfl loc_ (pe_op op_add (pe_const rfl T.k_MOST_REACH) pe_int))
  (pss_cons (ps_while PassesOwn.never (pt_cmpR op_lt (pv 2) (pv 3) (nomark _))
  (pss_cons (ps_set (i := 4) sc_least_reach.nd rfl loc_ (pe_op op_fdiv (pe_op op_add (pv 2) (pv 3)) pe_int))
  (pss_one (ps_if (pt_val (pe_call (ok_would_get_up T) (hr.mono (by decide)) rfl T.g_would_get_up T.fun_would_get_up.kp T.b_would_get_up .nil pass0 (pa_cons (pv 0) (pa_cons (pv 1) (pa_cons (pv 4) (pa_cons (pe_const rfl T.k_MOST_STRENGTH) pa_nil)))))) (pss_one (ps_set (i := 3) sc_least_reach.nd rfl loc_ (pv 4))) (pss_one (ps_set (i := 2) sc_least_reach.nd rfl loc_ (pe_op op_add (pv 4) pe_int)))))))
  (pss_cons (ps_if (pt_cmpR op_gt (pv 2) (pe_const rfl T.k_MOST_REACH) (nomark _)) (pss_one (ps_ret (pe_lst (pa_cons (pe_const rfl T.k_NO_WAY) pa_nil)))) pss_nil)
  (pss_one (ps_ret (pe_lst (pa_cons (pv 2) pa_nil))))))))), ?_⟩
    refine ⟨_, rfl, _, rfl, L.p, _, dx, _, _, rfl, hw, T.cl_Wall, T.na_Wall_routes, lk_routes _ _ _ _ _, L.rl, _, rfl, .inl (SqL.of W.rl), _, _, rfl, rfl, _, rfl, ite2 (fun h1 => ⟨(by show 1 ≤ sizeLine; decide), fun l hl => Gives.no k W ?_ hl⟩) (fun h1 => ?_)⟩
    · rw [decide_eq_true_eq, List.length_map, W.nr] at h1
      unfold Su55.does; dsimp only
      rw [if_pos (isR_iff.mpr (by omega))]
    · rw [decide_eq_true_eq, List.length_map, W.nr] at h1
      have hlt : r < a.routes.length := by omega
      have n1 : ¬ a.isR r = false := fun z => by have := isR_iff.mp z; omega
      have st := stops_of wf hlt
      have mono : ∀ {i j : Nat}, i ≤ j → (a.up i 9 (a.route r).holds).isSome = true → (a.up j 9 (a.route r).holds).isSome = true := fun hij q => up_mono (by have := st.two; omega) st.ends hij q
      refine ⟨_, _, rfl, rfl, fun m σ H' => ∃ (lo hi : Nat) (v4 : Option V), m = hi - lo ∧ σ = [some (V.ref L.p), some (nV r), some (nV lo), some (nV hi), v4] ∧ Same H H' ∧ lo ≤ hi ∧ hi ≤ 72 ∧ (∀ j, j < lo → (a.up j 9 (a.route r).holds).isSome = false) ∧ (∀ j, hi ≤ j → j ≤ 71 → (a.up j 9 (a.route r).holds).isSome = true),
        ⟨72, 0, 72, none, rfl, rfl, Same.refl _, by omega, by omega, fun j hj => by omega, fun j h1 h2 => by omega⟩, ?_⟩
      rintro m σ H' ⟨lo, hi, v4, rfl, rfl, s1, hle, h72, hlo, hhi⟩
      refine ⟨_, rfl, _, rfl, _, _, rfl, rfl, _, rfl, ite2 (fun h2 => ?_) (fun h2 => ?_)⟩
      · rw [decide_eq_true_eq] at h2
        refine ⟨fun σ' H'' => ∃ (lo' hi' : Nat) (v4 : Option V), hi' - lo' < hi - lo ∧ σ' = [some (V.ref L.p), some (nV r), some (nV lo'), some (nV hi'), v4] ∧ Same H H'' ∧ lo' ≤ hi' ∧ hi' ≤ 72 ∧ (∀ j, j < lo' → (a.up j 9 (a.route r).holds).isSome = false) ∧ (∀ j, hi' ≤ j → j ≤ 71 → (a.up j 9 (a.route r).holds).isSome = true),
          fun σ' H'' ⟨lo', hi', v, q1, q2, q3, q4, q5, q6, q7⟩ => ⟨_, q1, lo', hi', v, rfl, q2, q3, q4, q5, q6, q7⟩, ?_⟩
        refine ⟨_, rfl, _, rfl, _, _, rfl, rfl, _, _, rfl, rfl, ⟨by decide, by decide⟩, ?_⟩
        refine ⟨_, rfl, _, rfl, _, rfl, L, a, r, (lo + hi) / 2, 9, rfl, W.same s1, wf, hlt, by omega, fun H2 s2 => ⟨_, rfl, ite2 (fun h3 => ?_) (fun h3 => ?_)⟩⟩
        · exact ⟨_, rfl, lo, (lo + hi) / 2, _, by omega, rfl, s1.trans s2, by omega, by omega, hlo, fun j q1 q2 => mono q1 h3⟩
        · refine ⟨_, rfl, _, _, rfl, rfl, (lo + hi) / 2 + 1, hi, _, by omega, rfl, s1.trans s2, by omega, by omega, fun j hj => ?_, hhi⟩
          cases e : (a.up j 9 (a.route r).holds).isSome with
          | false => rfl
          | true => exact absurd (mono (by omega) e) h3
      · rw [decide_eq_true_eq] at h2
        have elh : lo = hi := by omega
        subst elh
        refine ⟨_, rfl, _, _, rfl, rfl, _, rfl, ite2 (fun h3 => ⟨(by show 1 ≤ sizeLine; decide), fun l hl => Gives.noS k W ?_ s1 hl⟩) (fun h3 => ⟨_, rfl, (by show 1 ≤ sizeLine; decide), fun l hl => Gives.now (r := Su55.num lo []) k W ?_ s1 hl⟩)⟩
        · rw [decide_eq_true_eq] at h3
          unfold Su55.does; dsimp only
          rw [if_neg n1, reach_none fun j hj => hlo j (by omega)]
        · rw [decide_eq_true_eq] at h3
          unfold Su55.does; dsimp only
          rw [if_neg n1, reach_is (by omega) (hhi lo (Nat.le_refl _) (by omega)) hlo]
def sp_least_strength (K : PySem.W.Frag) (D : Dat) : Sp := fun vs H Q _ => ∃ (L : Lay) (a : Abs) (r : Nat), vs = [.ref L.p, nV r] ∧ WallAt D H L true a ∧ Wf a ∧ Gives D H L a (.strong r) Q
theorem ok_least_strength (T : Txt K mg D) : FnOk P w K mg base CX0 7 D.f_least_strength D.d_least_strength ["wall", "r"] (sp_least_strength K D) := by
  refine T.fun_least_strength.ok sc_least_strength (fun vs H Q E h => ?_) (fun cdv A oenv s H vs Q E hr h => ?_)
  · obtain ⟨L, a, r, rfl, _⟩ := h
    rfl
  · obtain ⟨L, a, r, rfl, W, wf, k⟩ := h
    obtain ⟨dx, hw⟩ := W.wall
    refine ⟨_, (pss_cons (ps_if (pt_cmpR op_ge (pv 1) (pe_callB cr_len rfl T.n_len bt_len (pa_cons (pe_fld (pv 0) rfl) pa_nil)) (nomark _)) (pss_one (ps_ret (pe_lst (pa_cons (pe_const rfl T.k_NO_SUCH) pa_nil)))) pss_nil)
  (pss_cons (ps_for PassesOwn.never rfl (pi_range2 rfl T.n_range (pa_cons pe_int (pa_cons (pe_op op_add (pe_const rfl T.k_MOST_STRENGTH) pe_int) pa_nil))) (pg_name (i := 2) sc_least_strength.nd rfl loc_)
  (pss_one (ps_if (pt_val (pe_call (ok_would_get_up T) (hr.mono (by decide)) rfl T.g_would_get_up T.fun_would_get_up.kp T.b_would_get_up .nil pass0 (pa_cons (pv 0) (pa_cons (pv 1) (pa_cons (pe_const rfl T.k_MOST_REACH) (pa_cons (pv 2) pa_nil)))))) (pss_one (ps_ret (pe_lst (pa_cons (pv 2) pa_nil)))) pss_nil)))
  (pss_one (ps_ret (pe_lst (pa_cons (pe_const rfl T.k_NO_WAY) pa_nil)))))), ?_⟩
    refine ⟨_, rfl, _, rfl, L.p, _, dx, _, _, rfl, hw, T.cl_Wall, T.na_Wall_routes, lk_routes _ _ _ _ _, L.rl, _, rfl, .inl (SqL.of W.rl), _, _, rfl, rfl, _, rfl, ite2 (fun h1 => ⟨(by show 1 ≤ sizeLine; decide), fun l hl => Gives.no k W ?_ hl⟩) (fun h1 => ?_)⟩
    · rw [decide_eq_true_eq, List.length_map, W.nr] at h1
      unfold Su55.does; dsimp only
      rw [if_pos (isR_iff.mpr (by omega))]
    · rw [decide_eq_true_eq, List.length_map, W.nr] at h1
      have hlt : r < a.routes.length := by omega
      have n1 : ¬ a.isR r = false := fun z => by have := isR_iff.mp z; omega
      refine ⟨_, _, rfl, rfl, _, _, rfl, ⟨by decide, by decide, by decide, by decide⟩, ?_⟩
      refine for_range (lo := 1) (n := 9) (fun i σ H' => ∃ v2 : Option V, σ = [some (V.ref L.p), some (nV r), v2] ∧ Same H H' ∧ ∀ j, 1 ≤ j → j ≤ i → (a.up 71 j (a.route r).holds).isSome = false) ⟨none, rfl, Same.refl _, fun j h1 h2 => by omega⟩ ?_ ?_
      · rintro i σ H' hi ⟨v2, rfl, s1, hno⟩
        have e0 : (1 : Int) + (i : Int) = ((i + 1 : Nat) : Int) := by omega
        rw [e0]
        refine ⟨_, rfl, _, rfl, _, rfl, L, a, r, 71, i + 1, rfl, W.same s1, wf, hlt, by omega, fun H2 s2 => ⟨_, rfl, ite2 (fun h3 => ⟨_, rfl, (by show 1 ≤ sizeLine; decide), fun l hl => Gives.now (r := Su55.num (i + 1) []) k W ?_ (s1.trans s2) hl⟩) (fun h3 => ⟨_, rfl, s1.trans s2, fun j h1 h2 => ?_⟩)⟩⟩
        · have e : a.leastStrength r = some (i + 1) := strength_is (p := fun n => (a.up Su55.FAR n (a.route r).holds).isSome) (by omega) (by omega) h3 (fun j h1 h2 => hno j h1 (by omega))
          unfold Su55.does; dsimp only
          rw [if_neg n1, e]
        · by_cases q : j = i + 1
          · subst q
            exact Bool.eq_false_iff.mpr h3
          · exact hno j h1 (by omega)
      · rintro σ H' ⟨v2, rfl, s1, hno⟩
        refine ⟨(by show 1 ≤ sizeLine; decide), fun l hl => Gives.noS k W ?_ s1 hl⟩
        have e : a.leastStrength r = none := strength_none (p := fun n => (a.up Su55.FAR n (a.route r).holds).isSome) hno
        unfold Su55.does; dsimp only
        rw [if_neg n1, e]
theorem Stops.without {a : Abs} {l : List Nat} (s : Stops a l) {h : Nat} (q : h ∈ Su55.inner l) : Stops a (l.filter fun i => i != h) := by
  have e := without_len s.nd q
  have := inner_len q
  exact ⟨by omega, Nat.le_trans (List.length_filter_le _ _) s.few, s.nd.filter _, fun x hx => s.lt x (List.mem_filter.mp hx).1⟩
theorem ne_nat (m n : Nat) : (!decide (nV m = nV n)) = (m != n) := by rw [eq_nat]; rfl
def sp_gets_up_without (K : PySem.W.Frag) (D : Dat) : Sp := fun vs H Q _ => ∃ (L : Lay) (a : Abs) (c r h : Nat), vs = [.ref L.p, nV c, nV r, nV h] ∧ WallAt D H L true a ∧ Wf a ∧ c < a.climbers.length ∧ r < a.routes.length ∧ h ∈ Su55.inner (a.route r).holds ∧
  ∀ H', Same H H' → Q (.bl (a.up (a.climber c).reach (a.climber c).strength ((a.route r).holds.filter fun i => i != h)).isSome) H'
theorem ok_gets_up_without (T : Txt K mg D) : FnOk P w K mg base CX0 6 D.f_gets_up_without D.d_gets_up_without ["wall", "c", "r", "h"] (sp_gets_up_without K D) := by
  refine T.fun_gets_up_without.ok sc_gets_up_without (fun vs H Q E h => ?_) (fun cdv A oenv s H vs Q E hr h => ?_)
  · obtain ⟨L, a, c, r, h, rfl, _⟩ := h
    rfl
  · obtain ⟨L, a, c, r, h, rfl, W, wf, hc, hr', hin, k⟩ := h
    obtain ⟨dx, hw⟩ := W.wall
    obtain ⟨q, dq, g1, g2, g3⟩ := W.climberAt hc
    obtain ⟨rp, drr, ls, g4, g5, _, g7, g8⟩ := W.routeAt hr'
    have st := stops_of wf hr'
    refine ⟨_, (pss_cons (ps_setLc rfl sc_gets_up_without.nd (i := 4) rfl rfl (sw_true rfl rfl rfl rfl) (pi_list (pe_fld (pe_ix ix_list (pe_fld (pv 0) rfl) (pv 2) (fun _ _ => rfl)) rfl)) (own := [("stop", 5)]) (tt := (tTest (tOp rNe (tVar 5) (tVar 3)))) (te := (tVar 5)) (blkOk_by rfl) (fun _ _ _ _ _ => pg_name (i := 5) sc_gets_up_without.nd rfl loc_) (fun _ _ _ _ _ => (pts_one (pt_cmpR op_ne (pv 5) (pv 3) (nomark _)))) (fun _ _ _ _ _ => (pv 5)))
  (pss_one (ps_ret (pe_cmpR (op_neD hr.units) (pe_call (ok_first_way T) (hr.mono (by decide)) rfl T.g_first_way T.fun_first_way.kp T.b_first_way .nil pass0 (pa_cons (pe_fld (pv 0) rfl) (pa_cons (pv 4) (pa_cons (pe_ix ix_list (pe_fld (pv 0) rfl) (pv 1) (fun _ _ => rfl)) pa_nil)))) (pe_lst pa_nil) (nomark _))))), ?_⟩
    refine ⟨_, rfl, L.p, _, dx, _, _, rfl, hw, T.cl_Wall, T.na_Wall_routes, lk_routes _ _ _ _ _, _, rfl, L.rl, _, _, _, rfl, rfl, SqL.of W.rl, atI_nat (ref_at g4), rp, _, drr, _, _, rfl, g7, T.cl_Route, T.na_Route_stops, lk_stops _ _, ls, rfl, ⟨_, SqL.of g8⟩, fun B hB => ?_⟩
    refine lc_same (fun i => (a.route r).holds.getD i 0 != h) (fun i => nV ((a.route r).holds.getD i 0)) (SqL.of g8) hB (by rw [List.length_map]; have := st.few; omega) (fun i v H1 acc hi s1 hl hz1 N k1 => ?_) (fun H1 s1 hl => ?_)
    · obtain ⟨x, hx, rfl⟩ : ∃ x, (a.route r).holds[i]? = some x ∧ v = nV x := by
        rw [List.getElem?_map] at hi
        cases e : (a.route r).holds[i]? with
        | none => rw [e] at hi; cases hi
        | some t => rw [e] at hi; exact ⟨t, rfl, (Option.some.inj hi).symm⟩
      have ex : (a.route r).holds.getD i 0 = x := by rw [List.getD_eq_getElem?_getD, hx]; rfl
      have k2 := k1 H1 (Same.refl _)
      rw [ex] at k2
      refine ⟨rfl, _, rfl, _, rfl, rfl, _, rfl, ite2 (fun h1 => ?_) (fun h1 => ?_)⟩
      · rw [ne_nat] at h1
        rw [if_pos h1] at k2
        exact ⟨_, rfl, acc, hl, hz1, k2⟩
      · rw [ne_nat] at h1
        rw [if_neg h1] at k2
        exact k2
    · rw [List.length_map, filter_getD (fun x => x != h) 0] at hl
      have W1 := W.same s1
      obtain ⟨dx, hw⟩ := W1.wall
      refine ⟨_, rfl, L.p, _, dx, _, _, rfl, hw, T.cl_Wall, T.na_Wall_holds, lk_holds _ _ _ _ _, _, rfl, _, rfl, L.p, _, dx, _, _, rfl, hw, T.cl_Wall, T.na_Wall_climbers, lk_climbers _ _ _ _ _, _, rfl, L.cl, _, _, _, rfl, rfl, SqL.of W1.cl, atI_nat (ref_at g1), L, true, a, B, q, dq, a.climber c, (a.route r).holds.filter fun i => i != h, rfl, W1, wf, hl, st.without hin, s1 _ _ g3, reach_of wf hc, fun H2 l s2 M => ⟨Nat.zero_le _, fun e he => ne_empty (M.same (same_new he)) upd_same ?_⟩⟩
      have k2 := k _ ((s1.trans s2).trans (same_new (o := .lst []) he))
      rw [some_iff (st.without hin)] at k2
      exact k2
theorem cut_inner {l : List Nat} (h : 2 ≤ l.length) : cutV (l.map nV) (some 1) (some (-1)) = (Su55.inner l).map nV := by
  unfold cutV Su55.inner
  have e1 : HT.sIx (l.map nV).length 0 (some 1) = 1 := by
    rw [List.length_map]
    show min (1 : Int).toNat l.length = 1
    have : (1 : Int).toNat = 1 := rfl
    omega
  have e2 : HT.sIx (l.map nV).length (l.map nV).length (some (-1)) = l.length - 1 := by
    rw [List.length_map]
    show ((-1 : Int) + (l.length : Int)).toNat = l.length - 1
    omega
  rw [e1, e2, ← List.map_drop, ← List.map_take, List.dropLast_eq_take, List.length_drop]
theorem filter_isNone (a : Abs) (n s : Nat) (l : List Nat) (h : Nat) : (a.up n s (l.filter fun i => i != h)).isNone = !(a.up n s (l.filter fun i => i != h)).isSome := by
  cases a.up n s (l.filter fun i => i != h) <;> rfl
def sp_needed_holds (K : PySem.W.Frag) (D : Dat) : Sp := fun vs H Q _ => ∃ (L : Lay) (a : Abs) (c r : Nat), vs = [.ref L.p, nV c, nV r] ∧ WallAt D H L true a ∧ Wf a ∧ Gives D H L a (.needed c r) Q
theorem ok_needed_holds (T : Txt K mg D) : FnOk P w K mg base CX0 7 D.f_needed_holds D.d_needed_holds ["wall", "c", "r"] (sp_needed_holds K D) := by
  refine T.fun_needed_holds.ok sc_needed_holds (fun vs H Q E h => ?_) (fun cdv A oenv s H vs Q E hr h => ?_)
  · obtain ⟨L, a, c, r, rfl, _⟩ := h
    rfl
  · obtain ⟨L, a, c, r, rfl, W, wf, k⟩ := h
    refine ⟨_, (pss_cons (ps_if (pt_not (pt_val (pe_call (ok_are_there T) (hr.mono (by decide)) rfl T.g_are_there T.fun_are_there.kp T.b_are_there .nil pass0 (pa_cons (pv 0) (pa_cons (pv 1) (pa_cons (pv 2) pa_nil)))))) (pss_one (ps_ret (pe_lst (pa_cons (pe_const rfl T.k_NO_SUCH) pa_nil)))) pss_nil)
  (pss_cons (ps_if (pt_not (pt_truth (pe_call (ok_way_of T) (hr.mono (by decide)) rfl T.g_way_of T.fun_way_of.kp T.b_way_of .nil pass0 (pa_cons (pv 0) (pa_cons (pv 1) (pa_cons (pv 2) pa_nil)))) (fun _ => rfl))) (pss_one (ps_ret (pe_lst (pa_cons (pe_const rfl T.k_NO_WAY) pa_nil)))) pss_nil)
  (pss_cons (ps_set (i := 3) sc_needed_holds.nd rfl loc_ (pe_callB cr_sorted rfl T.n_sorted bt_sorted (pa_cons (pe_slice sl_list (pe_fld (pe_ix ix_list (pe_fld (pv 0) rfl) (pv 2) (fun _ _ => rfl)) rfl) (po_some pe_int) (po_some (pe_un un_neg pe_int))) pa_nil)))
  (pss_cons (ps_setLc rfl sc_needed_holds.nd (i := 4) rfl rfl (sw_true rfl rfl rfl rfl) (pi_list (pv 3)) (own := [("h", 5)]) (tt := (tNot (tB (tCall (sp_gets_up_without K D) [] E0 (tCons (tVar 0) (tCons (tVar 1) (tCons (tVar 2) (tCons (tVar 5) tNil)))))))) (te := (tVar 5)) (blkOk_by rfl) (fun _ _ _ _ _ => pg_name (i := 5) sc_needed_holds.nd rfl loc_) (fun _ _ _ _ _ => (pts_one (pt_not (pt_val (pe_call (ok_gets_up_without T) (hr.mono (by decide)) rfl T.g_gets_up_without T.fun_gets_up_without.kp T.b_gets_up_without .nil pass0 (pa_cons (pv 0) (pa_cons (pv 1) (pa_cons (pv 2) (pa_cons (pv 5) pa_nil))))))))) (fun _ _ _ _ _ => (pv 5)))
  (pss_one (ps_ret (pe_op op_cat (pe_lst (pa_cons (pe_callB cr_len rfl T.n_len bt_len (pa_cons (pv 4) pa_nil)) pa_nil)) (pv 4)))))))), ?_⟩
    refine ⟨_, rfl, _, rfl, _, rfl, L, true, a, c, r, rfl, W, _, rfl, ite2 (fun h1 => ⟨(by show 1 ≤ sizeLine; decide), fun l hl => Gives.no k W ?_ hl⟩) (fun h1 => ?_)⟩
    · unfold Su55.does; dsimp only
      rw [if_pos (there_no h1)]
    · obtain ⟨n1, hc, hr'⟩ := there_yes h1
      refine ⟨_, rfl, _, rfl, _, rfl, L, true, a, c, r, rfl, W, wf, hc, hr', fun H1 l s1 M => ?_⟩
      obtain ⟨ts, h2, h3, h4, h5⟩ := empty_moves M
      refine ⟨_, .inl ⟨_, SqL.of h2, rfl⟩, ?_⟩
      rw [h5, ← can_iff wf hr']
      refine ite2 (fun h6 => ⟨(by show 1 ≤ sizeLine; decide), fun n hn => Gives.noS k W ?_ s1 hn⟩) (fun h6 => ?_)
      · rw [Bool.not_eq_true'] at h6
        unfold Su55.does; dsimp only
        rw [if_neg n1, if_pos h6]
      · rw [Bool.not_eq_true', Bool.not_eq_false] at h6
        have W1 := W.same s1
        obtain ⟨dx, hw⟩ := W1.wall
        obtain ⟨rp, drr, ls, g4, g5, _, g7, g8⟩ := W1.routeAt hr'
        have st := stops_of wf hr'
        refine ⟨_, rfl, L.p, _, dx, _, _, rfl, hw, T.cl_Wall, T.na_Wall_routes, lk_routes _ _ _ _ _, _, rfl, L.rl, _, _, _, rfl, rfl, SqL.of W1.rl, atI_nat (ref_at g4), rp, _, drr, _, _, rfl, g7, T.cl_Route, T.na_Route_stops, lk_stops _ _, _, rfl, _, rfl, _, rfl, ls, _, rfl, SqL.of g8, fun b hb => ?_⟩
        rw [cut_inner st.two]
        have s2 := same_new (o := .lst ((Su55.inner (a.route r).holds).map nV)) hb
        refine ⟨b, (Su55.inner (a.route r).holds).map (fun (n : Nat) => (n : Int)), rfl, SqL.of (by rw [upd_same, nV_ints]), ?_, fun ns' u hp hs hu => ?_⟩
        · rw [List.length_map]
          unfold Su55.inner
          rw [List.length_dropLast, List.length_drop]
          have := st.few
          omega
        · rw [sorted_ints hp hs]
          have s3 := same_new (o := .lst ((Su55.sorted (Su55.inner (a.route r).holds)).map nV)) hu
          have s13 := (s1.trans s2).trans s3
          refine ⟨_, rfl, u, rfl, ⟨_, SqL.of upd_same⟩, fun B hB => ?_⟩
          refine lc_same (fun i => (a.up (a.climber c).reach (a.climber c).strength ((a.route r).holds.filter fun j => j != (Su55.sorted (Su55.inner (a.route r).holds)).getD i 0)).isNone) (fun i => nV ((Su55.sorted (Su55.inner (a.route r).holds)).getD i 0)) (SqL.of upd_same) hB ?_ (fun i v H4 acc hi s4 hl hz1 N k1 => ?_) (fun H4 s4 hl => ?_)
          · rw [List.length_map, (sorted_perm _).length_eq]
            unfold Su55.inner
            rw [List.length_dropLast, List.length_drop]
            have := st.few
            omega
          · obtain ⟨x, hx, rfl⟩ : ∃ x, (Su55.sorted (Su55.inner (a.route r).holds))[i]? = some x ∧ v = nV x := by
              rw [List.getElem?_map] at hi
              cases e : (Su55.sorted (Su55.inner (a.route r).holds))[i]? with
              | none => rw [e] at hi; cases hi
              | some t => rw [e] at hi; exact ⟨t, rfl, (Option.some.inj hi).symm⟩
            have ex : (Su55.sorted (Su55.inner (a.route r).holds)).getD i 0 = x := by rw [List.getD_eq_getElem?_getD, hx]; rfl
            have hin : x ∈ Su55.inner (a.route r).holds := (sorted_perm _).mem_iff.mp (List.mem_of_getElem? hx)
            refine ⟨rfl, _, rfl, _, rfl, _, rfl, _, rfl, L, a, c, r, x, rfl, W.same (s13.trans s4), wf, hc, hr', hin, fun H5 s5 => ⟨_, rfl, ?_⟩⟩
            have k2 := k1 H5 s5
            rw [ex, filter_isNone] at k2
            refine ite2 (fun h7 => ?_) (fun h7 => ?_)
            · rw [if_pos h7] at k2
              exact ⟨_, rfl, acc, s5 _ _ hl, hz1, k2⟩
            · rw [if_neg h7] at k2
              exact k2
          · rw [List.length_map, filter_getD (fun x => (a.up (a.climber c).reach (a.climber c).strength ((a.route r).holds.filter fun j => j != x)).isNone) 0] at hl
            refine ⟨_, rfl, B, _, rfl, .inl (SqL.of hl), (by show 1 ≤ sizeLine; decide), fun e he => ⟨_, rfl, e, B, _, _, rfl, rfl, upd_same, (same_new he _ _ hl), Nat.le_of_lt (small1000 ?_), fun p hp => ?_⟩⟩
            · rw [List.length_map]
              have q1 := List.length_filter_le (fun x => (a.up (a.climber c).reach (a.climber c).strength ((a.route r).holds.filter fun j => j != x)).isNone) (Su55.sorted (Su55.inner (a.route r).holds))
              rw [(sorted_perm _).length_eq] at q1
              have q2 : (Su55.inner (a.route r).holds).length ≤ (a.route r).holds.length := by
                unfold Su55.inner
                rw [List.length_dropLast, List.length_drop]
                omega
              have := st.few
              show 1 + _ ≤ 1000
              omega
            · rw [list_nV]
              refine Gives.now k W ?_ ((s13.trans s4).trans (same_new he)) hp
              unfold Su55.does; dsimp only
              rw [if_neg n1, if_neg (by rw [h6]; simp)]
              rfl
end
end Cw
end
section
set_option Elab.async false
set_option linter.all false
set_option maxRecDepth 100000
set_option maxHeartbeats 2000000
namespace Cw
open PySem PySem.Spec PyProof.Rows L2
open Su55 (Abs)
section
variable {P : Program} {w : World} {K : PySem.W.Frag} {mg : Str → Option Value} {base : Heap} {D : Dat}
theorem far_le {a : Abs} (wf : Wf a) {h i : Nat} (h1 : h < a.holds.length) (h2 : i < a.holds.length) : farH (a.hold h) (a.hold i) ≤ 5000 := by
  have q : ∀ {j : Nat}, j < a.holds.length → (a.hold j).x ≤ 50 ∧ (a.hold j).y ≤ 50 := fun {j} hj => by
    have e : a.holds[j]? = some (a.hold j) := by
      unfold Abs.hold
      rw [List.getD_eq_getElem?_getD, List.getElem?_eq_getElem hj]
      rfl
    have := wf.hold _ (List.mem_of_getElem? e)
    exact ⟨this.1, this.2.1⟩
  obtain ⟨x1, y1⟩ := q h1
  obtain ⟨x2, y2⟩ := q h2
  unfold farH Su55.gap
  have g1 : (a.hold h).x - (a.hold i).x + ((a.hold i).x - (a.hold h).x) ≤ 50 := by omega
  have g2 : (a.hold h).y - (a.hold i).y + ((a.hold i).y - (a.hold h).y) ≤ 50 := by omega
  have m1 := Nat.mul_le_mul g1 g1
  have m2 := Nat.mul_le_mul g2 g2
  omega
theorem place_of {a : Abs} (wf : Wf a) {j : Nat} (hj : j < a.holds.length) : (a.hold j).x ≤ 50 ∧ (a.hold j).y ≤ 50 := by
  have e : a.holds[j]? = some (a.hold j) := by
    unfold Abs.hold
    rw [List.getD_eq_getElem?_getD, List.getElem?_eq_getElem hj]
    rfl
  have := wf.hold _ (List.mem_of_getElem? e)
  exact ⟨this.1, this.2.1⟩
def sp_least_root (K : PySem.W.Frag) (D : Dat) : Sp := fun vs H Q _ => ∃ n : Nat, vs = [nV n] ∧ n ≤ 5000 ∧ Q (nV (Su55.root n)) H
theorem ok_least_root (T : Txt K mg D) : FnOk P w K mg base CX0 1 D.f_least_root D.d_least_root ["squared"] (sp_least_root K D) := by
  refine T.fun_least_root.ok sc_least_root (fun vs H Q E h => ?_) (fun cdv A oenv s H vs Q E hr h => ?_)
  · obtain ⟨n, rfl, _⟩ := h
    rfl
  · obtain ⟨n, rfl, hn, k⟩ := h
    refine ⟨_, (pss_cons (ps_set (i := 1) sc_least_root.nd rfl loc_ pe_int)
  (pss_cons (ps_while PassesOwn.never (pt_cmpR op_lt (pe_op op_mul (pv 1) (pv 1)) (pv 0) (nomark _))
  (pss_one (ps_aug (i := 1) sc_least_root.nd rfl loc_ pe_int ip_add)))
  (pss_one (ps_ret (pv 1))))), ?_⟩
    refine ⟨fun m σ H' => ∃ x : Nat, m = 71 - x ∧ x ≤ 71 ∧ σ = [some (nV n), some (nV x)] ∧ H' = H ∧ ∀ j, j < x → j * j < n, ⟨71, 0, rfl, by omega, rfl, rfl, fun j hj => by omega⟩, ?_⟩
    rintro m σ H' ⟨x, rfl, hx, rfl, rfl, hno⟩
    refine ⟨_, rfl, _, rfl, _, _, rfl, rfl, .inl ⟨by omega, by omega⟩, _, rfl, _, _, rfl, rfl, _, rfl, ite2 (fun h1 => ?_) (fun h1 => ?_)⟩
    · rw [decide_eq_true_eq, ← Int.natCast_mul] at h1
      have h1' : x * x < n := by omega
      have hx2 : x < 71 := by
        rcases Nat.lt_or_ge x 71 with q | q
        · exact q
        · have := Nat.mul_le_mul q q
          omega
      refine ⟨fun σ' H'' => σ' = [some (nV n), some (nV (x + 1))] ∧ H'' = H', fun σ' H'' ⟨q1, q2⟩ => ⟨71 - (x + 1), by omega, x + 1, rfl, by omega, q1, q2, fun j hj => ?_⟩, ?_⟩
      · by_cases q : j = x
        · rw [q]; exact h1'
        · exact hno j (by omega)
      · exact ⟨_, rfl, _, _, rfl, rfl, rfl, rfl⟩
    · rw [decide_eq_true_eq, ← Int.natCast_mul] at h1
      rw [root_is hx (by omega) hno] at k
      exact ⟨_, rfl, k⟩
def sp_tell_span (K : PySem.W.Frag) (D : Dat) : Sp := fun vs H Q _ => ∃ (L : Lay) (a : Abs) (h i : Nat), vs = [.ref L.p, nV h, nV i] ∧ WallAt D H L true a ∧ Wf a ∧ Gives D H L a (.span h i) Q
theorem ok_tell_span (T : Txt K mg D) : FnOk P w K mg base CX0 2 D.f_tell_span D.d_tell_span ["wall", "h", "i"] (sp_tell_span K D) := by
  refine T.fun_tell_span.ok sc_tell_span (fun vs H Q E h => ?_) (fun cdv A oenv s H vs Q E hr h => ?_)
  · obtain ⟨L, a, h, i, rfl, _⟩ := h
    rfl
  · obtain ⟨L, a, h, i, rfl, W, wf, k⟩ := h
    obtain ⟨dx, hw⟩ := W.wall
    refine ⟨_, (pss_cons (ps_if (PW.pt (pw_or (pt_cmpR op_ge (pv 1) (pe_callB cr_len rfl T.n_len bt_len (pa_cons (pe_fld (pv 0) rfl) pa_nil)) (nomark _)) (pw_or1 (pt_cmpR op_ge (pv 2) (pe_callB cr_len rfl T.n_len bt_len (pa_cons (pe_fld (pv 0) rfl) pa_nil)) (nomark _))))) (pss_one (ps_ret (pe_lst (pa_cons (pe_const rfl T.k_NO_SUCH) pa_nil)))) pss_nil)
  (pss_cons (ps_set (i := 3) sc_tell_span.nd rfl loc_ (pe_call (ok_apart_squared T) (hr.mono (by decide)) rfl T.g_apart_squared T.fun_apart_squared.kp T.b_apart_squared .nil pass0 (pa_cons (pe_ix ix_list (pe_fld (pv 0) rfl) (pv 1) (fun _ _ => rfl)) (pa_cons (pe_ix ix_list (pe_fld (pv 0) rfl) (pv 2) (fun _ _ => rfl)) pa_nil))))
  (pss_one (ps_ret (pe_lst (pa_cons (pv 3) (pa_cons (pe_call (ok_least_root T) (hr.mono (by decide)) rfl T.g_least_root T.fun_least_root.kp T.b_least_root .nil pass0 (pa_cons (pv 3) pa_nil)) pa_nil))))))), ?_⟩
    refine ⟨_, rfl, _, rfl, L.p, _, dx, _, _, rfl, hw, T.cl_Wall, T.na_Wall_holds, lk_holds _ _ _ _ _, L.hl, _, rfl, .inl (SqL.of W.hl), _, _, rfl, rfl, _, rfl, ite2 (fun h1 => iteT ⟨(by show 1 ≤ sizeLine; decide), fun l hl => Gives.no k W ?_ hl⟩) (fun h1 => ⟨_, rfl, _, rfl, L.p, _, dx, _, _, rfl, hw, T.cl_Wall, T.na_Wall_holds, lk_holds _ _ _ _ _, L.hl, _, rfl, .inl (SqL.of W.hl), _, _, rfl, rfl, _, rfl, ite2 (fun h2 => ⟨(by show 1 ≤ sizeLine; decide), fun l hl => Gives.no k W ?_ hl⟩) (fun h2 => ?_)⟩)⟩
    · rw [decide_eq_true_eq, List.length_map, W.nh] at h1
      unfold Su55.does; dsimp only
      rw [if_pos (.inl (isH_iff.mpr (by omega)))]
    · rw [decide_eq_true_eq, List.length_map, W.nh] at h2
      unfold Su55.does; dsimp only
      rw [if_pos (.inr (isH_iff.mpr (by omega)))]
    · rw [decide_eq_true_eq, List.length_map, W.nh] at h1
      rw [decide_eq_true_eq, List.length_map, W.nh] at h2
      have lt1 : h < a.holds.length := by omega
      have lt2 : i < a.holds.length := by omega
      have n1 : ¬ (a.isH h = false ∨ a.isH i = false) := fun z => z.elim (fun z => by have := isH_iff.mp z; omega) (fun z => by have := isH_iff.mp z; omega)
      obtain ⟨q1, d1, g1, _, g3⟩ := W.holdAt lt1
      obtain ⟨q2, d2, g4, _, g6⟩ := W.holdAt lt2
      obtain ⟨b1, b2⟩ := place_of wf lt1
      obtain ⟨b3, b4⟩ := place_of wf lt2
      refine ⟨_, rfl, L.p, _, dx, _, _, rfl, hw, T.cl_Wall, T.na_Wall_holds, lk_holds _ _ _ _ _, _, rfl, L.hl, _, _, _, rfl, rfl, SqL.of W.hl, atI_nat (ref_at g1), _, rfl, L.p, _, dx, _, _, rfl, hw, T.cl_Wall, T.na_Wall_holds, lk_holds _ _ _ _ _, _, rfl, L.hl, _, _, _, rfl, rfl, SqL.of W.hl, atI_nat (ref_at g4), q1, q2, d1, d2, _, _, rfl, g3, g6, b1, b2, b3, b4, ?_⟩
      refine ⟨_, rfl, _, rfl, farH (a.hold h) (a.hold i), rfl, far_le wf lt1 lt2, (by show 2 ≤ sizeLine; decide), fun l hl => ?_⟩
      refine Gives.now (r := Su55.num (a.far h i) [Su55.root (a.far h i)]) k W ?_ (Same.refl _) hl
      unfold Su55.does; dsimp only
      rw [if_neg n1]
def nearH (z : Su55.Climber) (y y2 : Su55.Hold) : Bool := heldH z.strength y2 && decide (farH y y2 ≤ z.reach * z.reach)
def sp_is_near (K : PySem.W.Frag) (D : Dat) : Sp := fun vs H Q _ => ∃ (c l r dc dl dr : Addr) (z : Su55.Climber) (y y2 : Su55.Hold), vs = [.ref c, .ref l, .ref r] ∧ H c = some (.ins D.c_Climber dc (fClimber z)) ∧ H l = some (.ins D.c_Hold dl (fHold y)) ∧ H r = some (.ins D.c_Hold dr (fHold y2)) ∧
  z.reach ≤ 71 ∧ y.x ≤ 50 ∧ y.y ≤ 50 ∧ y2.x ≤ 50 ∧ y2.y ≤ 50 ∧ Q (.bl (nearH z y y2)) H
theorem ok_is_near (T : Txt K mg D) : FnOk P w K mg base CX0 3 D.f_is_near D.d_is_near ["climber", "hold", "other"] (sp_is_near K D) := by
  refine T.fun_is_near.ok sc_is_near (fun vs H Q E h => ?_) (fun cdv A oenv s H vs Q E hr h => ?_)
  · obtain ⟨c, l, r, dc, dl, dr, z, y, y2, rfl, _⟩ := h
    rfl
  · obtain ⟨c, l, r, dc, dl, dr, z, y, y2, rfl, hc, hl, hh, b1, b2, b3, b4, b5, k⟩ := h
    refine ⟨_, (pss_one (ps_ret (pe_and (pe_call (ok_can_hold T) (hr.mono (by decide)) rfl T.g_can_hold T.fun_can_hold.kp T.b_can_hold .nil pass0 (pa_cons (pv 0) (pa_cons (pv 2) pa_nil))) (pe_one (pe_call (ok_is_within_reach T) (hr.mono (by decide)) rfl T.g_is_within_reach T.fun_is_within_reach.kp T.b_is_within_reach .nil pass0 (pa_cons (pv 0) (pa_cons (pv 1) (pa_cons (pv 2) pa_nil)))))))), ?_⟩
    refine ⟨_, rfl, _, rfl, c, r, dc, dr, z, y2, rfl, hc, hh, _, rfl, ite2 (fun h1 => ⟨_, rfl, _, rfl, _, rfl, c, l, r, dc, dl, dr, z, y, y2, rfl, hc, hl, hh, b1, b2, b3, b4, b5, ?_⟩) (fun h1 => ?_)⟩
    · unfold nearH at k
      rw [h1, Bool.true_and] at k
      exact k
    · unfold nearH at k
      rw [Bool.eq_false_iff.mpr h1, Bool.false_and] at k
      exact k
theorem ne_nat2 (m n : Nat) : (!decide (nV m = nV n)) = (m != n) := by rw [eq_nat]; rfl
def sp_tell_near (K : PySem.W.Frag) (D : Dat) : Sp := fun vs H Q _ => ∃ (L : Lay) (a : Abs) (c h : Nat), vs = [.ref L.p, nV c, nV h] ∧ WallAt D H L true a ∧ Wf a ∧ Gives D H L a (.near c h) Q
theorem ok_tell_near (T : Txt K mg D) : FnOk P w K mg base CX0 4 D.f_tell_near D.d_tell_near ["wall", "c", "h"] (sp_tell_near K D) := by
  refine T.fun_tell_near.ok sc_tell_near (fun vs H Q E h => ?_) (fun cdv A oenv s H vs Q E hr h => ?_)
  · obtain ⟨L, a, c, h, rfl, _⟩ := h
    rfl
  · obtain ⟨L, a, c, h, rfl, W, wf, k⟩ := h
    obtain ⟨dx, hw⟩ := W.wall
    refine ⟨_, (pss_cons (ps_if (PW.pt (pw_or (pt_cmpR op_ge (pv 1) (pe_callB cr_len rfl T.n_len bt_len (pa_cons (pe_fld (pv 0) rfl) pa_nil)) (nomark _)) (pw_or1 (pt_cmpR op_ge (pv 2) (pe_callB cr_len rfl T.n_len bt_len (pa_cons (pe_fld (pv 0) rfl) pa_nil)) (nomark _))))) (pss_one (ps_ret (pe_lst (pa_cons (pe_const rfl T.k_NO_SUCH) pa_nil)))) pss_nil)
  (pss_cons (ps_set (i := 3) sc_tell_near.nd rfl loc_ (pe_ix ix_list (pe_fld (pv 0) rfl) (pv 1) (fun _ _ => rfl)))
  (pss_cons (ps_set (i := 4) sc_tell_near.nd rfl loc_ (pe_ix ix_list (pe_fld (pv 0) rfl) (pv 2) (fun _ _ => rfl)))
  (pss_cons (ps_setLc rfl sc_tell_near.nd (i := 5) rfl rfl (sw_true rfl rfl rfl rfl) (pi_enum rfl T.n_enumerate (pa_cons (pe_fld (pv 0) rfl) pa_nil)) (own := [("i", 6), ("other", 7)]) (g := gTup K 2 (gCons (gName 6) (gCons (gName 7) gNil))) (tt := (tAnd (tTest (tOp rNe (tVar 6) (tVar 2))) (tB (tCall (sp_is_near K D) [] E0 (tCons (tVar 3) (tCons (tVar 4) (tCons (tVar 7) tNil))))))) (te := (tVar 6)) (blkOk_by rfl) (fun _ _ _ _ _ => pg_tup rfl (pgs_cons (pg_name (i := 6) sc_tell_near.nd rfl loc_) (pgs_cons (pg_name (i := 7) sc_tell_near.nd rfl loc_) pgs_nil))) (fun _ _ _ _ _ => (pts_one (PW.pt (pw_and (pt_cmpR op_ne (pv 6) (pv 2) (nomark _)) (pw_and1 (pt_val (pe_call (ok_is_near T) (hr.mono (by decide)) rfl T.g_is_near T.fun_is_near.kp T.b_is_near .nil pass0 (pa_cons (pv 3) (pa_cons (pv 4) (pa_cons (pv 7) pa_nil)))))))))) (fun _ _ _ _ _ => (pv 6)))
  (pss_one (ps_ret (pe_op op_cat (pe_lst (pa_cons (pe_callB cr_len rfl T.n_len bt_len (pa_cons (pv 5) pa_nil)) pa_nil)) (pv 5)))))))), ?_⟩
    refine ⟨_, rfl, _, rfl, L.p, _, dx, _, _, rfl, hw, T.cl_Wall, T.na_Wall_climbers, lk_climbers _ _ _ _ _, L.cl, _, rfl, .inl (SqL.of W.cl), _, _, rfl, rfl, _, rfl, ite2 (fun h1 => iteT ⟨(by show 1 ≤ sizeLine; decide), fun l hl => Gives.no k W ?_ hl⟩) (fun h1 => ⟨_, rfl, _, rfl, L.p, _, dx, _, _, rfl, hw, T.cl_Wall, T.na_Wall_holds, lk_holds _ _ _ _ _, L.hl, _, rfl, .inl (SqL.of W.hl), _, _, rfl, rfl, _, rfl, ite2 (fun h2 => ⟨(by show 1 ≤ sizeLine; decide), fun l hl => Gives.no k W ?_ hl⟩) (fun h2 => ?_)⟩)⟩
    · rw [decide_eq_true_eq, List.length_map, W.nc] at h1
      unfold Su55.does; dsimp only
      rw [if_pos (.inl (isC_iff.mpr (by omega)))]
    · rw [decide_eq_true_eq, List.length_map, W.nh] at h2
      unfold Su55.does; dsimp only
      rw [if_pos (.inr (isH_iff.mpr (by omega)))]
    · rw [decide_eq_true_eq, List.length_map, W.nc] at h1
      rw [decide_eq_true_eq, List.length_map, W.nh] at h2
      have lt1 : c < a.climbers.length := by omega
      have lt2 : h < a.holds.length := by omega
      have n1 : ¬ (a.isC c = false ∨ a.isH h = false) := fun z => z.elim (fun z => by have := isC_iff.mp z; omega) (fun z => by have := isH_iff.mp z; omega)
      obtain ⟨q1, d1, g1, _, g3⟩ := W.climberAt lt1
      obtain ⟨q2, d2, g4, _, g6⟩ := W.holdAt lt2
      obtain ⟨b1, b2⟩ := place_of wf lt2
      refine ⟨_, rfl, L.p, _, dx, _, _, rfl, hw, T.cl_Wall, T.na_Wall_climbers, lk_climbers _ _ _ _ _, _, rfl, L.cl, _, _, _, rfl, rfl, SqL.of W.cl, atI_nat (ref_at g1), ?_⟩
      refine ⟨_, rfl, L.p, _, dx, _, _, rfl, hw, T.cl_Wall, T.na_Wall_holds, lk_holds _ _ _ _ _, _, rfl, L.hl, _, _, _, rfl, rfl, SqL.of W.hl, atI_nat (ref_at g4), ?_⟩
      refine ⟨_, rfl, L.p, _, dx, _, _, rfl, hw, T.cl_Wall, T.na_Wall_holds, lk_holds _ _ _ _ _, L.hl, _, rfl, SqL.of W.hl, fun B hB => ?_⟩
      refine lc_esame (fun i => i != h && nearH (a.climber c) (a.hold h) (a.hold i)) nV (SqL.of W.hl) hB (by rw [List.length_map, W.nh]; have := wf.nh; omega) (fun i v t H1 acc hi s1 hl hz1 ht N k1 => ?_) (fun H1 s1 hl => ?_)
      · have lti : i < a.holds.length := by
          have := (List.getElem?_eq_some_iff.mp hi).1
          rw [List.length_map, W.nh] at this
          exact this
        obtain ⟨q3, d3, g7, _, g9⟩ := W.holdAt lti
        rw [ref_at g7] at hi
        obtain rfl : V.ref q3 = v := Option.some.inj hi
        obtain ⟨b3, b4⟩ := place_of wf lti
        have k2 : N (if (i != h && nearH (a.climber c) (a.hold h) (a.hold i)) = true then upd H1 B (.lst (acc ++ [nV i])) else H1) := k1 H1 (Same.refl _)
        refine ⟨t, _, rfl, SqT.of ht, rfl, _, _, rfl, _, _, rfl, rfl, rfl, ?_⟩
        refine ⟨_, rfl, _, rfl, rfl, _, rfl, ite2 (fun h3 => ?_) (fun h3 => ?_)⟩
        · rw [ne_nat2] at h3
          rw [h3, Bool.true_and] at k2
          refine ⟨_, rfl, _, rfl, _, rfl, q1, q2, q3, d1, d2, d3, _, _, _, rfl, s1 _ _ g3, s1 _ _ g6, s1 _ _ g9, reach_of wf lt1, b1, b2, b3, b4, _, rfl, ite2 (fun h4 => ?_) (fun h4 => ?_)⟩
          · rw [if_pos h4] at k2
            exact ⟨_, rfl, acc, hl, hz1, k2⟩
          · rw [if_neg h4] at k2
            exact k2
        · rw [ne_nat2] at h3
          rw [Bool.eq_false_iff.mpr h3, Bool.false_and, if_neg (by simp)] at k2
          exact k2
      · rw [List.length_map, W.nh] at hl
        refine ⟨_, rfl, B, _, rfl, .inl (SqL.of hl), (by show 1 ≤ sizeLine; decide), fun e he => ⟨_, rfl, e, B, _, _, rfl, rfl, upd_same, (same_new he _ _ hl), Nat.le_of_lt (small1000 ?_), fun p hp => ?_⟩⟩
        · rw [List.length_map]
          have q1 := List.length_filter_le (fun i => i != h && nearH (a.climber c) (a.hold h) (a.hold i)) (List.range a.holds.length)
          rw [List.length_range] at q1
          have := wf.nh
          show 1 + _ ≤ 1000
          omega
        · rw [list_nV]
          refine Gives.now k W ?_ (s1.trans (same_new he)) hp
          unfold Su55.does; dsimp only
          rw [if_neg n1]
          rfl
def fallH (n m : Nat) (y : Su55.Hold) : Bool := decide (0 < y.grip) && decide (n ≤ y.used + m)
def sp_would_fall (K : PySem.W.Frag) (D : Dat) : Sp := fun vs H Q _ => ∃ (h dh : Addr) (y : Su55.Hold) (n m : Nat), vs = [.ref h, nV n, nV m] ∧ H h = some (.ins D.c_Hold dh (fHold y)) ∧ Q (.bl (fallH n m y)) H
theorem ok_would_fall (T : Txt K mg D) : FnOk P w K mg base CX0 1 D.f_would_fall D.d_would_fall ["hold", "hands_to_fall", "hands_more"] (sp_would_fall K D) := by
  refine T.fun_would_fall.ok sc_would_fall (fun vs H Q E h => ?_) (fun cdv A oenv s H vs Q E hr h => ?_)
  · obtain ⟨h, dh, y, n, m, rfl, _⟩ := h
    rfl
  · obtain ⟨h, dh, y, n, m, rfl, hh, k⟩ := h
    refine ⟨_, (pss_one (ps_ret (pe_and (pe_cmpR op_gt (pe_fld (pv 0) rfl) pe_int (nomark _)) (pe_one (pe_cmpR op_ge (pe_op op_add (pe_fld (pv 0) rfl) (pv 2)) (pv 1) (nomark _)))))), ?_⟩
    unfold fallH at k
    refine ⟨_, rfl, h, _, dh, _, _, rfl, hh, T.cl_Hold, T.na_Hold_grip, lk_grip _, _, _, rfl, rfl, _, rfl, ite2 (fun h1 => ⟨_, rfl, h, _, dh, _, _, rfl, hh, T.cl_Hold, T.na_Hold_hands, lk_hands _, _, rfl, _, _, rfl, rfl, _, rfl, _, _, rfl, rfl, ?_⟩) (fun h1 => ?_)⟩
    · rw [decide_eq_true_eq] at h1
      rw [decide_eq_true (show 0 < y.grip by omega), Bool.true_and] at k
      have e : decide ((n : Int) ≤ (y.used : Int) + (m : Int)) = decide (n ≤ y.used + m) := decide_eq_decide.mpr (by omega)
      rw [← e] at k
      exact k
    · rw [decide_eq_true_eq] at h1
      rw [decide_eq_false (show ¬ 0 < y.grip by omega), Bool.false_and] at k
      exact k
def sp_tell_due (K : PySem.W.Frag) (D : Dat) : Sp := fun vs H Q _ => ∃ (L : Lay) (a : Abs) (n : Nat), vs = [.ref L.p, nV n] ∧ WallAt D H L true a ∧ Wf a ∧ Gives D H L a (.due n) Q
theorem ok_tell_due (T : Txt K mg D) : FnOk P w K mg base CX0 2 D.f_tell_due D.d_tell_due ["wall", "hands_more"] (sp_tell_due K D) := by
  refine T.fun_tell_due.ok sc_tell_due (fun vs H Q E h => ?_) (fun cdv A oenv s H vs Q E hr h => ?_)
  · obtain ⟨L, a, n, rfl, _⟩ := h
    rfl
  · obtain ⟨L, a, n, rfl, W, wf, k⟩ := h
    obtain ⟨dx, hw⟩ := W.wall
    refine ⟨_, (pss_cons (ps_if (pt_cmpR op_gt (pv 1) (pe_const rfl T.k_MOST_HANDS_ASKED) (nomark _)) (pss_one (ps_ret (pe_lst (pa_cons (pe_const rfl T.k_OUT_OF_RANGE) pa_nil)))) pss_nil)
  (pss_cons (ps_setLc rfl sc_tell_due.nd (i := 2) rfl rfl (sw_true rfl rfl rfl rfl) (pi_enum rfl T.n_enumerate (pa_cons (pe_fld (pv 0) rfl) pa_nil)) (own := [("h", 3), ("hold", 4)]) (g := gTup K 2 (gCons (gName 3) (gCons (gName 4) gNil))) (tt := (tB (tCall (sp_would_fall K D) [] E0 (tCons (tVar 4) (tCons (tFld K (tVar 0) "hands_to_fall") (tCons (tVar 1) tNil)))))) (te := (tVar 3)) (blkOk_by rfl) (fun _ _ _ _ _ => pg_tup rfl (pgs_cons (pg_name (i := 3) sc_tell_due.nd rfl loc_) (pgs_cons (pg_name (i := 4) sc_tell_due.nd rfl loc_) pgs_nil))) (fun _ _ _ _ _ => (pts_one (pt_val (pe_call (ok_would_fall T) (hr.mono (by decide)) rfl T.g_would_fall T.fun_would_fall.kp T.b_would_fall .nil pass0 (pa_cons (pv 4) (pa_cons (pe_fld (pv 0) rfl) (pa_cons (pv 1) pa_nil))))))) (fun _ _ _ _ _ => (pv 3)))
  (pss_one (ps_ret (pe_op op_cat (pe_lst (pa_cons (pe_callB cr_len rfl T.n_len bt_len (pa_cons (pv 2) pa_nil)) pa_nil)) (pv 2)))))), ?_⟩
    refine ⟨_, rfl, _, _, rfl, rfl, _, rfl, ite2 (fun h1 => ⟨(by show 1 ≤ sizeLine; decide), fun l hl => Gives.no k W ?_ hl⟩) (fun h1 => ?_)⟩
    · rw [decide_eq_true_eq] at h1
      unfold Su55.does; dsimp only
      rw [if_pos (by omega)]
    · rw [decide_eq_true_eq] at h1
      have n1 : ¬ 100 < n := by omega
      refine ⟨_, rfl, L.p, _, dx, _, _, rfl, hw, T.cl_Wall, T.na_Wall_holds, lk_holds _ _ _ _ _, L.hl, _, rfl, SqL.of W.hl, fun B hB => ?_⟩
      refine lc_esame (fun h => fallH a.wear n (a.hold h)) nV (SqL.of W.hl) hB (by rw [List.length_map, W.nh]; have := wf.nh; omega) (fun i v t H1 acc hi s1 hl hz1 ht N k1 => ?_) (fun H1 s1 hl => ?_)
      · have lti : i < a.holds.length := by
          have := (List.getElem?_eq_some_iff.mp hi).1
          rw [List.length_map, W.nh] at this
          exact this
        obtain ⟨q3, d3, g7, _, g9⟩ := W.holdAt lti
        rw [ref_at g7] at hi
        obtain rfl : V.ref q3 = v := Option.some.inj hi
        have k2 : N (if fallH a.wear n (a.hold i) = true then upd H1 B (.lst (acc ++ [nV i])) else H1) := k1 H1 (Same.refl _)
        refine ⟨t, _, rfl, SqT.of ht, rfl, _, _, rfl, _, _, rfl, rfl, rfl, ?_⟩
        refine ⟨_, rfl, _, rfl, L.p, _, dx, _, _, rfl, s1 _ _ hw, T.cl_Wall, T.na_Wall_hands_to_fall, lk_fall _ _ _ _ _, _, rfl, q3, d3, _, _, _, rfl, s1 _ _ g9, _, rfl, ite2 (fun h4 => ?_) (fun h4 => ?_)⟩
        · rw [if_pos h4] at k2
          exact ⟨_, rfl, acc, hl, hz1, k2⟩
        · rw [if_neg h4] at k2
          exact k2
      · rw [List.length_map, W.nh] at hl
        refine ⟨_, rfl, B, _, rfl, .inl (SqL.of hl), (by show 1 ≤ sizeLine; decide), fun e he => ⟨_, rfl, e, B, _, _, rfl, rfl, upd_same, (same_new he _ _ hl), Nat.le_of_lt (small1000 ?_), fun p hp => ?_⟩⟩
        · rw [List.length_map]
          have q1 := List.length_filter_le (fun h => fallH a.wear n (a.hold h)) (List.range a.holds.length)
          rw [List.length_range] at q1
          have := wf.nh
          show 1 + _ ≤ 1000
          omega
        · rw [list_nV]
          refine Gives.now k W ?_ (s1.trans (same_new he)) hp
          unfold Su55.does; dsimp only
          rw [if_neg n1]
          rfl
def sp_as_number (K : PySem.W.Frag) (D : Dat) : Sp := fun vs H Q _ => ∃ b : Bool, vs = [.bl b] ∧ Q (nV (Su55.bit b)) H
theorem ok_as_number (T : Txt K mg D) : FnOk P w K mg base CX0 1 D.f_as_number D.d_as_number ["truth"] (sp_as_number K D) := by
  refine T.fun_as_number.ok sc_as_number (fun vs H Q E h => ?_) (fun cdv A oenv s H vs Q E hr h => ?_)
  · obtain ⟨b, rfl, _⟩ := h
    rfl
  · obtain ⟨b, rfl, k⟩ := h
    refine ⟨_, (pss_one (ps_ret (pe_ifExp (pt_val (pv 0)) pe_int pe_int))), ?_⟩
    refine ⟨_, rfl, _, rfl, ite2 (fun h1 => ?_) (fun h1 => ?_)⟩
    · rw [h1] at k
      exact k
    · rw [Bool.eq_false_iff.mpr h1] at k
      exact k
def sp_look_at (K : PySem.W.Frag) (D : Dat) : Sp := fun vs H Q _ => ∃ (L : Lay) (a : Abs) (h : Nat), vs = [.ref L.p, nV h] ∧ WallAt D H L true a ∧ Wf a ∧ Gives D H L a (.look h) Q
theorem ok_look_at (T : Txt K mg D) : FnOk P w K mg base CX0 2 D.f_look_at D.d_look_at ["wall", "h"] (sp_look_at K D) := by
  refine T.fun_look_at.ok sc_look_at (fun vs H Q E h => ?_) (fun cdv A oenv s H vs Q E hr h => ?_)
  · obtain ⟨L, a, h, rfl, _⟩ := h
    rfl
  · obtain ⟨L, a, h, rfl, W, wf, k⟩ := h
    obtain ⟨dx, hw⟩ := W.wall
    refine ⟨_, (pss_cons (ps_if (pt_cmpR op_ge (pv 1) (pe_callB cr_len rfl T.n_len bt_len (pa_cons (pe_fld (pv 0) rfl) pa_nil)) (nomark _)) (pss_one (ps_ret (pe_lst (pa_cons (pe_const rfl T.k_NO_SUCH) pa_nil)))) pss_nil)
  (pss_cons (ps_set (i := 2) sc_look_at.nd rfl loc_ (pe_ix ix_list (pe_fld (pv 0) rfl) (pv 1) (fun _ _ => rfl)))
  (pss_one (ps_ret (pe_lst (pa_cons (pe_fld (pv 2) rfl) (pa_cons (pe_fld (pv 2) rfl) (pa_cons (pe_fld (pv 2) rfl) (pa_cons (pe_fld (pv 2) rfl) (pa_cons (pe_call (ok_as_number T) (hr.mono (by decide)) rfl T.g_as_number T.fun_as_number.kp T.b_as_number .nil pass0 (pa_cons (pe_fld (pv 2) rfl) pa_nil)) pa_nil)))))))))), ?_⟩
    refine ⟨_, rfl, _, rfl, L.p, _, dx, _, _, rfl, hw, T.cl_Wall, T.na_Wall_holds, lk_holds _ _ _ _ _, L.hl, _, rfl, .inl (SqL.of W.hl), _, _, rfl, rfl, _, rfl, ite2 (fun h1 => ⟨(by show 1 ≤ sizeLine; decide), fun l hl => Gives.no k W ?_ hl⟩) (fun h1 => ?_)⟩
    · rw [decide_eq_true_eq, List.length_map, W.nh] at h1
      unfold Su55.does; dsimp only
      rw [if_pos (isH_iff.mpr (by omega))]
    · rw [decide_eq_true_eq, List.length_map, W.nh] at h1
      have hlt : h < a.holds.length := by omega
      have n1 : ¬ a.isH h = false := fun z => by have := isH_iff.mp z; omega
      obtain ⟨q, dq, g1, _, hH⟩ := W.holdAt hlt
      refine ⟨_, rfl, L.p, _, dx, _, _, rfl, hw, T.cl_Wall, T.na_Wall_holds, lk_holds _ _ _ _ _, _, rfl, L.hl, _, _, _, rfl, rfl, SqL.of W.hl, atI_nat (ref_at g1), ?_⟩
      refine ⟨_, rfl, q, _, dq, _, _, rfl, hH, T.cl_Hold, T.na_Hold_grip, lk_grip _, _, rfl, q, _, dq, _, _, rfl, hH, T.cl_Hold, T.na_Hold_x, lk_x _, _, rfl, q, _, dq, _, _, rfl, hH, T.cl_Hold, T.na_Hold_y, lk_y _, _, rfl, q, _, dq, _, _, rfl, hH, T.cl_Hold, T.na_Hold_hands, lk_hands _, _, rfl, q, _, dq, _, _, rfl, hH, T.cl_Hold, T.na_Hold_on, lk_on _, _, rfl, (by show 5 ≤ sizeLine; decide), fun l hl => ?_⟩
      refine Gives.now (r := Su55.num (a.hold h).grip [(a.hold h).x, (a.hold h).y, (a.hold h).used, Su55.bit (a.hold h).on_]) k W ?_ (Same.refl _) hl
      unfold Su55.does; dsimp only
      rw [if_neg n1]
def sp_tell_route (K : PySem.W.Frag) (D : Dat) : Sp := fun vs H Q _ => ∃ (L : Lay) (a : Abs) (r : Nat), vs = [.ref L.p, nV r] ∧ WallAt D H L true a ∧ Wf a ∧ Gives D H L a (.told r) Q
theorem ok_tell_route (T : Txt K mg D) : FnOk P w K mg base CX0 2 D.f_tell_route D.d_tell_route ["wall", "r"] (sp_tell_route K D) := by
  refine T.fun_tell_route.ok sc_tell_route (fun vs H Q E h => ?_) (fun cdv A oenv s H vs Q E hr h => ?_)
  · obtain ⟨L, a, r, rfl, _⟩ := h
    rfl
  · obtain ⟨L, a, r, rfl, W, wf, k⟩ := h
    obtain ⟨dx, hw⟩ := W.wall
    refine ⟨_, (pss_cons (ps_if (pt_cmpR op_ge (pv 1) (pe_callB cr_len rfl T.n_len bt_len (pa_cons (pe_fld (pv 0) rfl) pa_nil)) (nomark _)) (pss_one (ps_ret (pe_lst (pa_cons (pe_const rfl T.k_NO_SUCH) pa_nil)))) pss_nil)
  (pss_cons (ps_set (i := 2) sc_tell_route.nd rfl loc_ (pe_ix ix_list (pe_fld (pv 0) rfl) (pv 1) (fun _ _ => rfl)))
  (pss_one (ps_ret (pe_op op_cat (pe_op op_cat (pe_lst (pa_cons (pe_callB cr_len rfl T.n_len bt_len (pa_cons (pe_fld (pv 2) rfl) pa_nil)) pa_nil)) (pe_fld (pv 2) rfl)) (pe_lst (pa_cons (pe_call (ok_as_number T) (hr.mono (by decide)) rfl T.g_as_number T.fun_as_number.kp T.b_as_number .nil pass0 (pa_cons (pe_fld (pv 2) rfl) pa_nil)) pa_nil))))))), ?_⟩
    refine ⟨_, rfl, _, rfl, L.p, _, dx, _, _, rfl, hw, T.cl_Wall, T.na_Wall_routes, lk_routes _ _ _ _ _, L.rl, _, rfl, .inl (SqL.of W.rl), _, _, rfl, rfl, _, rfl, ite2 (fun h1 => ⟨(by show 1 ≤ sizeLine; decide), fun l hl => Gives.no k W ?_ hl⟩) (fun h1 => ?_)⟩
    · rw [decide_eq_true_eq, List.length_map, W.nr] at h1
      unfold Su55.does; dsimp only
      rw [if_pos (isR_iff.mpr (by omega))]
    · rw [decide_eq_true_eq, List.length_map, W.nr] at h1
      have hlt : r < a.routes.length := by omega
      have n1 : ¬ a.isR r = false := fun z => by have := isR_iff.mp z; omega
      obtain ⟨q, dq, ls, g1, _, _, hH, g8⟩ := W.routeAt hlt
      have st := stops_of wf hlt
      refine ⟨_, rfl, L.p, _, dx, _, _, rfl, hw, T.cl_Wall, T.na_Wall_routes, lk_routes _ _ _ _ _, _, rfl, L.rl, _, _, _, rfl, rfl, SqL.of W.rl, atI_nat (ref_at g1), ?_⟩
      refine ⟨_, rfl, q, _, dq, _, _, rfl, hH, T.cl_Route, T.na_Route_stops, lk_stops _ _, ls, _, rfl, .inl (SqL.of g8), (by show 1 ≤ sizeLine; decide), fun e he => ?_⟩
      have s1 := same_new (o := .lst [V.int ((((a.route r).holds.map nV).length : Nat) : Int)]) he
      refine ⟨_, rfl, q, _, dq, _, _, rfl, s1 _ _ hH, T.cl_Route, T.na_Route_stops, lk_stops _ _, e, ls, _, _, rfl, rfl, upd_same, s1 _ _ g8, Nat.le_of_lt (small1000 (by rw [List.length_map]; have := st.few; show 1 + _ ≤ 1000; omega)), fun f hf => ?_⟩
      have s2 := same_new (o := .lst ([V.int ((((a.route r).holds.map nV).length : Nat) : Int)] ++ (a.route r).holds.map nV)) hf
      have s12 := s1.trans s2
      refine ⟨_, rfl, q, _, dq, _, _, rfl, s12 _ _ hH, T.cl_Route, T.na_Route_must_lead, lk_must _ _, _, rfl, (by show 1 ≤ sizeLine; decide), fun u hu => ?_⟩
      have s3 := same_new (o := .lst [nV (Su55.bit (a.route r).lead)]) hu
      refine ⟨f, u, _, _, rfl, rfl, s3 _ _ upd_same, upd_same, Nat.le_of_lt (small1000 (by rw [List.length_append, List.length_map]; have := st.few; show 1 + _ + 1 ≤ 1000; omega)), fun p hp => ?_⟩
      have ea : ([V.int ((((a.route r).holds.map nV).length : Nat) : Int)] ++ (a.route r).holds.map nV) ++ [nV (Su55.bit (a.route r).lead)] = ansV (Su55.num (a.route r).holds.length ((a.route r).holds ++ [Su55.bit (a.route r).lead])) := by
        rw [List.length_map]
        unfold ansV Su55.num
        rw [List.map_append]
        rfl
      rw [ea]
      refine Gives.now k W ?_ (s12.trans s3) hp
      unfold Su55.does; dsimp only
      rw [if_neg n1]
def sp_tell_log (K : PySem.W.Frag) (D : Dat) : Sp := fun vs H Q _ => ∃ (L : Lay) (a : Abs) (c : Nat), vs = [.ref L.p, nV c] ∧ WallAt D H L true a ∧ Wf a ∧ Gives D H L a (.log c) Q
theorem ok_tell_log (T : Txt K mg D) : FnOk P w K mg base CX0 2 D.f_tell_log D.d_tell_log ["wall", "c"] (sp_tell_log K D) := by
  refine T.fun_tell_log.ok sc_tell_log (fun vs H Q E h => ?_) (fun cdv A oenv s H vs Q E hr h => ?_)
  · obtain ⟨L, a, c, rfl, _⟩ := h
    rfl
  · obtain ⟨L, a, c, rfl, W, wf, k⟩ := h
    obtain ⟨dx, hw⟩ := W.wall
    refine ⟨_, (pss_cons (ps_if (pt_cmpR op_ge (pv 1) (pe_callB cr_len rfl T.n_len bt_len (pa_cons (pe_fld (pv 0) rfl) pa_nil)) (nomark _)) (pss_one (ps_ret (pe_lst (pa_cons (pe_const rfl T.k_NO_SUCH) pa_nil)))) pss_nil)
  (pss_cons (ps_set (i := 2) sc_tell_log.nd rfl loc_ (pe_ix ix_list (pe_fld (pv 0) rfl) (pv 1) (fun _ _ => rfl)))
  (pss_one (ps_ret (pe_lst (pa_cons (pe_fld (pv 2) rfl) (pa_cons (pe_fld (pv 2) rfl) (pa_cons (pe_fld (pv 2) rfl) (pa_cons (pe_fld (pv 2) rfl) (pa_cons (pe_call (ok_as_number T) (hr.mono (by decide)) rfl T.g_as_number T.fun_as_number.kp T.b_as_number .nil pass0 (pa_cons (pe_fld (pv 2) rfl) pa_nil)) pa_nil)))))))))), ?_⟩
    refine ⟨_, rfl, _, rfl, L.p, _, dx, _, _, rfl, hw, T.cl_Wall, T.na_Wall_climbers, lk_climbers _ _ _ _ _, L.cl, _, rfl, .inl (SqL.of W.cl), _, _, rfl, rfl, _, rfl, ite2 (fun h1 => ⟨(by show 1 ≤ sizeLine; decide), fun l hl => Gives.no k W ?_ hl⟩) (fun h1 => ?_)⟩
    · rw [decide_eq_true_eq, List.length_map, W.nc] at h1
      unfold Su55.does; dsimp only
      rw [if_pos (isC_iff.mpr (by omega))]
    · rw [decide_eq_true_eq, List.length_map, W.nc] at h1
      have hlt : c < a.climbers.length := by omega
      have n1 : ¬ a.isC c = false := fun z => by have := isC_iff.mp z; omega
      obtain ⟨q, dq, g1, _, hH⟩ := W.climberAt hlt
      refine ⟨_, rfl, L.p, _, dx, _, _, rfl, hw, T.cl_Wall, T.na_Wall_climbers, lk_climbers _ _ _ _ _, _, rfl, L.cl, _, _, _, rfl, rfl, SqL.of W.cl, atI_nat (ref_at g1), ?_⟩
      refine ⟨_, rfl, q, _, dq, _, _, rfl, hH, T.cl_Climber, T.na_Climber_climbs, lk_climbs _, _, rfl, q, _, dq, _, _, rfl, hH, T.cl_Climber, T.na_Climber_moves, lk_moves _, _, rfl, q, _, dq, _, _, rfl, hH, T.cl_Climber, T.na_Climber_reach, lk_reach _, _, rfl, q, _, dq, _, _, rfl, hH, T.cl_Climber, T.na_Climber_strength, lk_strength _, _, rfl, q, _, dq, _, _, rfl, hH, T.cl_Climber, T.na_Climber_may_lead, lk_may _, _, rfl, (by show 5 ≤ sizeLine; decide), fun l hl => ?_⟩
      refine Gives.now (r := Su55.num (a.climber c).climbs [(a.climber c).moves, (a.climber c).reach, (a.climber c).strength, Su55.bit (a.climber c).lead]) k W ?_ (Same.refl _) hl
      unfold Su55.does; dsimp only
      rw [if_neg n1]
def sp_tell_state (K : PySem.W.Frag) (D : Dat) : Sp := fun vs H Q _ => ∃ (L : Lay) (a : Abs), vs = [.ref L.p] ∧ WallAt D H L true a ∧ Wf a ∧ Gives D H L a (.state) Q
theorem ok_tell_state (T : Txt K mg D) : FnOk P w K mg base CX0 1 D.f_tell_state D.d_tell_state ["wall"] (sp_tell_state K D) := by
  refine T.fun_tell_state.ok sc_tell_state (fun vs H Q E h => ?_) (fun cdv A oenv s H vs Q E hr h => ?_)
  · obtain ⟨L, a, rfl, _⟩ := h
    rfl
  · obtain ⟨L, a, rfl, W, wf, k⟩ := h
    obtain ⟨dx, hw⟩ := W.wall
    refine ⟨_, (pss_one (ps_ret (pe_lst (pa_cons (pe_fld (pv 0) rfl) (pa_cons (pe_callB cr_len rfl T.n_len bt_len (pa_cons (pe_fld (pv 0) rfl) pa_nil)) (pa_cons (pe_callB cr_len rfl T.n_len bt_len (pa_cons (pe_fld (pv 0) rfl) pa_nil)) (pa_cons (pe_callB cr_len rfl T.n_len bt_len (pa_cons (pe_fld (pv 0) rfl) pa_nil)) pa_nil))))))), ?_⟩
    refine ⟨_, rfl, L.p, _, dx, _, _, rfl, hw, T.cl_Wall, T.na_Wall_hands_to_fall, lk_fall _ _ _ _ _, _, rfl, L.p, _, dx, _, _, rfl, hw, T.cl_Wall, T.na_Wall_holds, lk_holds _ _ _ _ _, L.hl, _, rfl, .inl (SqL.of W.hl), _, rfl, L.p, _, dx, _, _, rfl, hw, T.cl_Wall, T.na_Wall_routes, lk_routes _ _ _ _ _, L.rl, _, rfl, .inl (SqL.of W.rl), _, rfl, L.p, _, dx, _, _, rfl, hw, T.cl_Wall, T.na_Wall_climbers, lk_climbers _ _ _ _ _, L.cl, _, rfl, .inl (SqL.of W.cl), (by show 4 ≤ sizeLine; decide), fun l hl => ?_⟩
    rw [List.length_map, List.length_map, List.length_map, W.nh, W.nr, W.nc]
    exact Gives.now (r := Su55.num a.wear [a.holds.length, a.routes.length, a.climbers.length]) k W rfl (Same.refl _) hl
end
end Cw
end
section
set_option Elab.async false
set_option linter.all false
set_option maxRecDepth 100000
set_option maxHeartbeats 2000000
namespace Cw
open PySem PySem.Spec PyProof.Rows L2
open Su55 (Abs)
section
variable {P : Program} {w : World} {K : PySem.W.Frag} {mg : Str → Option Value} {base : Heap} {D : Dat}
def StAt (D : Dat) (H : Hp) (L : Lay) : Su55Neutral.S → Prop
  | none => WallAt D H L false ⟨0, [], [], []⟩
  | some a => WallAt D H L true a ∧ Wf a
theorem StAt.same {H H' : Hp} {L : Lay} {s : Su55Neutral.S} (h : StAt D H L s) (q : Same H H') : StAt D H' L s := by
  cases s with
  | none => exact WallAt.same h q
  | some a => exact ⟨h.1.same q, h.2⟩
theorem StAt.keep {H H' : Hp} {L : Lay} {s : Su55Neutral.S} (h : StAt D H L s) (q : ∀ c o, H c = some o → L.Foot c → H' c = some o) : StAt D H' L s := by
  cases s with
  | none => exact WallAt.keep h q
  | some a => exact ⟨h.1.keep q, h.2⟩
theorem StAt.out {H : Hp} {L : Lay} {s : Su55Neutral.S} (h : StAt D H L s) {c : Addr} (q : H c = none) : ¬ L.Foot c := by
  cases s with
  | none => exact WallAt.out h q
  | some a => exact h.1.out q
structure CallPre (p : Int) (args row : List Int) : Prop where
  shape : ∃ k, PySu55.shape p = some (args.length, k)
  row0 : p ≠ 6 → row = []
  pos : ∀ x ∈ args, 0 ≤ x
  posR : ∀ x ∈ row, 0 ≤ x
  few : row.length ≤ 12
def sp_answer_call (K : PySem.W.Frag) (D : Dat) : Sp := fun vs H Q _ => ∃ (L : Lay) (s : Su55Neutral.S) (p : Int) (tl rw_ : Addr) (args row : List Int), vs = [.ref L.p, .int p, .ref tl, .ref rw_] ∧ StAt D H L s ∧ SqL K H tl (args.map V.int) ∧ SqL K H rw_ (row.map V.int) ∧ CallPre p args row ∧
  ∀ (H' : Hp) (L' : Lay) (l : Addr), StAt D H' L' (Su55Neutral.step s (p :: (args ++ row))).1 → Moved H L H' L' → H' l = some (.lst ((Su55Neutral.step s (p :: (args ++ row))).2.map V.int)) → ¬ L'.Foot l → H l = none → Q (.ref l) H'
theorem ansV_ints (r : Su55.Ans) : ansV r = (r.value :: Su55Neutral.outs r.out).map V.int := by
  unfold ansV Su55Neutral.outs
  rw [List.map_cons, nV_ints]
theorem gives_of {H : Hp} {L : Lay} {a : Abs} {Q : VK} {y : List Int} {x : Su55.Call} (wf : Wf a) (hx : Su55Neutral.callOf y = some x)
    (k : ∀ (H' : Hp) (L' : Lay) (l : Addr), StAt D H' L' (Su55Neutral.step (some a) y).1 → Moved H L H' L' → H' l = some (.lst ((Su55Neutral.step (some a) y).2.map V.int)) → ¬ L'.Foot l → H l = none → Q (.ref l) H') : Gives D H L a x Q := by
  intro H' L' l W mv hl hf hn
  have e : Su55Neutral.step (some a) y = (some (Su55.does a x).1, (Su55.does a x).2.value :: Su55Neutral.outs (Su55.does a x).2.out) := by
    unfold Su55Neutral.step
    rw [hx]
    rfl
  rw [e] at k
  exact k H' L' l ⟨W, wf_does wf x⟩ mv (by rw [← ansV_ints]; exact hl) hf hn
theorem not_begun {H : Hp} {L : Lay} {Q : VK} {y : List Int} {x : Su55.Call} (W : WallAt D H L false ⟨0, [], [], []⟩) (hx : Su55Neutral.callOf y = some x) (hb : ∀ n, x ≠ .begin_ n)
    (k : ∀ (H' : Hp) (L' : Lay) (l : Addr), StAt D H' L' (Su55Neutral.step none y).1 → Moved H L H' L' → H' l = some (.lst ((Su55Neutral.step none y).2.map V.int)) → ¬ L'.Foot l → H l = none → Q (.ref l) H') : ∀ l, H l = none → Q (.ref l) (upd H l (.lst [.int (-11)])) := by
  intro l hl
  have e : Su55Neutral.step none y = (none, [-11]) := by
    unfold Su55Neutral.step
    rw [hx]
    cases x with
    | begin_ n => exact absurd rfl (hb n)
    | _ => rfl
  rw [e] at k
  exact k _ L l (WallAt.same W (same_new hl)) (Moved.of_same (same_new hl)) upd_same (W.out hl) hl
theorem does_no {a : Abs} {n : Nat} (h : n = 0 ∨ 100 < n) : Su55.does a (.begin_ n) = (a, Su55.no (-22)) := by
  unfold Su55.does; dsimp only
  rw [if_pos h]
theorem does_yes {a : Abs} {n : Nat} (h : ¬ (n = 0 ∨ 100 < n)) : Su55.does a (.begin_ n) = (⟨n, [], [], []⟩, Su55.no 0) := by
  unfold Su55.does; dsimp only
  rw [if_neg h]
theorem begin_of {H : Hp} {L : Lay} {s : Su55Neutral.S} {Q : VK} {y : List Int} {n : Nat} (S : StAt D H L s) (hx : Su55Neutral.callOf y = some (.begin_ n))
    (k : ∀ (H' : Hp) (L' : Lay) (l : Addr), StAt D H' L' (Su55Neutral.step s y).1 → Moved H L H' L' → H' l = some (.lst ((Su55Neutral.step s y).2.map V.int)) → ¬ L'.Foot l → H l = none → Q (.ref l) H') :
    ((n = 0 ∨ 100 < n) → ∀ l, H l = none → Q (.ref l) (upd H l (.lst [.int (-22)]))) ∧
    (¬ (n = 0 ∨ 100 < n) → ∀ (H' : Hp) (L' : Lay) (l : Addr), WallAt D H' L' true ⟨n, [], [], []⟩ → Moved H L H' L' → H' l = some (.lst [.int 0]) → ¬ L'.Foot l → H l = none → Q (.ref l) H') := by
  constructor
  · intro hn l hl
    have e : Su55Neutral.step s y = (s, [-22]) := by
      have e2 : Su55.step s (.begin_ n) = (s, Su55.no (-22)) := by
        cases s with
        | none => simp only [Su55.step, does_no hn]; rfl
        | some a => simp only [Su55.step, does_no hn]
      unfold Su55Neutral.step
      rw [hx]
      simp only [e2]
      rfl
    rw [e] at k
    exact k _ L l (S.same (same_new hl)) (Moved.of_same (same_new hl)) upd_same (S.out hl) hl
  · intro hn H' L' l W mv hl hf hnn
    have e : Su55Neutral.step s y = (some ⟨n, [], [], []⟩, [0]) := by
      have e2 : Su55.step s (.begin_ n) = (some ⟨n, [], [], []⟩, Su55.no 0) := by
        cases s with
        | none => simp only [Su55.step, does_yes hn]; rfl
        | some a => simp only [Su55.step, does_yes hn]
      unfold Su55Neutral.step
      rw [hx]
      simp only [e2]
      rfl
    rw [e] at k
    exact k H' L' l ⟨W, ⟨by simp, by simp, by simp, by simp, by simp, by simp⟩⟩ mv hl hf hnn
theorem cut_eq {l : List Int} {lo n : Nat} (h : lo + n ≤ l.length) : cutV (l.map V.int) (some (lo : Int)) (some ((lo + n : Nat) : Int)) = ((l.drop lo).take n).map V.int := by
  unfold cutV
  rw [HT.sIx_nat, HT.sIx_nat, List.length_map, Nat.min_eq_left (by omega), Nat.min_eq_left (by omega), List.map_take, List.map_drop]
  congr 1
  omega
theorem ite_some2 {p q : Int} {x r : Nat × Nat} {y : Option (Nat × Nat)} (h : (if p = q then some x else y) = some r) : (p = q ∧ x = r) ∨ y = some r := by
  by_cases c : p = q
  · rw [if_pos c] at h
    exact .inl ⟨c, Option.some.inj h⟩
  · rw [if_neg c] at h
    exact .inr h
theorem shape_mem {p : Int} {n k : Nat} (h : PySu55.shape p = some (n, k)) : (p, n) ∈ ([(0, 1), (1, 3), (2, 3), (3, 1), (4, 1), (5, 2), (6, 1), (7, 3), (8, 2), (9, 2), (10, 2), (11, 2), (12, 2), (13, 1), (14, 1), (15, 1), (16, 1), (17, 2), (18, 2), (19, 2), (20, 1), (21, 1), (22, 1), (23, 1), (24, 1), (25, 0)] : List (Int × Nat)) := by
  unfold PySu55.shape at h
  iterate 26
    rcases ite_some2 h with ⟨q, e⟩ | h
    · subst q
      cases e
      decide
  cases h
theorem widths_at {p : Int} {n k : Nat} (h : PySu55.shape p = some (n, k)) : ∃ j : Nat, p = (j : Int) ∧ atI (([1, 3, 3, 1, 1, 2, 1, 3, 2, 2, 2, 2, 2, 1, 1, 1, 1, 2, 2, 2, 1, 1, 1, 1, 1, 0] : List Int).map V.int) p = some (V.int (n : Int)) := by
  have m := shape_mem h
  simp only [List.mem_cons, Prod.mk.injEq, List.not_mem_nil, or_false] at m
  rcases m with m | m | m | m | m | m | m | m | m | m | m | m | m | m | m | m | m | m | m | m | m | m | m | m | m | m
  · obtain ⟨rfl, rfl⟩ := m
    exact ⟨0, rfl, at_of (j := 0) rfl rfl⟩
  · obtain ⟨rfl, rfl⟩ := m
    exact ⟨1, rfl, at_of (j := 1) rfl rfl⟩
  · obtain ⟨rfl, rfl⟩ := m
    exact ⟨2, rfl, at_of (j := 2) rfl rfl⟩
  · obtain ⟨rfl, rfl⟩ := m
    exact ⟨3, rfl, at_of (j := 3) rfl rfl⟩
  · obtain ⟨rfl, rfl⟩ := m
    exact ⟨4, rfl, at_of (j := 4) rfl rfl⟩
  · obtain ⟨rfl, rfl⟩ := m
    exact ⟨5, rfl, at_of (j := 5) rfl rfl⟩
  · obtain ⟨rfl, rfl⟩ := m
    exact ⟨6, rfl, at_of (j := 6) rfl rfl⟩
  · obtain ⟨rfl, rfl⟩ := m
    exact ⟨7, rfl, at_of (j := 7) rfl rfl⟩
  · obtain ⟨rfl, rfl⟩ := m
    exact ⟨8, rfl, at_of (j := 8) rfl rfl⟩
  · obtain ⟨rfl, rfl⟩ := m
    exact ⟨9, rfl, at_of (j := 9) rfl rfl⟩
  · obtain ⟨rfl, rfl⟩ := m
    exact ⟨10, rfl, at_of (j := 10) rfl rfl⟩
  · obtain ⟨rfl, rfl⟩ := m
    exact ⟨11, rfl, at_of (j := 11) rfl rfl⟩
  · obtain ⟨rfl, rfl⟩ := m
    exact ⟨12, rfl, at_of (j := 12) rfl rfl⟩
  · obtain ⟨rfl, rfl⟩ := m
    exact ⟨13, rfl, at_of (j := 13) rfl rfl⟩
  · obtain ⟨rfl, rfl⟩ := m
    exact ⟨14, rfl, at_of (j := 14) rfl rfl⟩
  · obtain ⟨rfl, rfl⟩ := m
    exact ⟨15, rfl, at_of (j := 15) rfl rfl⟩
  · obtain ⟨rfl, rfl⟩ := m
    exact ⟨16, rfl, at_of (j := 16) rfl rfl⟩
  · obtain ⟨rfl, rfl⟩ := m
    exact ⟨17, rfl, at_of (j := 17) rfl rfl⟩
  · obtain ⟨rfl, rfl⟩ := m
    exact ⟨18, rfl, at_of (j := 18) rfl rfl⟩
  · obtain ⟨rfl, rfl⟩ := m
    exact ⟨19, rfl, at_of (j := 19) rfl rfl⟩
  · obtain ⟨rfl, rfl⟩ := m
    exact ⟨20, rfl, at_of (j := 20) rfl rfl⟩
  · obtain ⟨rfl, rfl⟩ := m
    exact ⟨21, rfl, at_of (j := 21) rfl rfl⟩
  · obtain ⟨rfl, rfl⟩ := m
    exact ⟨22, rfl, at_of (j := 22) rfl rfl⟩
  · obtain ⟨rfl, rfl⟩ := m
    exact ⟨23, rfl, at_of (j := 23) rfl rfl⟩
  · obtain ⟨rfl, rfl⟩ := m
    exact ⟨24, rfl, at_of (j := 24) rfl rfl⟩
  · obtain ⟨rfl, rfl⟩ := m
    exact ⟨25, rfl, at_of (j := 25) rfl rfl⟩
theorem len0 {l : List Int} (h : l.length = 0) : l = [] := List.length_eq_zero_iff.mp h
theorem len1 {l : List Int} (h : l.length = 1) : ∃ a, l = [a] := List.length_eq_one_iff.mp h
theorem len2 {l : List Int} (h : l.length = 2) : ∃ a b, l = [a, b] := by
  match l, h with
  | a :: b :: [], _ => exact ⟨a, b, rfl⟩
theorem len3 {l : List Int} (h : l.length = 3) : ∃ a b c, l = [a, b, c] := by
  match l, h with
  | a :: b :: c :: [], _ => exact ⟨a, b, c, rfl⟩
theorem whole_eq {p : Int} {args : List Int} {n : Nat} (h : PySu55.shape p = some (args.length, n)) (h6 : p ≠ 6) : (PySu55.whole [p :: args]).headD [] = p :: (args ++ []) := by
  have m := shape_mem h
  rw [List.append_nil]
  simp only [List.mem_cons, Prod.mk.injEq, List.not_mem_nil, or_false] at m
  rcases m with m | m | m | m | m | m | m | m | m | m | m | m | m | m | m | m | m | m | m | m | m | m | m | m | m | m
  all_goals
    obtain ⟨rfl, hl⟩ := m
    first
      | exact absurd rfl h6
      | (obtain rfl := len0 hl; rfl)
      | (obtain ⟨_, rfl⟩ := len1 hl; rfl)
      | (obtain ⟨_, _, rfl⟩ := len2 hl; rfl)
      | (obtain ⟨_, _, _, rfl⟩ := len3 hl; rfl)
theorem whole_six {d : Int} {row : List Int} : (PySu55.whole [[6, d], row]).headD [] = 6 :: ([d] ++ row) := rfl
end
end Cw
end
section
set_option Elab.async false
set_option linter.all false
set_option maxRecDepth 100000
set_option maxHeartbeats 2000000
namespace Cw
open PySem PySem.Spec PyProof.Rows L2
open Su55 (Abs)
theorem ite_yes {c : Bool} {A B : Prop} (h : c = true) (q : A) : if c = true then A else B := by rw [if_pos h]; exact q
theorem ite_no {c : Bool} {A B : Prop} (h : c = false) (q : B) : if c = true then A else B := by rw [if_neg (by rw [h]; simp)]; exact q
inductive CallN : Nat → List Nat → List Nat → Su55.Call → Prop
  | hold_ (n0 : Nat) (n1 : Nat) (n2 : Nat) : CallN 1 [n0, n1, n2] [] (.hold n0 n1 n2)
  | shift_ (n0 : Nat) (n1 : Nat) (n2 : Nat) : CallN 2 [n0, n1, n2] [] (.shift n0 n1 n2)
  | off_ (n0 : Nat) : CallN 3 [n0] [] (.off n0)
  | back_ (n0 : Nat) : CallN 4 [n0] [] (.back n0)
  | turn_ (n0 : Nat) (n1 : Nat) : CallN 5 [n0, n1] [] (.turn n0 n1)
  | route_ (n0 : Nat) (row : List Nat) : row.length ≤ 12 → CallN 6 [n0] row (.route n0 row)
  | climber_ (n0 : Nat) (n1 : Nat) (n2 : Nat) : CallN 7 [n0, n1, n2] [] (.climber n0 n1 n2)
  | train_ (n0 : Nat) (n1 : Nat) : CallN 8 [n0, n1] [] (.train n0 n1)
  | can_ (n0 : Nat) (n1 : Nat) : CallN 9 [n0, n1] [] (.can n0 n1)
  | fewest_ (n0 : Nat) (n1 : Nat) : CallN 10 [n0, n1] [] (.fewest n0 n1)
  | way_ (n0 : Nat) (n1 : Nat) : CallN 11 [n0, n1] [] (.way n0 n1)
  | climb_ (n0 : Nat) (n1 : Nat) : CallN 12 [n0, n1] [] (.climb n0 n1)
  | who_ (n0 : Nat) : CallN 13 [n0] [] (.who n0)
  | which_ (n0 : Nat) : CallN 14 [n0] [] (.which n0)
  | reach_ (n0 : Nat) : CallN 15 [n0] [] (.reach n0)
  | strong_ (n0 : Nat) : CallN 16 [n0] [] (.strong n0)
  | needed_ (n0 : Nat) (n1 : Nat) : CallN 17 [n0, n1] [] (.needed n0 n1)
  | span_ (n0 : Nat) (n1 : Nat) : CallN 18 [n0, n1] [] (.span n0 n1)
  | near_ (n0 : Nat) (n1 : Nat) : CallN 19 [n0, n1] [] (.near n0 n1)
  | due_ (n0 : Nat) : CallN 20 [n0] [] (.due n0)
  | best_ (n0 : Nat) : CallN 21 [n0] [] (.best n0)
  | look_ (n0 : Nat) : CallN 22 [n0] [] (.look n0)
  | told_ (n0 : Nat) : CallN 23 [n0] [] (.told n0)
  | log_ (n0 : Nat) : CallN 24 [n0] [] (.log n0)
  | state_ : CallN 25 [] [] (.state)
theorem nats1 {a : Int} (h : ∀ x ∈ [a], 0 ≤ x) : [a] = [a.toNat].map fun (n : Nat) => (n : Int) := by
  have := h a (by simp)
  show [a] = [((a.toNat : Nat) : Int)]
  rw [Int.toNat_of_nonneg this]
theorem nats2 {a b : Int} (h : ∀ x ∈ [a, b], 0 ≤ x) : [a, b] = [a.toNat, b.toNat].map fun (n : Nat) => (n : Int) := by
  have h1 := h a (by simp)
  have h2 := h b (by simp)
  show [a, b] = [((a.toNat : Nat) : Int), ((b.toNat : Nat) : Int)]
  rw [Int.toNat_of_nonneg h1, Int.toNat_of_nonneg h2]
theorem nats3 {a b c : Int} (h : ∀ x ∈ [a, b, c], 0 ≤ x) : [a, b, c] = [a.toNat, b.toNat, c.toNat].map fun (n : Nat) => (n : Int) := by
  have h1 := h a (by simp)
  have h2 := h b (by simp)
  have h3 := h c (by simp)
  show [a, b, c] = [((a.toNat : Nat) : Int), ((b.toNat : Nat) : Int), ((c.toNat : Nat) : Int)]
  rw [Int.toNat_of_nonneg h1, Int.toNat_of_nonneg h2, Int.toNat_of_nonneg h3]
theorem natsL {l : List Int} (h : ∀ x ∈ l, 0 ≤ x) : l = (l.map Int.toNat).map fun (n : Nat) => (n : Int) := by
  rw [List.map_map]
  conv => lhs; rw [← List.map_id l]
  exact List.map_congr_left fun x hx => (Int.toNat_of_nonneg (h x hx)).symm
theorem callN_begin {args row : List Int} (c : CallPre 0 args row) : ∃ n : Nat, args = [(n : Int)] ∧ row = [] ∧ Su55Neutral.callOf (0 :: (args ++ row)) = some (.begin_ n) := by
  obtain ⟨⟨k, hs⟩, h2, h3, h4, h5⟩ := c
  have hl : args.length = 1 := by
    have e : PySu55.shape 0 = some (1, 0) := rfl
    rw [e] at hs
    injection hs with hs
    injection hs with hs _
    exact hs.symm
  obtain ⟨a, rfl⟩ := len1 hl
  have hr := h2 (by decide)
  subst hr
  have h1 := h3 a (by simp)
  exact ⟨a.toNat, by rw [Int.toNat_of_nonneg h1], rfl, rfl⟩
theorem callN_of {p : Int} {args row : List Int} (c : CallPre p args row) (h0 : p ≠ 0) : ∃ (P : Nat) (ns rs : List Nat) (x : Su55.Call), p = (P : Int) ∧ args = ns.map (fun (n : Nat) => (n : Int)) ∧ row = rs.map (fun (n : Nat) => (n : Int)) ∧ CallN P ns rs x ∧ Su55Neutral.callOf (p :: (args ++ row)) = some x := by
  obtain ⟨⟨k, hs⟩, h2, h3, h4, h5⟩ := c
  have m := shape_mem hs
  simp only [List.mem_cons, Prod.mk.injEq, List.not_mem_nil, or_false] at m
  rcases m with m | m | m | m | m | m | m | m | m | m | m | m | m | m | m | m | m | m | m | m | m | m | m | m | m | m
  · exact absurd m.1 h0
  · obtain ⟨rfl, hl⟩ := m
    obtain ⟨a, b, c, rfl⟩ := len3 hl
    obtain rfl := h2 (by decide)
    exact ⟨1, [a.toNat, b.toNat, c.toNat], [], _, rfl, nats3 h3, rfl, .hold_ _ _ _, rfl⟩
  · obtain ⟨rfl, hl⟩ := m
    obtain ⟨a, b, c, rfl⟩ := len3 hl
    obtain rfl := h2 (by decide)
    exact ⟨2, [a.toNat, b.toNat, c.toNat], [], _, rfl, nats3 h3, rfl, .shift_ _ _ _, rfl⟩
  · obtain ⟨rfl, hl⟩ := m
    obtain ⟨a, rfl⟩ := len1 hl
    obtain rfl := h2 (by decide)
    exact ⟨3, [a.toNat], [], _, rfl, nats1 h3, rfl, .off_ _, rfl⟩
  · obtain ⟨rfl, hl⟩ := m
    obtain ⟨a, rfl⟩ := len1 hl
    obtain rfl := h2 (by decide)
    exact ⟨4, [a.toNat], [], _, rfl, nats1 h3, rfl, .back_ _, rfl⟩
  · obtain ⟨rfl, hl⟩ := m
    obtain ⟨a, b, rfl⟩ := len2 hl
    obtain rfl := h2 (by decide)
    exact ⟨5, [a.toNat, b.toNat], [], _, rfl, nats2 h3, rfl, .turn_ _ _, rfl⟩
  · obtain ⟨rfl, hl⟩ := m
    obtain ⟨a, rfl⟩ := len1 hl
    exact ⟨6, [a.toNat], row.map Int.toNat, _, rfl, nats1 h3, natsL h4, .route_ _ _ (by rw [List.length_map]; exact h5), rfl⟩
  · obtain ⟨rfl, hl⟩ := m
    obtain ⟨a, b, c, rfl⟩ := len3 hl
    obtain rfl := h2 (by decide)
    exact ⟨7, [a.toNat, b.toNat, c.toNat], [], _, rfl, nats3 h3, rfl, .climber_ _ _ _, rfl⟩
  · obtain ⟨rfl, hl⟩ := m
    obtain ⟨a, b, rfl⟩ := len2 hl
    obtain rfl := h2 (by decide)
    exact ⟨8, [a.toNat, b.toNat], [], _, rfl, nats2 h3, rfl, .train_ _ _, rfl⟩
  · obtain ⟨rfl, hl⟩ := m
    obtain ⟨a, b, rfl⟩ := len2 hl
    obtain rfl := h2 (by decide)
    exact ⟨9, [a.toNat, b.toNat], [], _, rfl, nats2 h3, rfl, .can_ _ _, rfl⟩
  · obtain ⟨rfl, hl⟩ := m
    obtain ⟨a, b, rfl⟩ := len2 hl
    obtain rfl := h2 (by decide)
    exact ⟨10, [a.toNat, b.toNat], [], _, rfl, nats2 h3, rfl, .fewest_ _ _, rfl⟩
  · obtain ⟨rfl, hl⟩ := m
    obtain ⟨a, b, rfl⟩ := len2 hl
    obtain rfl := h2 (by decide)
    exact ⟨11, [a.toNat, b.toNat], [], _, rfl, nats2 h3, rfl, .way_ _ _, rfl⟩
  · obtain ⟨rfl, hl⟩ := m
    obtain ⟨a, b, rfl⟩ := len2 hl
    obtain rfl := h2 (by decide)
    exact ⟨12, [a.toNat, b.toNat], [], _, rfl, nats2 h3, rfl, .climb_ _ _, rfl⟩
  · obtain ⟨rfl, hl⟩ := m
    obtain ⟨a, rfl⟩ := len1 hl
    obtain rfl := h2 (by decide)
    exact ⟨13, [a.toNat], [], _, rfl, nats1 h3, rfl, .who_ _, rfl⟩
  · obtain ⟨rfl, hl⟩ := m
    obtain ⟨a, rfl⟩ := len1 hl
    obtain rfl := h2 (by decide)
    exact ⟨14, [a.toNat], [], _, rfl, nats1 h3, rfl, .which_ _, rfl⟩
  · obtain ⟨rfl, hl⟩ := m
    obtain ⟨a, rfl⟩ := len1 hl
    obtain rfl := h2 (by decide)
    exact ⟨15, [a.toNat], [], _, rfl, nats1 h3, rfl, .reach_ _, rfl⟩
  · obtain ⟨rfl, hl⟩ := m
    obtain ⟨a, rfl⟩ := len1 hl
    obtain rfl := h2 (by decide)
    exact ⟨16, [a.toNat], [], _, rfl, nats1 h3, rfl, .strong_ _, rfl⟩
  · obtain ⟨rfl, hl⟩ := m
    obtain ⟨a, b, rfl⟩ := len2 hl
    obtain rfl := h2 (by decide)
    exact ⟨17, [a.toNat, b.toNat], [], _, rfl, nats2 h3, rfl, .needed_ _ _, rfl⟩
  · obtain ⟨rfl, hl⟩ := m
    obtain ⟨a, b, rfl⟩ := len2 hl
    obtain rfl := h2 (by decide)
    exact ⟨18, [a.toNat, b.toNat], [], _, rfl, nats2 h3, rfl, .span_ _ _, rfl⟩
  · obtain ⟨rfl, hl⟩ := m
    obtain ⟨a, b, rfl⟩ := len2 hl
    obtain rfl := h2 (by decide)
    exact ⟨19, [a.toNat, b.toNat], [], _, rfl, nats2 h3, rfl, .near_ _ _, rfl⟩
  · obtain ⟨rfl, hl⟩ := m
    obtain ⟨a, rfl⟩ := len1 hl
    obtain rfl := h2 (by decide)
    exact ⟨20, [a.toNat], [], _, rfl, nats1 h3, rfl, .due_ _, rfl⟩
  · obtain ⟨rfl, hl⟩ := m
    obtain ⟨a, rfl⟩ := len1 hl
    obtain rfl := h2 (by decide)
    exact ⟨21, [a.toNat], [], _, rfl, nats1 h3, rfl, .best_ _, rfl⟩
  · obtain ⟨rfl, hl⟩ := m
    obtain ⟨a, rfl⟩ := len1 hl
    obtain rfl := h2 (by decide)
    exact ⟨22, [a.toNat], [], _, rfl, nats1 h3, rfl, .look_ _, rfl⟩
  · obtain ⟨rfl, hl⟩ := m
    obtain ⟨a, rfl⟩ := len1 hl
    obtain rfl := h2 (by decide)
    exact ⟨23, [a.toNat], [], _, rfl, nats1 h3, rfl, .told_ _, rfl⟩
  · obtain ⟨rfl, hl⟩ := m
    obtain ⟨a, rfl⟩ := len1 hl
    obtain rfl := h2 (by decide)
    exact ⟨24, [a.toNat], [], _, rfl, nats1 h3, rfl, .log_ _, rfl⟩
  · obtain ⟨rfl, hl⟩ := m
    obtain rfl := len0 hl
    obtain rfl := h2 (by decide)
    exact ⟨25, [], [], _, rfl, rfl, rfl, .state_, rfl⟩
section
variable {P : Program} {w : World} {K : PySem.W.Frag} {mg : Str → Option Value} {base : Heap} {D : Dat}
def sp_answer_hold_call (K : PySem.W.Frag) (D : Dat) : Sp := fun vs H Q _ => ∃ (L : Lay) (a : Abs) (p : Nat) (tl : Addr) (ns row : List Nat) (x : Su55.Call), vs = [.ref L.p, nV p, .ref tl] ∧ WallAt D H L true a ∧ Wf a ∧ SqL K H tl (ns.map nV) ∧ CallN p ns row x ∧ p ∈ [1, 2, 3, 4, 5] ∧ Gives D H L a x Q
theorem ok_answer_hold_call (T : Txt K mg D) : FnOk P w K mg base CX0 4 D.f_answer_hold_call D.d_answer_hold_call ["wall", "call", "told"] (sp_answer_hold_call K D) := by
  refine T.fun_answer_hold_call.ok sc_answer_hold_call (fun vs H Q E h => ?_) (fun cdv A oenv s H vs Q E hr h => ?_)
  · obtain ⟨L, a, p, tl, ns, row, x, rfl, _⟩ := h
    rfl
  · obtain ⟨L, a, p, tl, ns, row, x, rfl, W, wf, hT, hC, hp, k⟩ := h
    refine ⟨_, (pss_cons (ps_if (pt_cmpR op_eq (pv 1) (pe_const rfl T.k_HOLD) (nomark _)) (pss_one (ps_ret (pe_call (ok_add_hold T) (hr.mono (by decide)) rfl T.g_add_hold T.fun_add_hold.kp T.b_add_hold .nil pass0 (pa_cons (pv 0) (pa_cons (pe_ix ix_list (pv 2) pe_int (fun _ _ => rfl)) (pa_cons (pe_ix ix_list (pv 2) pe_int (fun _ _ => rfl)) (pa_cons (pe_ix ix_list (pv 2) pe_int (fun _ _ => rfl)) pa_nil))))))) pss_nil)
  (pss_cons (ps_if (pt_cmpR op_eq (pv 1) (pe_const rfl T.k_SHIFT) (nomark _)) (pss_one (ps_ret (pe_call (ok_shift_hold T) (hr.mono (by decide)) rfl T.g_shift_hold T.fun_shift_hold.kp T.b_shift_hold .nil pass0 (pa_cons (pv 0) (pa_cons (pe_ix ix_list (pv 2) pe_int (fun _ _ => rfl)) (pa_cons (pe_ix ix_list (pv 2) pe_int (fun _ _ => rfl)) (pa_cons (pe_ix ix_list (pv 2) pe_int (fun _ _ => rfl)) pa_nil))))))) pss_nil)
  (pss_cons (ps_if (pt_cmpR op_eq (pv 1) (pe_const rfl T.k_OFF) (nomark _)) (pss_one (ps_ret (pe_call (ok_take_off T) (hr.mono (by decide)) rfl T.g_take_off T.fun_take_off.kp T.b_take_off .nil pass0 (pa_cons (pv 0) (pa_cons (pe_ix ix_list (pv 2) pe_int (fun _ _ => rfl)) pa_nil))))) pss_nil)
  (pss_cons (ps_if (pt_cmpR op_eq (pv 1) (pe_const rfl T.k_BACK) (nomark _)) (pss_one (ps_ret (pe_call (ok_put_back T) (hr.mono (by decide)) rfl T.g_put_back T.fun_put_back.kp T.b_put_back .nil pass0 (pa_cons (pv 0) (pa_cons (pe_ix ix_list (pv 2) pe_int (fun _ _ => rfl)) pa_nil))))) pss_nil)
  (pss_one (ps_ret (pe_call (ok_turn_hold T) (hr.mono (by decide)) rfl T.g_turn_hold T.fun_turn_hold.kp T.b_turn_hold .nil pass0 (pa_cons (pv 0) (pa_cons (pe_ix ix_list (pv 2) pe_int (fun _ _ => rfl)) (pa_cons (pe_ix ix_list (pv 2) pe_int (fun _ _ => rfl)) pa_nil)))))))))), ?_⟩
    cases hC with
    | hold_ n0 n1 n2 =>
      refine ⟨_, rfl, rfl, _, rfl, ite_yes (by decide) ?_⟩
      exact ⟨_, rfl, _, rfl, tl, _, _, _, rfl, rfl, hT, (at_of (j := 0) rfl rfl), _, rfl, tl, _, _, _, rfl, rfl, hT, (at_of (j := 1) rfl rfl), _, rfl, tl, _, _, _, rfl, rfl, hT, (at_of (j := 2) rfl rfl), L, a, n0, n1, n2, rfl, W, wf, k⟩
    | shift_ n0 n1 n2 =>
      refine ⟨_, rfl, rfl, _, rfl, ite_no (by decide) ?_⟩
      refine ⟨_, rfl, rfl, _, rfl, ite_yes (by decide) ?_⟩
      exact ⟨_, rfl, _, rfl, tl, _, _, _, rfl, rfl, hT, (at_of (j := 0) rfl rfl), _, rfl, tl, _, _, _, rfl, rfl, hT, (at_of (j := 1) rfl rfl), _, rfl, tl, _, _, _, rfl, rfl, hT, (at_of (j := 2) rfl rfl), L, a, n0, n1, n2, rfl, W, wf, k⟩
    | off_ n0 =>
      refine ⟨_, rfl, rfl, _, rfl, ite_no (by decide) ?_⟩
      refine ⟨_, rfl, rfl, _, rfl, ite_no (by decide) ?_⟩
      refine ⟨_, rfl, rfl, _, rfl, ite_yes (by decide) ?_⟩
      exact ⟨_, rfl, _, rfl, tl, _, _, _, rfl, rfl, hT, (at_of (j := 0) rfl rfl), L, a, n0, rfl, W, wf, k⟩
    | back_ n0 =>
      refine ⟨_, rfl, rfl, _, rfl, ite_no (by decide) ?_⟩
      refine ⟨_, rfl, rfl, _, rfl, ite_no (by decide) ?_⟩
      refine ⟨_, rfl, rfl, _, rfl, ite_no (by decide) ?_⟩
      refine ⟨_, rfl, rfl, _, rfl, ite_yes (by decide) ?_⟩
      exact ⟨_, rfl, _, rfl, tl, _, _, _, rfl, rfl, hT, (at_of (j := 0) rfl rfl), L, a, n0, rfl, W, wf, k⟩
    | turn_ n0 n1 =>
      refine ⟨_, rfl, rfl, _, rfl, ite_no (by decide) ?_⟩
      refine ⟨_, rfl, rfl, _, rfl, ite_no (by decide) ?_⟩
      refine ⟨_, rfl, rfl, _, rfl, ite_no (by decide) ?_⟩
      refine ⟨_, rfl, rfl, _, rfl, ite_no (by decide) ?_⟩
      exact ⟨_, rfl, _, rfl, tl, _, _, _, rfl, rfl, hT, (at_of (j := 0) rfl rfl), _, rfl, tl, _, _, _, rfl, rfl, hT, (at_of (j := 1) rfl rfl), L, a, n0, n1, rfl, W, wf, k⟩
    | _ => exact absurd hp (by decide)
def sp_answer_people_call (K : PySem.W.Frag) (D : Dat) : Sp := fun vs H Q _ => ∃ (L : Lay) (a : Abs) (p : Nat) (tl rw_ : Addr) (ns row : List Nat) (x : Su55.Call), vs = [.ref L.p, nV p, .ref tl, .ref rw_] ∧ WallAt D H L true a ∧ Wf a ∧ SqL K H tl (ns.map nV) ∧ SqL K H rw_ (row.map nV) ∧ CallN p ns row x ∧ p ∈ [6, 7, 8] ∧ Gives D H L a x Q
theorem ok_answer_people_call (T : Txt K mg D) : FnOk P w K mg base CX0 4 D.f_answer_people_call D.d_answer_people_call ["wall", "call", "told", "row"] (sp_answer_people_call K D) := by
  refine T.fun_answer_people_call.ok sc_answer_people_call (fun vs H Q E h => ?_) (fun cdv A oenv s H vs Q E hr h => ?_)
  · obtain ⟨L, a, p, tl, rw_, ns, row, x, rfl, _⟩ := h
    rfl
  · obtain ⟨L, a, p, tl, rw_, ns, row, x, rfl, W, wf, hT, hR, hC, hp, k⟩ := h
    refine ⟨_, (pss_cons (ps_if (pt_cmpR op_eq (pv 1) (pe_const rfl T.k_ROUTE) (nomark _)) (pss_one (ps_ret (pe_call (ok_add_route T) (hr.mono (by decide)) rfl T.g_add_route T.fun_add_route.kp T.b_add_route .nil pass0 (pa_cons (pv 0) (pa_cons (pe_ix ix_list (pv 2) pe_int (fun _ _ => rfl)) (pa_cons (pv 3) pa_nil)))))) pss_nil)
  (pss_cons (ps_if (pt_cmpR op_eq (pv 1) (pe_const rfl T.k_CLIMBER) (nomark _)) (pss_one (ps_ret (pe_call (ok_add_climber T) (hr.mono (by decide)) rfl T.g_add_climber T.fun_add_climber.kp T.b_add_climber .nil pass0 (pa_cons (pv 0) (pa_cons (pe_ix ix_list (pv 2) pe_int (fun _ _ => rfl)) (pa_cons (pe_ix ix_list (pv 2) pe_int (fun _ _ => rfl)) (pa_cons (pe_ix ix_list (pv 2) pe_int (fun _ _ => rfl)) pa_nil))))))) pss_nil)
  (pss_one (ps_ret (pe_call (ok_train_climber T) (hr.mono (by decide)) rfl T.g_train_climber T.fun_train_climber.kp T.b_train_climber .nil pass0 (pa_cons (pv 0) (pa_cons (pe_ix ix_list (pv 2) pe_int (fun _ _ => rfl)) (pa_cons (pe_ix ix_list (pv 2) pe_int (fun _ _ => rfl)) pa_nil)))))))), ?_⟩
    cases hC with
    | route_ n0 _ hrow =>
      refine ⟨_, rfl, rfl, _, rfl, ite_yes (by decide) ?_⟩
      exact ⟨_, rfl, _, rfl, tl, _, _, _, rfl, rfl, hT, (at_of (j := 0) rfl rfl), _, rfl, L, a, n0, rw_, row, rfl, W, wf, hR, by omega, k⟩
    | climber_ n0 n1 n2 =>
      refine ⟨_, rfl, rfl, _, rfl, ite_no (by decide) ?_⟩
      refine ⟨_, rfl, rfl, _, rfl, ite_yes (by decide) ?_⟩
      exact ⟨_, rfl, _, rfl, tl, _, _, _, rfl, rfl, hT, (at_of (j := 0) rfl rfl), _, rfl, tl, _, _, _, rfl, rfl, hT, (at_of (j := 1) rfl rfl), _, rfl, tl, _, _, _, rfl, rfl, hT, (at_of (j := 2) rfl rfl), L, a, n0, n1, n2, rfl, W, wf, k⟩
    | train_ n0 n1 =>
      refine ⟨_, rfl, rfl, _, rfl, ite_no (by decide) ?_⟩
      refine ⟨_, rfl, rfl, _, rfl, ite_no (by decide) ?_⟩
      exact ⟨_, rfl, _, rfl, tl, _, _, _, rfl, rfl, hT, (at_of (j := 0) rfl rfl), _, rfl, tl, _, _, _, rfl, rfl, hT, (at_of (j := 1) rfl rfl), L, a, n0, n1, rfl, W, wf, k⟩
    | _ => exact absurd hp (by decide)
def sp_answer_climbing_call (K : PySem.W.Frag) (D : Dat) : Sp := fun vs H Q _ => ∃ (L : Lay) (a : Abs) (p : Nat) (tl : Addr) (ns row : List Nat) (x : Su55.Call), vs = [.ref L.p, nV p, .ref tl] ∧ WallAt D H L true a ∧ Wf a ∧ SqL K H tl (ns.map nV) ∧ CallN p ns row x ∧ p ∈ [9, 10, 11, 12] ∧ Gives D H L a x Q
theorem ok_answer_climbing_call (T : Txt K mg D) : FnOk P w K mg base CX0 8 D.f_answer_climbing_call D.d_answer_climbing_call ["wall", "call", "told"] (sp_answer_climbing_call K D) := by
  refine T.fun_answer_climbing_call.ok sc_answer_climbing_call (fun vs H Q E h => ?_) (fun cdv A oenv s H vs Q E hr h => ?_)
  · obtain ⟨L, a, p, tl, ns, row, x, rfl, _⟩ := h
    rfl
  · obtain ⟨L, a, p, tl, ns, row, x, rfl, W, wf, hT, hC, hp, k⟩ := h
    refine ⟨_, (pss_cons (ps_if (pt_cmpR op_eq (pv 1) (pe_const rfl T.k_CAN) (nomark _)) (pss_one (ps_ret (pe_call (ok_can_climb T) (hr.mono (by decide)) rfl T.g_can_climb T.fun_can_climb.kp T.b_can_climb .nil pass0 (pa_cons (pv 0) (pa_cons (pe_ix ix_list (pv 2) pe_int (fun _ _ => rfl)) (pa_cons (pe_ix ix_list (pv 2) pe_int (fun _ _ => rfl)) pa_nil)))))) pss_nil)
  (pss_cons (ps_if (pt_cmpR op_eq (pv 1) (pe_const rfl T.k_FEWEST) (nomark _)) (pss_one (ps_ret (pe_call (ok_fewest_moves T) (hr.mono (by decide)) rfl T.g_fewest_moves T.fun_fewest_moves.kp T.b_fewest_moves .nil pass0 (pa_cons (pv 0) (pa_cons (pe_ix ix_list (pv 2) pe_int (fun _ _ => rfl)) (pa_cons (pe_ix ix_list (pv 2) pe_int (fun _ _ => rfl)) pa_nil)))))) pss_nil)
  (pss_cons (ps_if (pt_cmpR op_eq (pv 1) (pe_const rfl T.k_WAY) (nomark _)) (pss_one (ps_ret (pe_call (ok_tell_way T) (hr.mono (by decide)) rfl T.g_tell_way T.fun_tell_way.kp T.b_tell_way .nil pass0 (pa_cons (pv 0) (pa_cons (pe_ix ix_list (pv 2) pe_int (fun _ _ => rfl)) (pa_cons (pe_ix ix_list (pv 2) pe_int (fun _ _ => rfl)) pa_nil)))))) pss_nil)
  (pss_one (ps_ret (pe_call (ok_climb_route T) (hr.mono (by decide)) rfl T.g_climb_route T.fun_climb_route.kp T.b_climb_route .nil pass0 (pa_cons (pv 0) (pa_cons (pe_ix ix_list (pv 2) pe_int (fun _ _ => rfl)) (pa_cons (pe_ix ix_list (pv 2) pe_int (fun _ _ => rfl)) pa_nil))))))))), ?_⟩
    cases hC with
    | can_ n0 n1 =>
      refine ⟨_, rfl, rfl, _, rfl, ite_yes (by decide) ?_⟩
      exact ⟨_, rfl, _, rfl, tl, _, _, _, rfl, rfl, hT, (at_of (j := 0) rfl rfl), _, rfl, tl, _, _, _, rfl, rfl, hT, (at_of (j := 1) rfl rfl), L, a, n0, n1, rfl, W, wf, k⟩
    | fewest_ n0 n1 =>
      refine ⟨_, rfl, rfl, _, rfl, ite_no (by decide) ?_⟩
      refine ⟨_, rfl, rfl, _, rfl, ite_yes (by decide) ?_⟩
      exact ⟨_, rfl, _, rfl, tl, _, _, _, rfl, rfl, hT, (at_of (j := 0) rfl rfl), _, rfl, tl, _, _, _, rfl, rfl, hT, (at_of (j := 1) rfl rfl), L, a, n0, n1, rfl, W, wf, k⟩
    | way_ n0 n1 =>
      refine ⟨_, rfl, rfl, _, rfl, ite_no (by decide) ?_⟩
      refine ⟨_, rfl, rfl, _, rfl, ite_no (by decide) ?_⟩
      refine ⟨_, rfl, rfl, _, rfl, ite_yes (by decide) ?_⟩
      exact ⟨_, rfl, _, rfl, tl, _, _, _, rfl, rfl, hT, (at_of (j := 0) rfl rfl), _, rfl, tl, _, _, _, rfl, rfl, hT, (at_of (j := 1) rfl rfl), L, a, n0, n1, rfl, W, wf, k⟩
    | climb_ n0 n1 =>
      refine ⟨_, rfl, rfl, _, rfl, ite_no (by decide) ?_⟩
      refine ⟨_, rfl, rfl, _, rfl, ite_no (by decide) ?_⟩
      refine ⟨_, rfl, rfl, _, rfl, ite_no (by decide) ?_⟩
      exact ⟨_, rfl, _, rfl, tl, _, _, _, rfl, rfl, hT, (at_of (j := 0) rfl rfl), _, rfl, tl, _, _, _, rfl, rfl, hT, (at_of (j := 1) rfl rfl), L, a, n0, n1, rfl, W, wf, k⟩
    | _ => exact absurd hp (by decide)
def sp_answer_asking_call (K : PySem.W.Frag) (D : Dat) : Sp := fun vs H Q _ => ∃ (L : Lay) (a : Abs) (p : Nat) (tl : Addr) (ns row : List Nat) (x : Su55.Call), vs = [.ref L.p, nV p, .ref tl] ∧ WallAt D H L true a ∧ Wf a ∧ SqL K H tl (ns.map nV) ∧ CallN p ns row x ∧ p ∈ [13, 14, 15, 16, 17, 21] ∧ Gives D H L a x Q
theorem ok_answer_asking_call (T : Txt K mg D) : FnOk P w K mg base CX0 8 D.f_answer_asking_call D.d_answer_asking_call ["wall", "call", "told"] (sp_answer_asking_call K D) := by
  refine T.fun_answer_asking_call.ok sc_answer_asking_call (fun vs H Q E h => ?_) (fun cdv A oenv s H vs Q E hr h => ?_)
  · obtain ⟨L, a, p, tl, ns, row, x, rfl, _⟩ := h
    rfl
  · obtain ⟨L, a, p, tl, ns, row, x, rfl, W, wf, hT, hC, hp, k⟩ := h
    refine ⟨_, (pss_cons (ps_if (pt_cmpR op_eq (pv 1) (pe_const rfl T.k_WHO) (nomark _)) (pss_one (ps_ret (pe_call (ok_tell_who T) (hr.mono (by decide)) rfl T.g_tell_who T.fun_tell_who.kp T.b_tell_who .nil pass0 (pa_cons (pv 0) (pa_cons (pe_ix ix_list (pv 2) pe_int (fun _ _ => rfl)) pa_nil))))) pss_nil)
  (pss_cons (ps_if (pt_cmpR op_eq (pv 1) (pe_const rfl T.k_WHICH) (nomark _)) (pss_one (ps_ret (pe_call (ok_tell_which T) (hr.mono (by decide)) rfl T.g_tell_which T.fun_tell_which.kp T.b_tell_which .nil pass0 (pa_cons (pv 0) (pa_cons (pe_ix ix_list (pv 2) pe_int (fun _ _ => rfl)) pa_nil))))) pss_nil)
  (pss_cons (ps_if (pt_cmpR op_eq (pv 1) (pe_const rfl T.k_REACH) (nomark _)) (pss_one (ps_ret (pe_call (ok_least_reach T) (hr.mono (by decide)) rfl T.g_least_reach T.fun_least_reach.kp T.b_least_reach .nil pass0 (pa_cons (pv 0) (pa_cons (pe_ix ix_list (pv 2) pe_int (fun _ _ => rfl)) pa_nil))))) pss_nil)
  (pss_cons (ps_if (pt_cmpR op_eq (pv 1) (pe_const rfl T.k_STRONG) (nomark _)) (pss_one (ps_ret (pe_call (ok_least_strength T) (hr.mono (by decide)) rfl T.g_least_strength T.fun_least_strength.kp T.b_least_strength .nil pass0 (pa_cons (pv 0) (pa_cons (pe_ix ix_list (pv 2) pe_int (fun _ _ => rfl)) pa_nil))))) pss_nil)
  (pss_cons (ps_if (pt_cmpR op_eq (pv 1) (pe_const rfl T.k_NEEDED) (nomark _)) (pss_one (ps_ret (pe_call (ok_needed_holds T) (hr.mono (by decide)) rfl T.g_needed_holds T.fun_needed_holds.kp T.b_needed_holds .nil pass0 (pa_cons (pv 0) (pa_cons (pe_ix ix_list (pv 2) pe_int (fun _ _ => rfl)) (pa_cons (pe_ix ix_list (pv 2) pe_int (fun _ _ => rfl)) pa_nil)))))) pss_nil)
  (pss_one (ps_ret (pe_call (ok_best_route T) (hr.mono (by decide)) rfl T.g_best_route T.fun_best_route.kp T.b_best_route .nil pass0 (pa_cons (pv 0) (pa_cons (pe_ix ix_list (pv 2) pe_int (fun _ _ => rfl)) pa_nil)))))))))), ?_⟩
    cases hC with
    | who_ n0 =>
      refine ⟨_, rfl, rfl, _, rfl, ite_yes (by decide) ?_⟩
      exact ⟨_, rfl, _, rfl, tl, _, _, _, rfl, rfl, hT, (at_of (j := 0) rfl rfl), L, a, n0, rfl, W, wf, k⟩
    | which_ n0 =>
      refine ⟨_, rfl, rfl, _, rfl, ite_no (by decide) ?_⟩
      refine ⟨_, rfl, rfl, _, rfl, ite_yes (by decide) ?_⟩
      exact ⟨_, rfl, _, rfl, tl, _, _, _, rfl, rfl, hT, (at_of (j := 0) rfl rfl), L, a, n0, rfl, W, wf, k⟩
    | reach_ n0 =>
      refine ⟨_, rfl, rfl, _, rfl, ite_no (by decide) ?_⟩
      refine ⟨_, rfl, rfl, _, rfl, ite_no (by decide) ?_⟩
      refine ⟨_, rfl, rfl, _, rfl, ite_yes (by decide) ?_⟩
      exact ⟨_, rfl, _, rfl, tl, _, _, _, rfl, rfl, hT, (at_of (j := 0) rfl rfl), L, a, n0, rfl, W, wf, k⟩
    | strong_ n0 =>
      refine ⟨_, rfl, rfl, _, rfl, ite_no (by decide) ?_⟩
      refine ⟨_, rfl, rfl, _, rfl, ite_no (by decide) ?_⟩
      refine ⟨_, rfl, rfl, _, rfl, ite_no (by decide) ?_⟩
      refine ⟨_, rfl, rfl, _, rfl, ite_yes (by decide) ?_⟩
      exact ⟨_, rfl, _, rfl, tl, _, _, _, rfl, rfl, hT, (at_of (j := 0) rfl rfl), L, a, n0, rfl, W, wf, k⟩
    | needed_ n0 n1 =>
      refine ⟨_, rfl, rfl, _, rfl, ite_no (by decide) ?_⟩
      refine ⟨_, rfl, rfl, _, rfl, ite_no (by decide) ?_⟩
      refine ⟨_, rfl, rfl, _, rfl, ite_no (by decide) ?_⟩
      refine ⟨_, rfl, rfl, _, rfl, ite_no (by decide) ?_⟩
      refine ⟨_, rfl, rfl, _, rfl, ite_yes (by decide) ?_⟩
      exact ⟨_, rfl, _, rfl, tl, _, _, _, rfl, rfl, hT, (at_of (j := 0) rfl rfl), _, rfl, tl, _, _, _, rfl, rfl, hT, (at_of (j := 1) rfl rfl), L, a, n0, n1, rfl, W, wf, k⟩
    | best_ n0 =>
      refine ⟨_, rfl, rfl, _, rfl, ite_no (by decide) ?_⟩
      refine ⟨_, rfl, rfl, _, rfl, ite_no (by decide) ?_⟩
      refine ⟨_, rfl, rfl, _, rfl, ite_no (by decide) ?_⟩
      refine ⟨_, rfl, rfl, _, rfl, ite_no (by decide) ?_⟩
      refine ⟨_, rfl, rfl, _, rfl, ite_no (by decide) ?_⟩
      exact ⟨_, rfl, _, rfl, tl, _, _, _, rfl, rfl, hT, (at_of (j := 0) rfl rfl), L, a, n0, rfl, W, wf, k⟩
    | _ => exact absurd hp (by decide)
def sp_answer_telling_call (K : PySem.W.Frag) (D : Dat) : Sp := fun vs H Q _ => ∃ (L : Lay) (a : Abs) (p : Nat) (tl : Addr) (ns row : List Nat) (x : Su55.Call), vs = [.ref L.p, nV p, .ref tl] ∧ WallAt D H L true a ∧ Wf a ∧ SqL K H tl (ns.map nV) ∧ CallN p ns row x ∧ p ∈ [18, 19, 20, 22, 23, 24, 25] ∧ Gives D H L a x Q
theorem ok_answer_telling_call (T : Txt K mg D) : FnOk P w K mg base CX0 5 D.f_answer_telling_call D.d_answer_telling_call ["wall", "call", "told"] (sp_answer_telling_call K D) := by
  refine T.fun_answer_telling_call.ok sc_answer_telling_call (fun vs H Q E h => ?_) (fun cdv A oenv s H vs Q E hr h => ?_)
  · obtain ⟨L, a, p, tl, ns, row, x, rfl, _⟩ := h
    rfl
  · obtain ⟨L, a, p, tl, ns, row, x, rfl, W, wf, hT, hC, hp, k⟩ := h
    refine ⟨_, (pss_cons (ps_if (pt_cmpR op_eq (pv 1) (pe_const rfl T.k_SPAN) (nomark _)) (pss_one (ps_ret (pe_call (ok_tell_span T) (hr.mono (by decide)) rfl T.g_tell_span T.fun_tell_span.kp T.b_tell_span .nil pass0 (pa_cons (pv 0) (pa_cons (pe_ix ix_list (pv 2) pe_int (fun _ _ => rfl)) (pa_cons (pe_ix ix_list (pv 2) pe_int (fun _ _ => rfl)) pa_nil)))))) pss_nil)
  (pss_cons (ps_if (pt_cmpR op_eq (pv 1) (pe_const rfl T.k_NEAR) (nomark _)) (pss_one (ps_ret (pe_call (ok_tell_near T) (hr.mono (by decide)) rfl T.g_tell_near T.fun_tell_near.kp T.b_tell_near .nil pass0 (pa_cons (pv 0) (pa_cons (pe_ix ix_list (pv 2) pe_int (fun _ _ => rfl)) (pa_cons (pe_ix ix_list (pv 2) pe_int (fun _ _ => rfl)) pa_nil)))))) pss_nil)
  (pss_cons (ps_if (pt_cmpR op_eq (pv 1) (pe_const rfl T.k_DUE) (nomark _)) (pss_one (ps_ret (pe_call (ok_tell_due T) (hr.mono (by decide)) rfl T.g_tell_due T.fun_tell_due.kp T.b_tell_due .nil pass0 (pa_cons (pv 0) (pa_cons (pe_ix ix_list (pv 2) pe_int (fun _ _ => rfl)) pa_nil))))) pss_nil)
  (pss_cons (ps_if (pt_cmpR op_eq (pv 1) (pe_const rfl T.k_LOOK) (nomark _)) (pss_one (ps_ret (pe_call (ok_look_at T) (hr.mono (by decide)) rfl T.g_look_at T.fun_look_at.kp T.b_look_at .nil pass0 (pa_cons (pv 0) (pa_cons (pe_ix ix_list (pv 2) pe_int (fun _ _ => rfl)) pa_nil))))) pss_nil)
  (pss_cons (ps_if (pt_cmpR op_eq (pv 1) (pe_const rfl T.k_TOLD) (nomark _)) (pss_one (ps_ret (pe_call (ok_tell_route T) (hr.mono (by decide)) rfl T.g_tell_route T.fun_tell_route.kp T.b_tell_route .nil pass0 (pa_cons (pv 0) (pa_cons (pe_ix ix_list (pv 2) pe_int (fun _ _ => rfl)) pa_nil))))) pss_nil)
  (pss_cons (ps_if (pt_cmpR op_eq (pv 1) (pe_const rfl T.k_LOG) (nomark _)) (pss_one (ps_ret (pe_call (ok_tell_log T) (hr.mono (by decide)) rfl T.g_tell_log T.fun_tell_log.kp T.b_tell_log .nil pass0 (pa_cons (pv 0) (pa_cons (pe_ix ix_list (pv 2) pe_int (fun _ _ => rfl)) pa_nil))))) pss_nil)
  (pss_one (ps_ret (pe_call (ok_tell_state T) (hr.mono (by decide)) rfl T.g_tell_state T.fun_tell_state.kp T.b_tell_state .nil pass0 (pa_cons (pv 0) pa_nil)))))))))), ?_⟩
    cases hC with
    | span_ n0 n1 =>
      refine ⟨_, rfl, rfl, _, rfl, ite_yes (by decide) ?_⟩
      exact ⟨_, rfl, _, rfl, tl, _, _, _, rfl, rfl, hT, (at_of (j := 0) rfl rfl), _, rfl, tl, _, _, _, rfl, rfl, hT, (at_of (j := 1) rfl rfl), L, a, n0, n1, rfl, W, wf, k⟩
    | near_ n0 n1 =>
      refine ⟨_, rfl, rfl, _, rfl, ite_no (by decide) ?_⟩
      refine ⟨_, rfl, rfl, _, rfl, ite_yes (by decide) ?_⟩
      exact ⟨_, rfl, _, rfl, tl, _, _, _, rfl, rfl, hT, (at_of (j := 0) rfl rfl), _, rfl, tl, _, _, _, rfl, rfl, hT, (at_of (j := 1) rfl rfl), L, a, n0, n1, rfl, W, wf, k⟩
    | due_ n0 =>
      refine ⟨_, rfl, rfl, _, rfl, ite_no (by decide) ?_⟩
      refine ⟨_, rfl, rfl, _, rfl, ite_no (by decide) ?_⟩
      refine ⟨_, rfl, rfl, _, rfl, ite_yes (by decide) ?_⟩
      exact ⟨_, rfl, _, rfl, tl, _, _, _, rfl, rfl, hT, (at_of (j := 0) rfl rfl), L, a, n0, rfl, W, wf, k⟩
    | look_ n0 =>
      refine ⟨_, rfl, rfl, _, rfl, ite_no (by decide) ?_⟩
      refine ⟨_, rfl, rfl, _, rfl, ite_no (by decide) ?_⟩
      refine ⟨_, rfl, rfl, _, rfl, ite_no (by decide) ?_⟩
      refine ⟨_, rfl, rfl, _, rfl, ite_yes (by decide) ?_⟩
      exact ⟨_, rfl, _, rfl, tl, _, _, _, rfl, rfl, hT, (at_of (j := 0) rfl rfl), L, a, n0, rfl, W, wf, k⟩
    | told_ n0 =>
      refine ⟨_, rfl, rfl, _, rfl, ite_no (by decide) ?_⟩
      refine ⟨_, rfl, rfl, _, rfl, ite_no (by decide) ?_⟩
      refine ⟨_, rfl, rfl, _, rfl, ite_no (by decide) ?_⟩
      refine ⟨_, rfl, rfl, _, rfl, ite_no (by decide) ?_⟩
      refine ⟨_, rfl, rfl, _, rfl, ite_yes (by decide) ?_⟩
      exact ⟨_, rfl, _, rfl, tl, _, _, _, rfl, rfl, hT, (at_of (j := 0) rfl rfl), L, a, n0, rfl, W, wf, k⟩
    | log_ n0 =>
      refine ⟨_, rfl, rfl, _, rfl, ite_no (by decide) ?_⟩
      refine ⟨_, rfl, rfl, _, rfl, ite_no (by decide) ?_⟩
      refine ⟨_, rfl, rfl, _, rfl, ite_no (by decide) ?_⟩
      refine ⟨_, rfl, rfl, _, rfl, ite_no (by decide) ?_⟩
      refine ⟨_, rfl, rfl, _, rfl, ite_no (by decide) ?_⟩
      refine ⟨_, rfl, rfl, _, rfl, ite_yes (by decide) ?_⟩
      exact ⟨_, rfl, _, rfl, tl, _, _, _, rfl, rfl, hT, (at_of (j := 0) rfl rfl), L, a, n0, rfl, W, wf, k⟩
    | state_ =>
      refine ⟨_, rfl, rfl, _, rfl, ite_no (by decide) ?_⟩
      refine ⟨_, rfl, rfl, _, rfl, ite_no (by decide) ?_⟩
      refine ⟨_, rfl, rfl, _, rfl, ite_no (by decide) ?_⟩
      refine ⟨_, rfl, rfl, _, rfl, ite_no (by decide) ?_⟩
      refine ⟨_, rfl, rfl, _, rfl, ite_no (by decide) ?_⟩
      refine ⟨_, rfl, rfl, _, rfl, ite_no (by decide) ?_⟩
      exact ⟨_, rfl, L, a, rfl, W, wf, k⟩
    | _ => exact absurd hp (by decide)
end
end Cw
end
section
set_option Elab.async false
set_option linter.all false
set_option maxRecDepth 100000
set_option maxHeartbeats 2000000
namespace Cw
open PySem PySem.Spec PyProof.Rows L2
open Su55 (Abs)
section
variable {P : Program} {w : World} {K : PySem.W.Frag} {mg : Str → Option Value} {base : Heap} {D : Dat}
theorem CallN.no_begin {p : Nat} {ns rs : List Nat} {x : Su55.Call} (h : CallN p ns rs x) : ∀ n, x ≠ .begin_ n := by
  intro n e
  subst e
  cases h
theorem CallN.pos {p : Nat} {ns rs : List Nat} {x : Su55.Call} (h : CallN p ns rs x) : 0 < p := by
  cases h <;> decide
theorem StAt.wall {H : Hp} {L : Lay} {s : Su55Neutral.S} (h : StAt D H L s) : ∃ (b : Bool) (a : Abs), WallAt D H L b a := by
  cases s with
  | none => exact ⟨_, _, h⟩
  | some a => exact ⟨_, _, h.1⟩
theorem ok_answer_call (T : Txt K mg D) : FnOk P w K mg base CX0 9 D.f_answer_call D.d_answer_call ["wall", "call", "told", "row"] (sp_answer_call K D) := by
  refine T.fun_answer_call.ok sc_answer_call (fun vs H Q E h => ?_) (fun cdv A oenv s H vs Q E hr h => ?_)
  · obtain ⟨L, st, p, tl, rw_, args, row, rfl, _⟩ := h
    rfl
  · obtain ⟨L, st, p, tl, rw_, args, row, rfl, S, hT, hR, cp, k⟩ := h
    refine ⟨_, (pss_cons (ps_if (pt_cmpR op_eq (pv 1) (pe_const rfl T.k_BEGIN) (nomark _)) (pss_one (ps_ret (pe_call (ok_begin T) (hr.mono (by decide)) rfl T.g_begin T.fun_begin.kp T.b_begin .nil pass0 (pa_cons (pv 0) (pa_cons (pe_ix ix_list (pv 2) pe_int (fun _ _ => rfl)) pa_nil))))) pss_nil)
  (pss_cons (ps_if (pt_not (pt_val (pe_fld (pv 0) rfl))) (pss_one (ps_ret (pe_lst (pa_cons (pe_const rfl T.k_NOT_BEGUN) pa_nil)))) pss_nil)
  (pss_cons (ps_if (pt_cmpR op_le (pv 1) (pe_const rfl T.k_TURN) (nomark _)) (pss_one (ps_ret (pe_call (ok_answer_hold_call T) (hr.mono (by decide)) rfl T.g_answer_hold_call T.fun_answer_hold_call.kp T.b_answer_hold_call .nil pass0 (pa_cons (pv 0) (pa_cons (pv 1) (pa_cons (pv 2) pa_nil)))))) pss_nil)
  (pss_cons (ps_if (pt_cmpR op_le (pv 1) (pe_const rfl T.k_TRAIN) (nomark _)) (pss_one (ps_ret (pe_call (ok_answer_people_call T) (hr.mono (by decide)) rfl T.g_answer_people_call T.fun_answer_people_call.kp T.b_answer_people_call .nil pass0 (pa_cons (pv 0) (pa_cons (pv 1) (pa_cons (pv 2) (pa_cons (pv 3) pa_nil))))))) pss_nil)
  (pss_cons (ps_if (pt_cmpR op_le (pv 1) (pe_const rfl T.k_CLIMB) (nomark _)) (pss_one (ps_ret (pe_call (ok_answer_climbing_call T) (hr.mono (by decide)) rfl T.g_answer_climbing_call T.fun_answer_climbing_call.kp T.b_answer_climbing_call .nil pass0 (pa_cons (pv 0) (pa_cons (pv 1) (pa_cons (pv 2) pa_nil)))))) pss_nil)
  (pss_cons (ps_if (PW.pt (pw_or (pt_cmpR op_le (pv 1) (pe_const rfl T.k_NEEDED) (nomark _)) (pw_or1 (pt_cmpR op_eq (pv 1) (pe_const rfl T.k_BEST) (nomark _))))) (pss_one (ps_ret (pe_call (ok_answer_asking_call T) (hr.mono (by decide)) rfl T.g_answer_asking_call T.fun_answer_asking_call.kp T.b_answer_asking_call .nil pass0 (pa_cons (pv 0) (pa_cons (pv 1) (pa_cons (pv 2) pa_nil)))))) pss_nil)
  (pss_one (ps_ret (pe_call (ok_answer_telling_call T) (hr.mono (by decide)) rfl T.g_answer_telling_call T.fun_answer_telling_call.kp T.b_answer_telling_call .nil pass0 (pa_cons (pv 0) (pa_cons (pv 1) (pa_cons (pv 2) pa_nil)))))))))))), ?_⟩
    by_cases h0 : p = 0
    · subst h0
      obtain ⟨n, rfl, rfl, hx⟩ := callN_begin cp
      obtain ⟨b, a, W⟩ := S.wall
      obtain ⟨k1, k2⟩ := begin_of S hx k
      refine ⟨_, rfl, rfl, _, rfl, ite_yes (by decide) ?_⟩
      exact ⟨_, rfl, _, rfl, tl, _, _, _, rfl, rfl, hT, (at_of (j := 0) rfl rfl), L, b, a, n, rfl, W, k1, k2⟩
    · obtain ⟨p, ns, row, x, rfl, rfl, rfl, hC, hx⟩ := callN_of cp h0
      rw [← nV_ints] at hT hR
      have hp := hC.pos
      refine ⟨_, rfl, rfl, _, rfl, ite_no (decide_eq_false (fun z => by injection z with z; omega)) ?_⟩
      cases st with
      | none =>
        obtain ⟨dx, hw⟩ := WallAt.wall S
        exact ⟨_, rfl, L.p, _, dx, _, _, rfl, hw, T.cl_Wall, T.na_Wall_begun, lk_begun _ _ _ _ _, _, rfl, ite_yes rfl ⟨(by show 1 ≤ sizeLine; decide), not_begun S hx hC.no_begin k⟩⟩
      | some a =>
        obtain ⟨W, wf⟩ := S
        obtain ⟨dx, hw⟩ := W.wall
        have k := gives_of wf hx k
        clear hx cp h0 hp
        refine ⟨_, rfl, L.p, _, dx, _, _, rfl, hw, T.cl_Wall, T.na_Wall_begun, lk_begun _ _ _ _ _, _, rfl, ite_no rfl ?_⟩
        cases hC with
        | hold_ n0 n1 n2 =>
          refine ⟨_, rfl, _, _, rfl, rfl, _, rfl, ite_yes (by decide) ?_⟩
          refine ⟨_, rfl, _, rfl, _, rfl, L, a, 1, tl, [n0, n1, n2], _, _, rfl, W, wf, hT, .hold_ n0 n1 n2, by decide, k⟩
        | shift_ n0 n1 n2 =>
          refine ⟨_, rfl, _, _, rfl, rfl, _, rfl, ite_yes (by decide) ?_⟩
          refine ⟨_, rfl, _, rfl, _, rfl, L, a, 2, tl, [n0, n1, n2], _, _, rfl, W, wf, hT, .shift_ n0 n1 n2, by decide, k⟩
        | off_ n0 =>
          refine ⟨_, rfl, _, _, rfl, rfl, _, rfl, ite_yes (by decide) ?_⟩
          refine ⟨_, rfl, _, rfl, _, rfl, L, a, 3, tl, [n0], _, _, rfl, W, wf, hT, .off_ n0, by decide, k⟩
        | back_ n0 =>
          refine ⟨_, rfl, _, _, rfl, rfl, _, rfl, ite_yes (by decide) ?_⟩
          refine ⟨_, rfl, _, rfl, _, rfl, L, a, 4, tl, [n0], _, _, rfl, W, wf, hT, .back_ n0, by decide, k⟩
        | turn_ n0 n1 =>
          refine ⟨_, rfl, _, _, rfl, rfl, _, rfl, ite_yes (by decide) ?_⟩
          refine ⟨_, rfl, _, rfl, _, rfl, L, a, 5, tl, [n0, n1], _, _, rfl, W, wf, hT, .turn_ n0 n1, by decide, k⟩
        | route_ n0 _ hrow =>
          refine ⟨_, rfl, _, _, rfl, rfl, _, rfl, ite_no (by decide) ?_⟩
          refine ⟨_, rfl, _, _, rfl, rfl, _, rfl, ite_yes (by decide) ?_⟩
          refine ⟨_, rfl, _, rfl, _, rfl, _, rfl, L, a, 6, tl, rw_, [n0], _, _, rfl, W, wf, hT, hR, .route_ n0 row hrow, by decide, k⟩
        | climber_ n0 n1 n2 =>
          refine ⟨_, rfl, _, _, rfl, rfl, _, rfl, ite_no (by decide) ?_⟩
          refine ⟨_, rfl, _, _, rfl, rfl, _, rfl, ite_yes (by decide) ?_⟩
          refine ⟨_, rfl, _, rfl, _, rfl, _, rfl, L, a, 7, tl, rw_, [n0, n1, n2], _, _, rfl, W, wf, hT, hR, .climber_ n0 n1 n2, by decide, k⟩
        | train_ n0 n1 =>
          refine ⟨_, rfl, _, _, rfl, rfl, _, rfl, ite_no (by decide) ?_⟩
          refine ⟨_, rfl, _, _, rfl, rfl, _, rfl, ite_yes (by decide) ?_⟩
          refine ⟨_, rfl, _, rfl, _, rfl, _, rfl, L, a, 8, tl, rw_, [n0, n1], _, _, rfl, W, wf, hT, hR, .train_ n0 n1, by decide, k⟩
        | can_ n0 n1 =>
          refine ⟨_, rfl, _, _, rfl, rfl, _, rfl, ite_no (by decide) ?_⟩
          refine ⟨_, rfl, _, _, rfl, rfl, _, rfl, ite_no (by decide) ?_⟩
          refine ⟨_, rfl, _, _, rfl, rfl, _, rfl, ite_yes (by decide) ?_⟩
          refine ⟨_, rfl, _, rfl, _, rfl, L, a, 9, tl, [n0, n1], _, _, rfl, W, wf, hT, .can_ n0 n1, by decide, k⟩
        | fewest_ n0 n1 =>
          refine ⟨_, rfl, _, _, rfl, rfl, _, rfl, ite_no (by decide) ?_⟩
          refine ⟨_, rfl, _, _, rfl, rfl, _, rfl, ite_no (by decide) ?_⟩
          refine ⟨_, rfl, _, _, rfl, rfl, _, rfl, ite_yes (by decide) ?_⟩
          refine ⟨_, rfl, _, rfl, _, rfl, L, a, 10, tl, [n0, n1], _, _, rfl, W, wf, hT, .fewest_ n0 n1, by decide, k⟩
        | way_ n0 n1 =>
          refine ⟨_, rfl, _, _, rfl, rfl, _, rfl, ite_no (by decide) ?_⟩
          refine ⟨_, rfl, _, _, rfl, rfl, _, rfl, ite_no (by decide) ?_⟩
          refine ⟨_, rfl, _, _, rfl, rfl, _, rfl, ite_yes (by decide) ?_⟩
          refine ⟨_, rfl, _, rfl, _, rfl, L, a, 11, tl, [n0, n1], _, _, rfl, W, wf, hT, .way_ n0 n1, by decide, k⟩
        | climb_ n0 n1 =>
          refine ⟨_, rfl, _, _, rfl, rfl, _, rfl, ite_no (by decide) ?_⟩
          refine ⟨_, rfl, _, _, rfl, rfl, _, rfl, ite_no (by decide) ?_⟩
          refine ⟨_, rfl, _, _, rfl, rfl, _, rfl, ite_yes (by decide) ?_⟩
          refine ⟨_, rfl, _, rfl, _, rfl, L, a, 12, tl, [n0, n1], _, _, rfl, W, wf, hT, .climb_ n0 n1, by decide, k⟩
        | who_ n0 =>
          refine ⟨_, rfl, _, _, rfl, rfl, _, rfl, ite_no (by decide) ?_⟩
          refine ⟨_, rfl, _, _, rfl, rfl, _, rfl, ite_no (by decide) ?_⟩
          refine ⟨_, rfl, _, _, rfl, rfl, _, rfl, ite_no (by decide) ?_⟩
          refine ⟨_, rfl, _, _, rfl, rfl, _, rfl, ite_yes (by decide) (ite_yes rfl ?_)⟩
          refine ⟨_, rfl, _, rfl, _, rfl, L, a, 13, tl, [n0], _, _, rfl, W, wf, hT, .who_ n0, by decide, k⟩
        | which_ n0 =>
          refine ⟨_, rfl, _, _, rfl, rfl, _, rfl, ite_no (by decide) ?_⟩
          refine ⟨_, rfl, _, _, rfl, rfl, _, rfl, ite_no (by decide) ?_⟩
          refine ⟨_, rfl, _, _, rfl, rfl, _, rfl, ite_no (by decide) ?_⟩
          refine ⟨_, rfl, _, _, rfl, rfl, _, rfl, ite_yes (by decide) (ite_yes rfl ?_)⟩
          refine ⟨_, rfl, _, rfl, _, rfl, L, a, 14, tl, [n0], _, _, rfl, W, wf, hT, .which_ n0, by decide, k⟩
        | reach_ n0 =>
          refine ⟨_, rfl, _, _, rfl, rfl, _, rfl, ite_no (by decide) ?_⟩
          refine ⟨_, rfl, _, _, rfl, rfl, _, rfl, ite_no (by decide) ?_⟩
          refine ⟨_, rfl, _, _, rfl, rfl, _, rfl, ite_no (by decide) ?_⟩
          refine ⟨_, rfl, _, _, rfl, rfl, _, rfl, ite_yes (by decide) (ite_yes rfl ?_)⟩
          refine ⟨_, rfl, _, rfl, _, rfl, L, a, 15, tl, [n0], _, _, rfl, W, wf, hT, .reach_ n0, by decide, k⟩
        | strong_ n0 =>
          refine ⟨_, rfl, _, _, rfl, rfl, _, rfl, ite_no (by decide) ?_⟩
          refine ⟨_, rfl, _, _, rfl, rfl, _, rfl, ite_no (by decide) ?_⟩
          refine ⟨_, rfl, _, _, rfl, rfl, _, rfl, ite_no (by decide) ?_⟩
          refine ⟨_, rfl, _, _, rfl, rfl, _, rfl, ite_yes (by decide) (ite_yes rfl ?_)⟩
          refine ⟨_, rfl, _, rfl, _, rfl, L, a, 16, tl, [n0], _, _, rfl, W, wf, hT, .strong_ n0, by decide, k⟩
        | needed_ n0 n1 =>
          refine ⟨_, rfl, _, _, rfl, rfl, _, rfl, ite_no (by decide) ?_⟩
          refine ⟨_, rfl, _, _, rfl, rfl, _, rfl, ite_no (by decide) ?_⟩
          refine ⟨_, rfl, _, _, rfl, rfl, _, rfl, ite_no (by decide) ?_⟩
          refine ⟨_, rfl, _, _, rfl, rfl, _, rfl, ite_yes (by decide) (ite_yes rfl ?_)⟩
          refine ⟨_, rfl, _, rfl, _, rfl, L, a, 17, tl, [n0, n1], _, _, rfl, W, wf, hT, .needed_ n0 n1, by decide, k⟩
        | span_ n0 n1 =>
          refine ⟨_, rfl, _, _, rfl, rfl, _, rfl, ite_no (by decide) ?_⟩
          refine ⟨_, rfl, _, _, rfl, rfl, _, rfl, ite_no (by decide) ?_⟩
          refine ⟨_, rfl, _, _, rfl, rfl, _, rfl, ite_no (by decide) ?_⟩
          refine ⟨_, rfl, _, _, rfl, rfl, _, rfl, ite_no (by decide) ⟨_, rfl, rfl, _, rfl, ite_no (by decide) ?_⟩⟩
          refine ⟨_, rfl, _, rfl, _, rfl, L, a, 18, tl, [n0, n1], _, _, rfl, W, wf, hT, .span_ n0 n1, by decide, k⟩
        | near_ n0 n1 =>
          refine ⟨_, rfl, _, _, rfl, rfl, _, rfl, ite_no (by decide) ?_⟩
          refine ⟨_, rfl, _, _, rfl, rfl, _, rfl, ite_no (by decide) ?_⟩
          refine ⟨_, rfl, _, _, rfl, rfl, _, rfl, ite_no (by decide) ?_⟩
          refine ⟨_, rfl, _, _, rfl, rfl, _, rfl, ite_no (by decide) ⟨_, rfl, rfl, _, rfl, ite_no (by decide) ?_⟩⟩
          refine ⟨_, rfl, _, rfl, _, rfl, L, a, 19, tl, [n0, n1], _, _, rfl, W, wf, hT, .near_ n0 n1, by decide, k⟩
        | due_ n0 =>
          refine ⟨_, rfl, _, _, rfl, rfl, _, rfl, ite_no (by decide) ?_⟩
          refine ⟨_, rfl, _, _, rfl, rfl, _, rfl, ite_no (by decide) ?_⟩
          refine ⟨_, rfl, _, _, rfl, rfl, _, rfl, ite_no (by decide) ?_⟩
          refine ⟨_, rfl, _, _, rfl, rfl, _, rfl, ite_no (by decide) ⟨_, rfl, rfl, _, rfl, ite_no (by decide) ?_⟩⟩
          refine ⟨_, rfl, _, rfl, _, rfl, L, a, 20, tl, [n0], _, _, rfl, W, wf, hT, .due_ n0, by decide, k⟩
        | best_ n0 =>
          refine ⟨_, rfl, _, _, rfl, rfl, _, rfl, ite_no (by decide) ?_⟩
          refine ⟨_, rfl, _, _, rfl, rfl, _, rfl, ite_no (by decide) ?_⟩
          refine ⟨_, rfl, _, _, rfl, rfl, _, rfl, ite_no (by decide) ?_⟩
          refine ⟨_, rfl, _, _, rfl, rfl, _, rfl, ite_no (by decide) ⟨_, rfl, rfl, _, rfl, ite_yes (by decide) ?_⟩⟩
          refine ⟨_, rfl, _, rfl, _, rfl, L, a, 21, tl, [n0], _, _, rfl, W, wf, hT, .best_ n0, by decide, k⟩
        | look_ n0 =>
          refine ⟨_, rfl, _, _, rfl, rfl, _, rfl, ite_no (by decide) ?_⟩
          refine ⟨_, rfl, _, _, rfl, rfl, _, rfl, ite_no (by decide) ?_⟩
          refine ⟨_, rfl, _, _, rfl, rfl, _, rfl, ite_no (by decide) ?_⟩
          refine ⟨_, rfl, _, _, rfl, rfl, _, rfl, ite_no (by decide) ⟨_, rfl, rfl, _, rfl, ite_no (by decide) ?_⟩⟩
          refine ⟨_, rfl, _, rfl, _, rfl, L, a, 22, tl, [n0], _, _, rfl, W, wf, hT, .look_ n0, by decide, k⟩
        | told_ n0 =>
          refine ⟨_, rfl, _, _, rfl, rfl, _, rfl, ite_no (by decide) ?_⟩
          refine ⟨_, rfl, _, _, rfl, rfl, _, rfl, ite_no (by decide) ?_⟩
          refine ⟨_, rfl, _, _, rfl, rfl, _, rfl, ite_no (by decide) ?_⟩
          refine ⟨_, rfl, _, _, rfl, rfl, _, rfl, ite_no (by decide) ⟨_, rfl, rfl, _, rfl, ite_no (by decide) ?_⟩⟩
          refine ⟨_, rfl, _, rfl, _, rfl, L, a, 23, tl, [n0], _, _, rfl, W, wf, hT, .told_ n0, by decide, k⟩
        | log_ n0 =>
          refine ⟨_, rfl, _, _, rfl, rfl, _, rfl, ite_no (by decide) ?_⟩
          refine ⟨_, rfl, _, _, rfl, rfl, _, rfl, ite_no (by decide) ?_⟩
          refine ⟨_, rfl, _, _, rfl, rfl, _, rfl, ite_no (by decide) ?_⟩
          refine ⟨_, rfl, _, _, rfl, rfl, _, rfl, ite_no (by decide) ⟨_, rfl, rfl, _, rfl, ite_no (by decide) ?_⟩⟩
          refine ⟨_, rfl, _, rfl, _, rfl, L, a, 24, tl, [n0], _, _, rfl, W, wf, hT, .log_ n0, by decide, k⟩
        | state_ =>
          refine ⟨_, rfl, _, _, rfl, rfl, _, rfl, ite_no (by decide) ?_⟩
          refine ⟨_, rfl, _, _, rfl, rfl, _, rfl, ite_no (by decide) ?_⟩
          refine ⟨_, rfl, _, _, rfl, rfl, _, rfl, ite_no (by decide) ?_⟩
          refine ⟨_, rfl, _, _, rfl, rfl, _, rfl, ite_no (by decide) ⟨_, rfl, rfl, _, rfl, ite_no (by decide) ?_⟩⟩
          refine ⟨_, rfl, _, rfl, _, rfl, L, a, 25, tl, [], _, _, rfl, W, wf, hT, .state_, by decide, k⟩
end
end Cw
end
section
set_option Elab.async false
set_option linter.all false
set_option maxRecDepth 100000
set_option maxHeartbeats 2000000
namespace Cw
open PySem PySem.Spec PyProof.Rows L2
open Su55 (Abs)
section
variable {P : Program} {w : World} {K : PySem.W.Frag} {mg : Str → Option Value} {base : Heap} {D : Dat}
theorem asked_raw {l : List Int} (h : PySu55.answers_asked l = true) : ∃ raw, PyFlat.calls PySu55.shape l.length l = some raw ∧ (∀ c ∈ raw, Su55Neutral.asked1 ((PySu55.whole c).headD []) = true) ∧ (PySu55.answers l).length ≤ 10000000 := by
  unfold PySu55.answers_asked at h
  cases e : PyFlat.calls PySu55.shape l.length l with
  | none => rw [e] at h; cases h
  | some raw =>
    rw [e] at h
    dsimp only at h
    rw [Bool.and_eq_true, Bool.and_eq_true] at h
    obtain ⟨⟨_, h2⟩, h3⟩ := h
    refine ⟨raw, rfl, fun c hc => ?_, ?_⟩
    · unfold Su55Neutral.asked at h2
      rw [Bool.and_eq_true] at h2
      exact List.all_eq_true.mp h2.2 _ (List.mem_map.mpr ⟨PySu55.whole c, List.mem_map.mpr ⟨c, hc, rfl⟩, rfl⟩)
    · unfold PyFlat.short at h3
      exact of_decide_eq_true h3
theorem asked_row {d : Int} {row : List Int} (h : Su55Neutral.asked1 ((PySu55.whole [[6, d], row]).headD []) = true) : row.length ≤ 12 := by
  have h' : (Su55Neutral.natural d 32 && (decide (row.length ≤ 12) && row.all fun z => Su55Neutral.natural z 32)) = true := h
  rw [Bool.and_eq_true, Bool.and_eq_true, decide_eq_true_eq] at h'
  exact h'.2.1
def spAns (K : PySem.W.Frag) : Sp := fun vs H Q _ => ∃ (a : Addr) (l : List Int), vs = [.ref a] ∧ SqL K H a (l.map V.int) ∧ l.length ≤ 6000 ∧ (∀ x ∈ l, 0 ≤ x) ∧ PySu55.answers_asked l = true ∧ ∀ (H' : Hp) (p : Addr), H' p = some (.lst ((PySu55.answers l).map V.int)) → Q (.ref p) H'
structure Loop (D : Dat) (H0 H : Hp) (x g : Addr) (L : Lay) (l : List Int) (i : Nat) (s : Su55Neutral.S) (gv : List Int) (cs : List (List (List Int))) (f : Nat) : Prop where
  st : StAt D H L s
  hp : L.p = x
  given : H g = some (.lst (gv.map V.int))
  out : ¬ L.Foot g
  keep : ∀ c o, H0 c = some o → H c = some o ∧ ¬ L.Foot c
  le : i ≤ l.length
  cl : PyFlat.calls PySu55.shape f (l.drop i) = some cs
  ok : ∀ c ∈ cs, Su55Neutral.asked1 ((PySu55.whole c).headD []) = true
  eq : PySu55.answers l = gv ++ due s cs
theorem Loop.next {H0 H1 H2 H3 : Hp} {x g al : Addr} {L L' : Lay} {l : List Int} {i i' f f' : Nat} {s : Su55Neutral.S} {gv : List Int} {c : List (List Int)} {cs' : List (List (List Int))} {r : Su55Neutral.S × List Int} (I : Loop D H0 H1 x g L l i s gv (c :: cs') f) (hg0 : H0 g = none) (s2 : Same H1 H2) (hr : stp s (PySu55.whole c) = r)
    (hst : StAt D H3 L' r.1) (mv : Moved H2 L H3 L') (hal : H3 al = some (.lst (r.2.map V.int))) (hn : H2 al = none) (hc : PyFlat.calls PySu55.shape f' (l.drop i') = some cs') (hle : i' ≤ l.length) {o1 : HO} :
    Loop D H0 (upd (upd H3 g o1) g (.lst ((gv.map V.int ++ [V.int ((r.2.map V.int).length : Int)]) ++ r.2.map V.int))) x g L' l i' r.1 (gv ++ (r.2.length : Int) :: r.2) cs' f' := by
  have hg2 := s2 _ _ I.given
  have hgF : ¬ L'.Foot g := fun q => (mv.foot g q).elim I.out fun z => by rw [hg2] at z; cases z
  refine ⟨hst.keep fun q o e hq => ?_, mv.same.trans I.hp, ?_, hgF, fun q o e => ⟨?_, fun z => ?_⟩, hle, hc, fun d hd => I.ok d (List.mem_cons_of_mem _ hd), ?_⟩
  · have hqg : q ≠ g := fun z => hgF (by rw [← z]; exact hq)
    rw [upd_ne hqg, upd_ne hqg]
    exact e
  · rw [upd_same]
    congr 2
    rw [List.length_map, List.map_append, List.map_cons, List.append_assoc]
    rfl
  · have hqg := ne_of_none e hg0
    rw [upd_ne hqg, upd_ne hqg]
    obtain ⟨e1, e2⟩ := I.keep q o e
    exact mv.keep q o (s2 _ _ e1) e2
  · obtain ⟨e1, e2⟩ := I.keep q o e
    exact (mv.foot q z).elim e2 fun z2 => by rw [s2 _ _ e1] at z2; cases z2
  · have q := I.eq
    rw [due_cons, hr, ← List.append_assoc] at q
    exact q
theorem ok_answers (T : Txt K mg D) : FnOk P w K mg base CX0 10 D.f_answers D.d_answers ["calls"] (spAns K) := by
  refine T.fun_answers.ok sc_answers (fun vs H Q E h => ?_) (fun cdv A oenv s H vs Q E hr h => ?_)
  · obtain ⟨a, l, rfl, _⟩ := h
    rfl
  · obtain ⟨a, l, rfl, hS, hz, hpos, hask, k⟩ := h
    obtain ⟨raw, hraw, hok, hlen⟩ := asked_raw hask
    refine ⟨_, (pss_cons (ps_set (i := 1) sc_answers.nd rfl loc_ (pe_make0 T.mk_Wall (ok_Wall T) (hr.mono (by decide)) rfl T.g_Wall T.b_Wall .nil pass0))
  (pss_cons (ps_set (i := 2) sc_answers.nd rfl loc_ (pe_lst pa_nil))
  (pss_cons (ps_set (i := 3) sc_answers.nd rfl loc_ pe_int)
  (pss_cons (ps_while PassesOwn.never (pt_cmpR op_lt (pv 3) (pe_callB cr_len rfl T.n_len bt_len (pa_cons (pv 0) pa_nil)) (nomark _))
  (pss_cons (ps_set (i := 4) sc_answers.nd rfl loc_ (pe_ix ix_list (pv 0) (pv 3) (fun _ _ => rfl)))
  (pss_cons (ps_set (i := 5) sc_answers.nd rfl loc_ (pe_op op_add (pe_op op_add (pv 3) pe_int) (pe_ix ix_tup (pe_glob (v := .ref D.a_WIDTHS) rfl T.k_WIDTHS rfl) (pv 4) (fun _ _ => rfl))))
  (pss_cons (ps_set (i := 6) sc_answers.nd rfl loc_ (pe_slice sl_list (pv 0) (po_some (pe_op op_add (pv 3) pe_int)) (po_some (pv 5))))
  (pss_cons (ps_set (i := 7) sc_answers.nd rfl loc_ (pe_lst pa_nil))
  (pss_cons (ps_set (i := 3) sc_answers.nd rfl loc_ (pv 5))
  (pss_cons (ps_if (pt_cmpR op_eq (pv 4) (pe_const rfl T.k_ROUTE) (nomark _)) (pss_cons (ps_set (i := 3) sc_answers.nd rfl loc_ (pe_op op_add (pe_op op_add (pv 5) pe_int) (pe_ix ix_list (pv 0) (pv 5) (fun _ _ => rfl))))
  (pss_one (ps_set (i := 7) sc_answers.nd rfl loc_ (pe_slice sl_list (pv 0) (po_some (pe_op op_add (pv 5) pe_int)) (po_some (pv 3)))))) pss_nil)
  (pss_cons (ps_set (i := 8) sc_answers.nd rfl loc_ (pe_call (ok_answer_call T) (hr.mono (by decide)) rfl T.g_answer_call T.fun_answer_call.kp T.b_answer_call .nil pass0 (pa_cons (pv 1) (pa_cons (pv 4) (pa_cons (pv 6) (pa_cons (pv 7) pa_nil))))))
  (pss_cons (ps_expr (pe_bm PySem.F.plainAttrs_list PySem.F.slot_list_append PySem.F.type_list_append mt_append (pv 2) (pa_cons (pe_callB cr_len rfl T.n_len bt_len (pa_cons (pv 8) pa_nil)) pa_nil)))
  (pss_one (ps_expr (pe_bm PySem.F.plainAttrs_list PySem.F.slot_list_extend PySem.F.type_list_extend mt_extend (pv 2) (pa_cons (pv 8) pa_nil)))))))))))))
  (pss_one (ps_ret (pv 2))))))), ?_⟩
    refine fun x dx hx hdx hne => ⟨x, dx, rfl, upd_same, fun H1 L hL W kp ft => ⟨rfl, Nat.zero_le _, fun g hg => ?_⟩⟩
    have kp1 : Same H H1 := Same.made hx hdx kp
    have hg0 : H g = none := Same.free kp1 hg
    have hLout : ∀ c, L.Foot c → H c = none := fun c hc => by
      rcases ft c hc with e | e
      · rw [e]; exact hx
      · cases q : H c with
        | none => rfl
        | some o =>
          have e1 : (upd (upd H dx (.own x)) x (.ins D.c_Wall dx [])) c = some o := by
            rw [upd_ne (ne_of_none q hx), upd_ne (ne_of_none q hdx)]
            exact q
          rw [e1] at e
          cases e
    have sg := same_new (o := .lst []) hg
    have I0 : Loop D H (upd H1 g (.lst [])) x g L l 0 none [] raw l.length := ⟨W.same sg, hL, upd_same, W.out hg, fun c o e => ⟨sg _ _ (kp1 _ _ e), fun q => by rw [hLout c q] at e; cases e⟩, Nat.zero_le _, hraw, hok, by rw [answers_due hraw]; rfl⟩
    refine ⟨fun m σ H' => ∃ (i : Nat) (v4 v5 v6 v7 v8 : Option V) (L : Lay) (s : Su55Neutral.S) (gv : List Int) (cs : List (List (List Int))) (f : Nat), m = l.length - i ∧ σ = [some (.ref a), some (.ref x), some (.ref g), some (nV i), v4, v5, v6, v7, v8] ∧ Loop D H H' x g L l i s gv cs f,
      ⟨_, 0, none, none, none, none, none, L, none, [], raw, _, rfl, rfl, I0⟩, ?_⟩
    rintro m σ H1 ⟨i, v4, v5, v6, v7, v8, L, s, gv, cs, f, rfl, rfl, I⟩
    have hS1 : SqL K H1 a (l.map V.int) := Same.seq (fun c o e => (I.keep c o e).1) hS
    refine ⟨_, rfl, _, rfl, a, _, rfl, .inl hS1, _, _, rfl, rfl, _, rfl, ite2 (fun h1 => ?_) (fun h1 => ?_)⟩
    · rw [decide_eq_true_eq, List.length_map] at h1
      have hlt : i < l.length := by omega
      obtain ⟨p, n, kk, f', c, cs', hp, hsh, hn, ecs, hcase⟩ := parse I.cl hlt
      subst ecs
      refine ⟨fun σ' H' => ∃ (i' : Nat) (v4 v5 v6 v7 v8 : Option V) (L : Lay) (s : Su55Neutral.S) (gv : List Int) (cs : List (List (List Int))) (f : Nat), i < i' ∧ σ' = [some (.ref a), some (.ref x), some (.ref g), some (nV i'), v4, v5, v6, v7, v8] ∧ Loop D H H' x g L l i' s gv cs f,
        fun σ' H' ⟨i', v4, v5, v6, v7, v8, L, s, gv, cs, f, q1, q2, q3⟩ => ⟨l.length - i', by have := q3.le; omega, i', v4, v5, v6, v7, v8, L, s, gv, cs, f, rfl, q2, q3⟩, ?_⟩
      obtain ⟨jw, ejw, hwd⟩ := widths_at hsh
      refine ⟨_, rfl, _, rfl, a, _, _, _, rfl, rfl, hS1, atI_nat (by rw [List.getElem?_map, hp]; rfl), ?_⟩
      refine ⟨_, rfl, _, _, rfl, rfl, _, rfl, D.a_WIDTHS, _, _, _, rfl, rfl, T.q_WIDTHS _, hwd, _, _, rfl, rfl, ?_⟩
      have e1 : ((i : Int) + 1 + (n : Int)) = ((i + 1 + n : Nat) : Int) := by omega
      refine ⟨_, rfl, _, rfl, _, _, rfl, rfl, _, rfl, _, rfl, _, rfl, a, _, rfl, hS1, fun tl htl => ?_⟩
      have ecut : cutV (l.map V.int) (some ((i : Int) + 1)) (some ((i : Int) + 1 + (n : Int))) = ((l.drop (i + 1)).take n).map V.int := by
        rw [e1]
        exact cut_eq (lo := i + 1) (n := n) hn
      rw [ecut]
      have st1 := same_new (o := .lst (((l.drop (i + 1)).take n).map V.int)) htl
      have htl1 : upd H1 tl (.lst (((l.drop (i + 1)).take n).map V.int)) tl = some (.lst (((l.drop (i + 1)).take n).map V.int)) := upd_same
      generalize upd H1 tl (.lst (((l.drop (i + 1)).take n).map V.int)) = Ha at st1 htl1
      refine ⟨Nat.zero_le _, fun r0 hr0 => ?_⟩
      have st2 := same_new (o := .lst []) hr0
      have hr1 : upd Ha r0 (.lst []) r0 = some (.lst []) := upd_same
      generalize upd Ha r0 (.lst []) = Hb at st2 hr1
      have stb := st1.trans st2
      have htl2 := st2 _ _ htl1
      refine ⟨_, rfl, ?_⟩
      have hargs : ((l.drop (i + 1)).take n).length = n := by
        rw [List.length_take, List.length_drop]
        omega
      have hapos : ∀ y ∈ (l.drop (i + 1)).take n, 0 ≤ y := fun y hy => hpos y (List.mem_of_mem_drop (List.mem_of_mem_take hy))
      refine ⟨_, rfl, rfl, _, rfl, ite2 (fun h6 => ?_) (fun h6 => ?_)⟩
      · rw [int_eq] at h6
        rcases hcase with ⟨_, q6, _⟩ | ⟨_, _, hn1, mm, hmm, hmle, ec, hcs'⟩
        · exact absurd h6 q6
        have hSb : SqL K Hb a (l.map V.int) := stb.seq hS1
        refine ⟨_, rfl, _, _, rfl, rfl, _, rfl, _, rfl, a, _, _, _, rfl, rfl, hSb, at_of (j := i + 1 + n) e1 (by rw [List.getElem?_map, hmm]; rfl), _, _, rfl, rfl, ?_⟩
        refine ⟨_, rfl, _, rfl, _, _, rfl, rfl, _, rfl, _, rfl, _, rfl, a, _, rfl, hSb, fun rw_ hrw => ?_⟩
        have e2 : ((i : Int) + 1 + (n : Int) + 1 + (mm : Int)) = ((i + 1 + n + 1 + mm : Nat) : Int) := by omega
        have e3 : ((i : Int) + 1 + (n : Int) + 1) = ((i + 1 + n + 1 : Nat) : Int) := by omega
        have ecut2 : cutV (l.map V.int) (some ((i : Int) + 1 + (n : Int) + 1)) (some ((i : Int) + 1 + (n : Int) + 1 + (mm : Int))) = ((l.drop (i + 1 + n + 1)).take mm).map V.int := by
          rw [e2, e3]
          exact cut_eq (lo := i + 1 + n + 1) (n := mm) hmle
        rw [ecut2]
        have st3 := same_new (o := .lst (((l.drop (i + 1 + n + 1)).take mm).map V.int)) hrw
        have hRw : upd Hb rw_ (.lst (((l.drop (i + 1 + n + 1)).take mm).map V.int)) rw_ = some (.lst (((l.drop (i + 1 + n + 1)).take mm).map V.int)) := upd_same
        generalize upd Hb rw_ (.lst (((l.drop (i + 1 + n + 1)).take mm).map V.int)) = H2 at st3 hRw
        have s2 := stb.trans st3
        have hT := st3 _ _ htl2
        have hok6 := I.ok c (List.mem_cons_self ..)
        have hst : stp s (PySu55.whole c) = Su55Neutral.step s (p :: ((l.drop (i + 1)).take n ++ (l.drop (i + 1 + n + 1)).take mm)) := by
          unfold stp
          rw [ec, h6]
          obtain ⟨d, ed⟩ := len1 (hargs.trans hn1)
          rw [ed]
          rfl
        have hrow : ((l.drop (i + 1 + n + 1)).take mm).length ≤ 12 := by
          rw [ec, h6] at hok6
          obtain ⟨d, ed⟩ := len1 (hargs.trans hn1)
          rw [ed] at hok6
          exact asked_row hok6
        have cp : CallPre p ((l.drop (i + 1)).take n) ((l.drop (i + 1 + n + 1)).take mm) := ⟨⟨kk, by rw [hargs]; exact hsh⟩, fun q => absurd h6 q, hapos, fun y hy => hpos y (List.mem_of_mem_drop (List.mem_of_mem_take hy)), hrow⟩
        have hle' := hmle
        have hlt' : i < i + 1 + n + 1 + mm := by omega
        refine ⟨_, rfl, _, rfl, _, rfl, _, rfl, L, s, p, tl, _, _, _, (by rw [I.hp]; rfl), I.st.same s2, SqL.of hT, SqL.of hRw, cp, fun H3 L' al hst3 mv hal hnf hnn => ?_⟩
        rw [← hst] at hst3 hal
        have hg2 := s2 _ _ I.given
        have hg3 := mv.keep _ _ hg2 I.out
        have hag : al ≠ g := fun z => by rw [z, hg2] at hnn; cases hnn
        have hbig : gv.length + ((stp s (PySu55.whole c)).2.length + 1) ≤ 10000000 := by
          have q := congrArg List.length I.eq
          rw [due_cons, List.length_append, List.length_append, List.length_cons] at q
          omega
        have hzl : sizeLine = 16777216 := sizeLine_eq
        refine ⟨_, rfl, .inl ⟨rfl, _, SqL.of hg3⟩, _, rfl, al, _, rfl, .inl (SqL.of hal), g, _, _, rfl, rfl, hg3, (by rw [List.length_map]; omega), ?_⟩
        refine ⟨_, rfl, .inl ⟨rfl, _, SqL.of upd_same⟩, _, rfl, g, al, _, _, rfl, rfl, upd_same, (by rw [upd_ne hag]; exact hal), (by rw [List.length_append, List.length_map, List.length_map]; show _ + 1 + _ ≤ _; omega), ?_⟩
        exact ⟨i + 1 + n + 1 + mm, _, _, _, _, _, L', _, _, _, _, hlt', rfl, I.next hg0 s2 rfl hst3 mv hal hnn hcs' hle'⟩
      · rw [int_eq] at h6
        rcases hcase with ⟨_, q6, ec, hcs'⟩ | ⟨_, q6, _⟩
        · have hst : stp s (PySu55.whole c) = Su55Neutral.step s (p :: ((l.drop (i + 1)).take n ++ [])) := by
            unfold stp
            rw [ec, whole_eq (n := kk) (by rw [hargs]; exact hsh) q6]
          have cp : CallPre p ((l.drop (i + 1)).take n) [] := ⟨⟨kk, by rw [hargs]; exact hsh⟩, fun _ => rfl, hapos, (fun y hy => nomatch hy), Nat.zero_le _⟩
          have s2 := stb
          have hT := htl2
          have hRw := hr1
          have hle' := hn
          have hlt' : i < i + 1 + n := by omega
          refine ⟨_, rfl, _, rfl, _, rfl, _, rfl, L, s, p, tl, _, _, _, (by rw [I.hp]; rfl), I.st.same s2, SqL.of hT, SqL.of hRw, cp, fun H3 L' al hst3 mv hal hnf hnn => ?_⟩
          rw [← hst] at hst3 hal
          have hg2 := s2 _ _ I.given
          have hg3 := mv.keep _ _ hg2 I.out
          have hag : al ≠ g := fun z => by rw [z, hg2] at hnn; cases hnn
          have hbig : gv.length + ((stp s (PySu55.whole c)).2.length + 1) ≤ 10000000 := by
            have q := congrArg List.length I.eq
            rw [due_cons, List.length_append, List.length_append, List.length_cons] at q
            omega
          have hzl : sizeLine = 16777216 := sizeLine_eq
          refine ⟨_, rfl, .inl ⟨rfl, _, SqL.of hg3⟩, _, rfl, al, _, rfl, .inl (SqL.of hal), g, _, _, rfl, rfl, hg3, (by rw [List.length_map]; omega), ?_⟩
          refine ⟨_, rfl, .inl ⟨rfl, _, SqL.of upd_same⟩, _, rfl, g, al, _, _, rfl, rfl, upd_same, (by rw [upd_ne hag]; exact hal), (by rw [List.length_append, List.length_map, List.length_map]; show _ + 1 + _ ≤ _; omega), ?_⟩
          exact ⟨i + 1 + n, _, _, _, _, _, L', _, _, _, _, hlt', rfl, I.next hg0 s2 rfl hst3 mv hal hnn hcs' hle'⟩
        · exact absurd q6 h6
    · rw [decide_eq_true_eq, List.length_map] at h1
      have e := parse_end I.cl (by omega)
      subst e
      have q := I.eq
      rw [due_nil, List.append_nil] at q
      refine ⟨_, rfl, ?_⟩
      exact k H1 g (by rw [q]; exact I.given)
end
end Cw
end
set_option maxHeartbeats 2000000
namespace Cw
open PySem PySem.Spec PyProof.Rows L2
structure HasFn (K : PySem.W.Frag) (mg : Str → Option Value) (x qual : Str) (st : Stmt) (ps : List Str) (f : Addr) (fd : FuncData) : Prop where
  fn : Fun K x qual st f fd
  b : Binds K fd ps []
  bt : ∀ (s : Shared) (us : List Value), us.length = ps.length → BindsTo s fd ⟨us, []⟩ (ps.zip us)
theorem hasFn_mk {K : PySem.W.Frag} {mg : Str → Option Value} {x qual : Str} {st : Stmt} {ps : List Str} {f : Addr} {oc : Value} {od an : Option Addr} {osl : Array (Option Value)} {kV doc pm cdv ct : Value}
    (l : K.lookup f = some ⟨oc, od, .func (PySem.W.fnOf x qual (defArgs st) (defBody st) (defScope st) .none kV doc pm an cdv ct), osl⟩) (c : PySem.W.codeIn K cdv qual = true) (k : PySem.W.keepIn K (.ref f) = true)
    (h : ∀ (kV doc pm : Value) (an : Option Addr) (cdv ct : Value) (us : List Value), us.length = ps.length → bindArgs (PySem.W.fnOf x qual (defArgs st) (defBody st) (defScope st) .none kV doc pm an cdv ct) ⟨us, []⟩ = pure (ps.zip us)) :
    ∃ fd, HasFn K mg x qual st ps f fd :=
  ⟨_, fun_mk l c k, (fun_mk l c k).binds h, fun s us hl => .of_eq (h kV doc pm an cdv ct us hl)⟩
theorem hasFn_k {goal : Prop} {K : PySem.W.Frag} {hp : Heap} {mg : Str → Option Value} (X : K.In hp) (G : hp.Ns mainGlobals mg) {x : Str} {st : Stmt} {ps : List Str} {f : Addr} {oc : Value} {od an : Option Addr} {osl : Array (Option Value)} {kV doc pm cdv ct : Value}
    (a : PySem.W.nsIn K mainGlobals x = some (some (.ref f))) (l : K.lookup f = some ⟨oc, od, .func (PySem.W.fnOf x x (defArgs st) (defBody st) (defScope st) .none kV doc pm an cdv ct), osl⟩) (c : PySem.W.codeIn K cdv x = true) (k : PySem.W.keepIn K (.ref f) = true)
    (h : ∀ (kV doc pm : Value) (an : Option Addr) (cdv ct : Value) (us : List Value), us.length = ps.length → bindArgs (PySem.W.fnOf x x (defArgs st) (defBody st) (defScope st) .none kV doc pm an cdv ct) ⟨us, []⟩ = pure (ps.zip us))
    (cont : ∀ f fd, mg x = some (.ref f) → HasFn K mg x x st ps f fd → goal) : goal := by
  obtain ⟨fd, hf⟩ := hasFn_mk (mg := mg) l c k h
  exact cont f fd (PySem.W.mg_of X G a) hf
def NAll (K : PySem.W.Frag) (C : Addr) : List Str → Prop
  | [] => True
  | y :: r => PySem.W.findIn K (.ref C) y = some none ∧ NAll K C r
theorem nall_ok {K : PySem.W.Frag} {C : Addr} : ∀ {na : List Str}, NAll K C na → ∀ y ∈ na, NoAttr K C y
  | [], _, y, hy => by cases hy
  | x :: r, h, y, hy => by
    rcases List.mem_cons.mp hy with e | e
    · rw [e]; exact h.1
    · exact nall_ok h.2 y e
theorem hasCls_k {goal : Prop} {K : PySem.W.Frag} {hp : Heap} {mg : Str → Option Value} (X : K.In hp) (G : hp.Ns mainGlobals mg) {x qual : Str} {st : Stmt} {ps : List Str} {C f : Addr} {oc : Value} {od an : Option Addr} {osl : Array (Option Value)} {kV doc pm cdv ct : Value}
    (aC : PySem.W.nsIn K mainGlobals x = some (some (.ref C))) (a : PySem.W.findIn K (.ref C) "__init__" = some (some (.ref f))) (i : PySem.W.isFn K (.ref f) = true) (l : K.lookup f = some ⟨oc, od, .func (PySem.W.fnOf "__init__" qual (defArgs st) (defBody st) (defScope st) .none kV doc pm an cdv ct), osl⟩) (c : PySem.W.codeIn K cdv qual = true) (k : PySem.W.keepIn K (.ref f) = true)
    (pg : PySem.W.plainGet K C Str.empty = true) (hd : PySem.W.hasDictIn K C = true) (po : PySem.W.plainOver K C = true) (sa : PySem.W.findIn K (.ref C) "__setattr__" = some (some (.builtin "object.__setattr__"))) (mk : PySem.W.makesIn K C = true) (kc : PySem.W.keepIn K (.ref C) = true)
    (na : List Str) (hna : NAll K C na)
    (h : ∀ (kV doc pm : Value) (an : Option Addr) (cdv ct : Value) (us : List Value), us.length = ps.length → bindArgs (PySem.W.fnOf "__init__" qual (defArgs st) (defBody st) (defScope st) .none kV doc pm an cdv ct) ⟨us, []⟩ = pure (ps.zip us))
    (cont : ∀ C f fd, mg x = some (.ref C) → HasFn K mg "__init__" qual st ps f fd → Cls K C → Mk K C f → (∀ y ∈ na, NoAttr K C y) → goal) : goal := by
  obtain ⟨fd, hf⟩ := hasFn_mk (mg := mg) l c k h
  exact cont C f fd (PySem.W.mg_of X G aC) hf ⟨pg, hd, po, sa⟩ ⟨mk, a, i, kc⟩ (nall_ok hna)
theorem const_k {K : PySem.W.Frag} {hp : Heap} {mg : Str → Option Value} (X : K.In hp) (G : hp.Ns mainGlobals mg) {x : Str} {i : Int} {t : Tok} (a : PySem.W.nsIn K mainGlobals x = some (some (.int i t))) : ∃ t, mg x = some (.int i t) := ⟨t, PySem.W.mg_of X G a⟩
theorem intsV : ∀ {ns : List Int} {us : List Value}, ns.length = us.length → (∀ (i : Nat) (n : Int), ns[i]? = some n → ∃ t, us[i]? = some (Value.int n t)) → Vals (ns.map V.int) us
  | [], [], _, _ => .nil
  | [], _ :: _, h, _ => by simp at h
  | _ :: _, [], h, _ => by simp at h
  | n :: ns, u :: us, h, q => by
    obtain ⟨t, e⟩ := q 0 n rfl
    have e : u = Value.int n t := Option.some.inj e
    exact .cons ⟨t, e⟩ (intsV (Nat.succ.inj h) fun i m hm => q (i + 1) m hm)
def isIntsV : List Int → List Value → Bool
  | [], [] => true
  | n :: ns, .int m _ :: us => (n == m) && isIntsV ns us
  | _, _ => false
theorem isIntsV_ok : ∀ {ns : List Int} {us : List Value}, isIntsV ns us = true → Vals (ns.map V.int) us
  | [], [], _ => .nil
  | n :: ns, .int m t :: us, h => by
    unfold isIntsV at h
    rw [Bool.and_eq_true] at h
    exact .cons ⟨t, by rw [eq_of_beq h.1]⟩ (isIntsV_ok h.2)
theorem tup_k {K : PySem.W.Frag} {hp : Heap} {mg : Str → Option Value} (X : K.In hp) (G : hp.Ns mainGlobals mg) {x : Str} {ns : List Int} {p : Addr} {od : Option Addr} {its : Array Value} {n : Nat} {osl : Array (Option Value)} (a : PySem.W.nsIn K mainGlobals x = some (some (.ref p)))
    (l : K.lookup p = some ⟨.type "tuple", od, .seq its n, osl⟩) (z : its.size ≤ sizeLine) (b : isIntsV ns its.toList = true) : ∃ p, mg x = some (.ref p) ∧ ∀ H : Hp, SqT K H p (ns.map V.int) :=
  ⟨p, PySem.W.mg_of X G a, fun H => .inr ⟨_, its, n, l, rfl, rfl, z, isIntsV_ok b⟩⟩
end Cw
theorem PySem.W.Fast.tw3547310976094844765 : True := trivial
theorem PySem.W.Fast.tw13944862175166992232 : True := trivial
theorem PySem.W.Fast.tw9299559985535310202 : True := trivial
theorem PySem.W.Fast.tw11374581906190445450 : True := trivial
theorem PySem.W.Fast.tw16579137524323384888 : True := trivial
theorem PySem.W.Fast.tw15143392143247994384 : True := trivial
theorem PySem.W.Fast.tw15523594974082722648 : True := trivial
theorem PySem.W.Fast.tw8223395392787467613 : True := trivial
theorem PySem.W.Fast.tw12748207585245964345 : True := trivial
theorem PySem.W.Fast.tw6848630461071041782 : True := trivial
theorem PySem.W.Fast.tw9707080435828191880 : True := trivial
theorem PySem.W.Fast.tw12363808288964827974 : True := trivial
theorem PySem.W.Fast.tw6263663520690506738 : True := trivial
theorem PySem.W.Fast.tw3709508197031043408 : True := trivial
theorem PySem.W.Fast.tw8392355727316739574 : True := trivial
theorem PySem.W.Fast.tw16396498843889787246 : True := trivial
theorem PySem.W.Fast.tw2660770881444674257 : True := trivial
theorem PySem.W.Fast.tw10516547909267158125 : True := trivial
theorem PySem.W.Fast.tw17167659357344953477 : True := trivial
theorem PySem.W.Fast.tw9286441934533164357 : True := trivial
theorem PySem.W.Fast.tw12376797589922308229 : True := trivial
theorem PySem.W.Fast.tw4073520245986647831 : True := trivial
theorem PySem.W.Fast.tw1443664997843906441 : True := trivial
theorem PySem.W.Fast.tw16518214033743358416 : True := trivial
theorem PySem.W.Fast.tw16670297662186851576 : True := trivial
theorem PySem.W.Fast.tw12822768757468087102 : True := trivial
theorem PySem.W.Fast.tw8477529299069881953 : True := trivial
theorem PySem.W.Fast.tw11945342569530212602 : True := trivial
theorem PySem.W.Fast.tw12531010634538688076 : True := trivial
theorem PySem.W.Fast.tw10820608567172101116 : True := trivial
theorem PySem.W.Fast.tw14267410121844412849 : True := trivial
theorem PySem.W.Fast.tw16178233386441315038 : True := trivial
theorem PySem.W.Fast.tw9428557019492377545 : True := trivial
theorem PySem.W.Fast.tw2336733373478313624 : True := trivial
theorem PySem.W.Fast.tw1010961998163284779 : True := trivial
theorem PySem.W.Fast.tw12015565141458994967 : True := trivial
theorem PySem.W.Fast.tw3494706946132638333 : True := trivial
theorem PySem.W.Fast.tw6230077158302523998 : True := trivial
theorem PySem.W.Fast.tw10574767663639612972 : True := trivial
theorem PySem.W.Fast.tw509409113921483095 : True := trivial
theorem PySem.W.Fast.tw6069041308326823343 : True := trivial
theorem PySem.W.Fast.tw12342237659530236458 : True := trivial
theorem PySem.W.Fast.tw18158130303587132614 : True := trivial
theorem PySem.W.Fast.tw10505617354847545514 : True := trivial
theorem PySem.W.Fast.tw10566923257770202448 : True := trivial
theorem PySem.W.Fast.tw12219647330432189421 : True := trivial
theorem PySem.W.Fast.tw9360930051513727773 : True := trivial
theorem PySem.W.Fast.tw2115747220268244266 : True := trivial
theorem PySem.W.Fast.tw15253006881469862312 : True := trivial
theorem PySem.W.Fast.tw7424990115280698569 : True := trivial
theorem PySem.W.Fast.tw8270816239035647173 : True := trivial
theorem PySem.W.Fast.tw7323324274535838123 : True := trivial
theorem PySem.W.Fast.tw13560363704823805076 : True := trivial
theorem PySem.W.Fast.tw5506508587219349171 : True := trivial
theorem PySem.W.Fast.tw13906416890340493529 : True := trivial
theorem PySem.W.Fast.tw3319603904715259363 : True := trivial
theorem PySem.W.Fast.tw14524622115905801848 : True := trivial
theorem PySem.W.Fast.tw9516051063974709860 : True := trivial
theorem PySem.W.Fast.tw3460044748683926806 : True := trivial
theorem PySem.W.Fast.tw317602475782149811 : True := trivial
theorem PySem.W.Fast.tw11520710607261003843 : True := trivial
theorem PySem.W.Fast.tw14555092224097176498 : True := trivial
theorem PySem.W.Fast.tw16202099585323290212 : True := trivial
theorem PySem.W.Fast.tw16112419450756713674 : True := trivial
theorem PySem.W.Fast.tw9735105104007936719 : True := trivial
theorem PySem.W.Fast.tw9266531624889266289 : True := trivial
theorem PySem.W.Fast.tw13010696659974121604 : True := trivial
theorem PySem.W.Fast.tw16295051214502490681 : True := trivial
theorem PySem.W.Fast.tw16781498463499201874 : True := trivial
theorem PySem.W.Fast.tw11204961126284593208 : True := trivial
theorem PySem.W.Fast.tw14578763768981463391 : True := trivial
theorem PySem.W.Fast.tw4453624776429587366 : True := trivial
theorem PySem.W.Fast.tw12737184236300969988 : True := trivial
theorem PySem.W.Fast.tw1917162758733216104 : True := trivial
theorem PySem.W.Fast.tw9855849516230350436 : True := trivial
theorem PySem.W.Fast.tw7290583382687518015 : True := trivial
theorem PySem.W.Fast.tw12564947147937479052 : True := trivial
theorem PySem.W.Fast.tw2298274782995145812 : True := trivial
theorem PySem.W.Fast.tw10666037519167459300 : True := trivial
theorem PySem.W.Fast.tw15042272282086895893 : True := trivial
theorem PySem.W.Fast.tw1109189103690001241 : True := trivial
theorem PySem.W.Fast.tw4185145438407052859 : True := trivial
theorem PySem.W.Fast.tw4258647467989620927 : True := trivial
theorem PySem.W.Fast.tw11544091818492061549 : True := trivial
theorem PySem.W.Fast.tw14796562963384985940 : True := trivial
theorem PySem.W.Fast.tw763723462471115421 : True := trivial
theorem PySem.W.Fast.tw13868704519003422061 : True := trivial
theorem PySem.W.Fast.tw2437277307714769607 : True := trivial
theorem PySem.W.Fast.tw13667469553480675066 : True := trivial
theorem PySem.W.Fast.tw10080026700209847658 : True := trivial
theorem PySem.W.Fast.tw1711808925505883344 : True := trivial
theorem PySem.W.Fast.tw7193686306808454332 : True := trivial
theorem PySem.W.Fast.tw15783392539691075079 : True := trivial
theorem PySem.W.Fast.tw15809647732864527015 : True := trivial
theorem PySem.W.Fast.tw5757158848070452067 : True := trivial
theorem PySem.W.Fast.tw2431528583144187614 : True := trivial
theorem PySem.W.Fast.tw1094576764980270533 : True := trivial
theorem PySem.W.Fast.tw11104445436601760445 : True := trivial
theorem PySem.W.Fast.tw13619457966491593669 : True := trivial
theorem PySem.W.Fast.tw18256608482529882332 : True := trivial
theorem PySem.W.Fast.tw18062847449209088027 : True := trivial
theorem PySem.W.Fast.tw14476179137181931674 : True := trivial
theorem PySem.W.Fast.tw10915369624652385062 : True := trivial
theorem PySem.W.Fast.tw12827994781285958874 : True := trivial
theorem PySem.W.Fast.tw8316244323274123908 : True := trivial
theorem PySem.W.Fast.tw13952829822771477331 : True := trivial
theorem PySem.W.Fast.tw17163146206093004202 : True := trivial
theorem PySem.W.Fast.tw9139586657927066544 : True := trivial
theorem PySem.W.Fast.tw4826130156486530167 : True := trivial
theorem PySem.W.Fast.tw6231881112785430891 : True := trivial
theorem PySem.W.Fast.tw7925357725584323831 : True := trivial
theorem PySem.W.Fast.tw11275305641624721465 : True := trivial
theorem PySem.W.Fast.tw2741461839815044493 : True := trivial
theorem PySem.W.Fast.tw8627084271087554443 : True := trivial
theorem PySem.W.Fast.tw16670511782001626133 : True := trivial
theorem PySem.W.Fast.tw3307523543638524617 : True := trivial
theorem PySem.W.Fast.tw9773032531018241672 : True := trivial
theorem PySem.W.Fast.tw14664835920375635905 : True := trivial
theorem PySem.W.Fast.tw12799593313431165680 : True := trivial
theorem PySem.W.Fast.tw6067878047772709688 : True := trivial
theorem PySem.W.Fast.tw18370409497446296976 : True := trivial
theorem PySem.W.Fast.tw14349158937024107158 : True := trivial
theorem PySem.W.Fast.tw8223892490321022245 : True := trivial
theorem PySem.W.Fast.tw4733416318283138760 : True := trivial
theorem PySem.W.Fast.tw16121569715305108114 : True := trivial
theorem PySem.W.Fast.tw8633061325888337824 : True := trivial
theorem PySem.W.Fast.tw2002620168823922797 : True := trivial
theorem PySem.W.Fast.tw12662643167377813268 : True := trivial
theorem PySem.W.Fast.tw136817789337428571 : True := trivial
theorem PySem.W.Fast.tw5257170645916440560 : True := trivial
theorem PySem.W.Fast.tw18178480014839584519 : True := trivial
theorem PySem.W.Fast.tw9029230038970338128 : True := trivial
theorem PySem.W.Fast.tw7559189508678678787 : True := trivial
theorem PySem.W.Fast.tw15642026943114525446 : True := trivial
theorem PySem.W.Fast.tw12327011794282581300 : True := trivial
theorem PySem.W.Fast.tw12323405680807546909 : True := trivial
theorem PySem.W.Fast.tw1683234357134061623 : True := trivial
theorem PySem.W.Fast.tw8524620825641199281 : True := trivial
theorem PySem.W.Fast.tw13971959099683747572 : True := trivial
theorem PySem.W.Fast.tw7568927903411562076 : True := trivial
open PySem PySem.W PyProof.Rows
set_option maxRecDepth 100000 in
set_option maxHeartbeats 0 in
theorem PySem.Challenge.cw_climbwall_s01_answers_holds : PySem.Challenge.rw_climbwall_s01_answers.Holds := by
  w_on; k_headS; (case hw => exact ⟨[.list [.int 0, .int 1]], by decide +kernel, by decide +kernel⟩)
  k_fillS
  refine L2.walk_specK (r := PySem.Challenge.rw_climbwall_s01_answers) (k := 10) (CX := L2.CX0) (ps := ["calls"]) (sp := Cw.spAns) (by decide +kernel) rfl rfl ⟨rfl, by decide, by decide⟩ (fun w h Y => PySem.W.kIn_of Y) ?F ?S (fun _ _ _ _ z => z)
  case F =>
    intro w mg fa h Y KX G hmg
    refine' Cw.hasFn_k KX G (x := "can_hold") (st := Cw.s_can_hold) (ps := ["climber", "hold"]) ?a_can_hold ?l_can_hold ?c_can_hold ?k_can_hold (fun _ _ _ _ _ _ us hl => match us, hl with | [_, _], _ => rfl) (fun f_can_hold d_can_hold g_can_hold F_can_hold => ?_)
    (case a_can_hold => k_is); (case l_can_hold => k_is); (case c_can_hold => k_is); (case k_can_hold => k_is)
    refine' Cw.hasFn_k KX G (x := "apart_squared") (st := Cw.s_apart_squared) (ps := ["hold", "other"]) ?a_apart_squared ?l_apart_squared ?c_apart_squared ?k_apart_squared (fun _ _ _ _ _ _ us hl => match us, hl with | [_, _], _ => rfl) (fun f_apart_squared d_apart_squared g_apart_squared F_apart_squared => ?_)
    (case a_apart_squared => k_is); (case l_apart_squared => k_is); (case c_apart_squared => k_is); (case k_apart_squared => k_is)
    refine' Cw.hasFn_k KX G (x := "is_within_reach") (st := Cw.s_is_within_reach) (ps := ["climber", "hold", "other"]) ?a_is_within_reach ?l_is_within_reach ?c_is_within_reach ?k_is_within_reach (fun _ _ _ _ _ _ us hl => match us, hl with | [_, _, _], _ => rfl) (fun f_is_within_reach d_is_within_reach g_is_within_reach F_is_within_reach => ?_)
    (case a_is_within_reach => k_is); (case l_is_within_reach => k_is); (case c_is_within_reach => k_is); (case k_is_within_reach => k_is)
    refine' Cw.hasFn_k KX G (x := "can_be_on") (st := Cw.s_can_be_on) (ps := ["climber", "left", "right"]) ?a_can_be_on ?l_can_be_on ?c_can_be_on ?k_can_be_on (fun _ _ _ _ _ _ us hl => match us, hl with | [_, _, _], _ => rfl) (fun f_can_be_on d_can_be_on g_can_be_on F_can_be_on => ?_)
    (case a_can_be_on => k_is); (case l_can_be_on => k_is); (case c_can_be_on => k_is); (case k_can_be_on => k_is)
    refine' Cw.hasFn_k KX G (x := "hands_after") (st := Cw.s_hands_after) (ps := ["hands", "move"]) ?a_hands_after ?l_hands_after ?c_hands_after ?k_hands_after (fun _ _ _ _ _ _ us hl => match us, hl with | [_, _], _ => rfl) (fun f_hands_after d_hands_after g_hands_after F_hands_after => ?_)
    (case a_hands_after => k_is); (case l_hands_after => k_is); (case c_hands_after => k_is); (case k_hands_after => k_is)
    refine' Cw.hasFn_k KX G (x := "spread") (st := Cw.s_spread) (ps := ["holds", "climber", "moves", "ways", "rim"]) ?a_spread ?l_spread ?c_spread ?k_spread (fun _ _ _ _ _ _ us hl => match us, hl with | [_, _, _, _, _], _ => rfl) (fun f_spread d_spread g_spread F_spread => ?_)
    (case a_spread => k_is); (case l_spread => k_is); (case c_spread => k_is); (case k_spread => k_is)
    refine' Cw.hasFn_k KX G (x := "first_way") (st := Cw.s_first_way) (ps := ["holds", "stops", "climber"]) ?a_first_way ?l_first_way ?c_first_way ?k_first_way (fun _ _ _ _ _ _ us hl => match us, hl with | [_, _, _], _ => rfl) (fun f_first_way d_first_way g_first_way F_first_way => ?_)
    (case a_first_way => k_is); (case l_first_way => k_is); (case c_first_way => k_is); (case k_first_way => k_is)
    refine' Cw.hasFn_k KX G (x := "are_there") (st := Cw.s_are_there) (ps := ["wall", "c", "r"]) ?a_are_there ?l_are_there ?c_are_there ?k_are_there (fun _ _ _ _ _ _ us hl => match us, hl with | [_, _, _], _ => rfl) (fun f_are_there d_are_there g_are_there F_are_there => ?_)
    (case a_are_there => k_is); (case l_are_there => k_is); (case c_are_there => k_is); (case k_are_there => k_is)
    refine' Cw.hasFn_k KX G (x := "way_of") (st := Cw.s_way_of) (ps := ["wall", "c", "r"]) ?a_way_of ?l_way_of ?c_way_of ?k_way_of (fun _ _ _ _ _ _ us hl => match us, hl with | [_, _, _], _ => rfl) (fun f_way_of d_way_of g_way_of F_way_of => ?_)
    (case a_way_of => k_is); (case l_way_of => k_is); (case c_way_of => k_is); (case k_way_of => k_is)
    refine' Cw.hasFn_k KX G (x := "can_climb") (st := Cw.s_can_climb) (ps := ["wall", "c", "r"]) ?a_can_climb ?l_can_climb ?c_can_climb ?k_can_climb (fun _ _ _ _ _ _ us hl => match us, hl with | [_, _, _], _ => rfl) (fun f_can_climb d_can_climb g_can_climb F_can_climb => ?_)
    (case a_can_climb => k_is); (case l_can_climb => k_is); (case c_can_climb => k_is); (case k_can_climb => k_is)
    refine' Cw.hasFn_k KX G (x := "fewest_moves") (st := Cw.s_fewest_moves) (ps := ["wall", "c", "r"]) ?a_fewest_moves ?l_fewest_moves ?c_fewest_moves ?k_fewest_moves (fun _ _ _ _ _ _ us hl => match us, hl with | [_, _, _], _ => rfl) (fun f_fewest_moves d_fewest_moves g_fewest_moves F_fewest_moves => ?_)
    (case a_fewest_moves => k_is); (case l_fewest_moves => k_is); (case c_fewest_moves => k_is); (case k_fewest_moves => k_is)
    refine' Cw.hasFn_k KX G (x := "tell_way") (st := Cw.s_tell_way) (ps := ["wall", "c", "r"]) ?a_tell_way ?l_tell_way ?c_tell_way ?k_tell_way (fun _ _ _ _ _ _ us hl => match us, hl with | [_, _, _], _ => rfl) (fun f_tell_way d_tell_way g_tell_way F_tell_way => ?_)
    (case a_tell_way => k_is); (case l_tell_way => k_is); (case c_tell_way => k_is); (case k_tell_way => k_is)
    refine' Cw.hasFn_k KX G (x := "wear") (st := Cw.s_wear) (ps := ["hold", "hands_to_fall"]) ?a_wear ?l_wear ?c_wear ?k_wear (fun _ _ _ _ _ _ us hl => match us, hl with | [_, _], _ => rfl) (fun f_wear d_wear g_wear F_wear => ?_)
    (case a_wear => k_is); (case l_wear => k_is); (case c_wear => k_is); (case k_wear => k_is)
    refine' Cw.hasFn_k KX G (x := "make_moves") (st := Cw.s_make_moves) (ps := ["wall", "moves"]) ?a_make_moves ?l_make_moves ?c_make_moves ?k_make_moves (fun _ _ _ _ _ _ us hl => match us, hl with | [_, _], _ => rfl) (fun f_make_moves d_make_moves g_make_moves F_make_moves => ?_)
    (case a_make_moves => k_is); (case l_make_moves => k_is); (case c_make_moves => k_is); (case k_make_moves => k_is)
    refine' Cw.hasFn_k KX G (x := "climb_route") (st := Cw.s_climb_route) (ps := ["wall", "c", "r"]) ?a_climb_route ?l_climb_route ?c_climb_route ?k_climb_route (fun _ _ _ _ _ _ us hl => match us, hl with | [_, _, _], _ => rfl) (fun f_climb_route d_climb_route g_climb_route F_climb_route => ?_)
    (case a_climb_route => k_is); (case l_climb_route => k_is); (case c_climb_route => k_is); (case k_climb_route => k_is)
    refine' Cw.hasFn_k KX G (x := "begin") (st := Cw.s_begin) (ps := ["wall", "hands_to_fall"]) ?a_begin ?l_begin ?c_begin ?k_begin (fun _ _ _ _ _ _ us hl => match us, hl with | [_, _], _ => rfl) (fun f_begin d_begin g_begin F_begin => ?_)
    (case a_begin => k_is); (case l_begin => k_is); (case c_begin => k_is); (case k_begin => k_is)
    refine' Cw.hasFn_k KX G (x := "is_grip") (st := Cw.s_is_grip) (ps := ["grip"]) ?a_is_grip ?l_is_grip ?c_is_grip ?k_is_grip (fun _ _ _ _ _ _ us hl => match us, hl with | [_], _ => rfl) (fun f_is_grip d_is_grip g_is_grip F_is_grip => ?_)
    (case a_is_grip => k_is); (case l_is_grip => k_is); (case c_is_grip => k_is); (case k_is_grip => k_is)
    refine' Cw.hasFn_k KX G (x := "is_strength") (st := Cw.s_is_strength) (ps := ["strength"]) ?a_is_strength ?l_is_strength ?c_is_strength ?k_is_strength (fun _ _ _ _ _ _ us hl => match us, hl with | [_], _ => rfl) (fun f_is_strength d_is_strength g_is_strength F_is_strength => ?_)
    (case a_is_strength => k_is); (case l_is_strength => k_is); (case c_is_strength => k_is); (case k_is_strength => k_is)
    refine' Cw.hasFn_k KX G (x := "is_place") (st := Cw.s_is_place) (ps := ["x", "y"]) ?a_is_place ?l_is_place ?c_is_place ?k_is_place (fun _ _ _ _ _ _ us hl => match us, hl with | [_, _], _ => rfl) (fun f_is_place d_is_place g_is_place F_is_place => ?_)
    (case a_is_place => k_is); (case l_is_place => k_is); (case c_is_place => k_is); (case k_is_place => k_is)
    refine' Cw.hasFn_k KX G (x := "is_taken") (st := Cw.s_is_taken) (ps := ["wall", "x", "y"]) ?a_is_taken ?l_is_taken ?c_is_taken ?k_is_taken (fun _ _ _ _ _ _ us hl => match us, hl with | [_, _, _], _ => rfl) (fun f_is_taken d_is_taken g_is_taken F_is_taken => ?_)
    (case a_is_taken => k_is); (case l_is_taken => k_is); (case c_is_taken => k_is); (case k_is_taken => k_is)
    refine' Cw.hasFn_k KX G (x := "add_hold") (st := Cw.s_add_hold) (ps := ["wall", "x", "y", "grip"]) ?a_add_hold ?l_add_hold ?c_add_hold ?k_add_hold (fun _ _ _ _ _ _ us hl => match us, hl with | [_, _, _, _], _ => rfl) (fun f_add_hold d_add_hold g_add_hold F_add_hold => ?_)
    (case a_add_hold => k_is); (case l_add_hold => k_is); (case c_add_hold => k_is); (case k_add_hold => k_is)
    refine' Cw.hasFn_k KX G (x := "shift_hold") (st := Cw.s_shift_hold) (ps := ["wall", "h", "x", "y"]) ?a_shift_hold ?l_shift_hold ?c_shift_hold ?k_shift_hold (fun _ _ _ _ _ _ us hl => match us, hl with | [_, _, _, _], _ => rfl) (fun f_shift_hold d_shift_hold g_shift_hold F_shift_hold => ?_)
    (case a_shift_hold => k_is); (case l_shift_hold => k_is); (case c_shift_hold => k_is); (case k_shift_hold => k_is)
    refine' Cw.hasFn_k KX G (x := "take_off") (st := Cw.s_take_off) (ps := ["wall", "h"]) ?a_take_off ?l_take_off ?c_take_off ?k_take_off (fun _ _ _ _ _ _ us hl => match us, hl with | [_, _], _ => rfl) (fun f_take_off d_take_off g_take_off F_take_off => ?_)
    (case a_take_off => k_is); (case l_take_off => k_is); (case c_take_off => k_is); (case k_take_off => k_is)
    refine' Cw.hasFn_k KX G (x := "put_back") (st := Cw.s_put_back) (ps := ["wall", "h"]) ?a_put_back ?l_put_back ?c_put_back ?k_put_back (fun _ _ _ _ _ _ us hl => match us, hl with | [_, _], _ => rfl) (fun f_put_back d_put_back g_put_back F_put_back => ?_)
    (case a_put_back => k_is); (case l_put_back => k_is); (case c_put_back => k_is); (case k_put_back => k_is)
    refine' Cw.hasFn_k KX G (x := "turn_hold") (st := Cw.s_turn_hold) (ps := ["wall", "h", "grip"]) ?a_turn_hold ?l_turn_hold ?c_turn_hold ?k_turn_hold (fun _ _ _ _ _ _ us hl => match us, hl with | [_, _, _], _ => rfl) (fun f_turn_hold d_turn_hold g_turn_hold F_turn_hold => ?_)
    (case a_turn_hold => k_is); (case l_turn_hold => k_is); (case c_turn_hold => k_is); (case k_turn_hold => k_is)
    refine' Cw.hasFn_k KX G (x := "are_stops") (st := Cw.s_are_stops) (ps := ["stops"]) ?a_are_stops ?l_are_stops ?c_are_stops ?k_are_stops (fun _ _ _ _ _ _ us hl => match us, hl with | [_], _ => rfl) (fun f_are_stops d_are_stops g_are_stops F_are_stops => ?_)
    (case a_are_stops => k_is); (case l_are_stops => k_is); (case c_are_stops => k_is); (case k_are_stops => k_is)
    refine' Cw.hasFn_k KX G (x := "add_route") (st := Cw.s_add_route) (ps := ["wall", "lead", "stops"]) ?a_add_route ?l_add_route ?c_add_route ?k_add_route (fun _ _ _ _ _ _ us hl => match us, hl with | [_, _, _], _ => rfl) (fun f_add_route d_add_route g_add_route F_add_route => ?_)
    (case a_add_route => k_is); (case l_add_route => k_is); (case c_add_route => k_is); (case k_add_route => k_is)
    refine' Cw.hasFn_k KX G (x := "add_climber") (st := Cw.s_add_climber) (ps := ["wall", "reach", "strength", "lead"]) ?a_add_climber ?l_add_climber ?c_add_climber ?k_add_climber (fun _ _ _ _ _ _ us hl => match us, hl with | [_, _, _, _], _ => rfl) (fun f_add_climber d_add_climber g_add_climber F_add_climber => ?_)
    (case a_add_climber => k_is); (case l_add_climber => k_is); (case c_add_climber => k_is); (case k_add_climber => k_is)
    refine' Cw.hasFn_k KX G (x := "train_climber") (st := Cw.s_train_climber) (ps := ["wall", "c", "strength"]) ?a_train_climber ?l_train_climber ?c_train_climber ?k_train_climber (fun _ _ _ _ _ _ us hl => match us, hl with | [_, _, _], _ => rfl) (fun f_train_climber d_train_climber g_train_climber F_train_climber => ?_)
    (case a_train_climber => k_is); (case l_train_climber => k_is); (case c_train_climber => k_is); (case k_train_climber => k_is)
    refine' Cw.hasFn_k KX G (x := "tell_who") (st := Cw.s_tell_who) (ps := ["wall", "r"]) ?a_tell_who ?l_tell_who ?c_tell_who ?k_tell_who (fun _ _ _ _ _ _ us hl => match us, hl with | [_, _], _ => rfl) (fun f_tell_who d_tell_who g_tell_who F_tell_who => ?_)
    (case a_tell_who => k_is); (case l_tell_who => k_is); (case c_tell_who => k_is); (case k_tell_who => k_is)
    refine' Cw.hasFn_k KX G (x := "tell_which") (st := Cw.s_tell_which) (ps := ["wall", "c"]) ?a_tell_which ?l_tell_which ?c_tell_which ?k_tell_which (fun _ _ _ _ _ _ us hl => match us, hl with | [_, _], _ => rfl) (fun f_tell_which d_tell_which g_tell_which F_tell_which => ?_)
    (case a_tell_which => k_is); (case l_tell_which => k_is); (case c_tell_which => k_is); (case k_tell_which => k_is)
    refine' Cw.hasFn_k KX G (x := "best_route") (st := Cw.s_best_route) (ps := ["wall", "c"]) ?a_best_route ?l_best_route ?c_best_route ?k_best_route (fun _ _ _ _ _ _ us hl => match us, hl with | [_, _], _ => rfl) (fun f_best_route d_best_route g_best_route F_best_route => ?_)
    (case a_best_route => k_is); (case l_best_route => k_is); (case c_best_route => k_is); (case k_best_route => k_is)
    refine' Cw.hasFn_k KX G (x := "would_get_up") (st := Cw.s_would_get_up) (ps := ["wall", "r", "reach", "strength"]) ?a_would_get_up ?l_would_get_up ?c_would_get_up ?k_would_get_up (fun _ _ _ _ _ _ us hl => match us, hl with | [_, _, _, _], _ => rfl) (fun f_would_get_up d_would_get_up g_would_get_up F_would_get_up => ?_)
    (case a_would_get_up => k_is); (case l_would_get_up => k_is); (case c_would_get_up => k_is); (case k_would_get_up => k_is)
    refine' Cw.hasFn_k KX G (x := "least_reach") (st := Cw.s_least_reach) (ps := ["wall", "r"]) ?a_least_reach ?l_least_reach ?c_least_reach ?k_least_reach (fun _ _ _ _ _ _ us hl => match us, hl with | [_, _], _ => rfl) (fun f_least_reach d_least_reach g_least_reach F_least_reach => ?_)
    (case a_least_reach => k_is); (case l_least_reach => k_is); (case c_least_reach => k_is); (case k_least_reach => k_is)
    refine' Cw.hasFn_k KX G (x := "least_strength") (st := Cw.s_least_strength) (ps := ["wall", "r"]) ?a_least_strength ?l_least_strength ?c_least_strength ?k_least_strength (fun _ _ _ _ _ _ us hl => match us, hl with | [_, _], _ => rfl) (fun f_least_strength d_least_strength g_least_strength F_least_strength => ?_)
    (case a_least_strength => k_is); (case l_least_strength => k_is); (case c_least_strength => k_is); (case k_least_strength => k_is)
    refine' Cw.hasFn_k KX G (x := "gets_up_without") (st := Cw.s_gets_up_without) (ps := ["wall", "c", "r", "h"]) ?a_gets_up_without ?l_gets_up_without ?c_gets_up_without ?k_gets_up_without (fun _ _ _ _ _ _ us hl => match us, hl with | [_, _, _, _], _ => rfl) (fun f_gets_up_without d_gets_up_without g_gets_up_without F_gets_up_without => ?_)
    (case a_gets_up_without => k_is); (case l_gets_up_without => k_is); (case c_gets_up_without => k_is); (case k_gets_up_without => k_is)
    refine' Cw.hasFn_k KX G (x := "needed_holds") (st := Cw.s_needed_holds) (ps := ["wall", "c", "r"]) ?a_needed_holds ?l_needed_holds ?c_needed_holds ?k_needed_holds (fun _ _ _ _ _ _ us hl => match us, hl with | [_, _, _], _ => rfl) (fun f_needed_holds d_needed_holds g_needed_holds F_needed_holds => ?_)
    (case a_needed_holds => k_is); (case l_needed_holds => k_is); (case c_needed_holds => k_is); (case k_needed_holds => k_is)
    refine' Cw.hasFn_k KX G (x := "least_root") (st := Cw.s_least_root) (ps := ["squared"]) ?a_least_root ?l_least_root ?c_least_root ?k_least_root (fun _ _ _ _ _ _ us hl => match us, hl with | [_], _ => rfl) (fun f_least_root d_least_root g_least_root F_least_root => ?_)
    (case a_least_root => k_is); (case l_least_root => k_is); (case c_least_root => k_is); (case k_least_root => k_is)
    refine' Cw.hasFn_k KX G (x := "tell_span") (st := Cw.s_tell_span) (ps := ["wall", "h", "i"]) ?a_tell_span ?l_tell_span ?c_tell_span ?k_tell_span (fun _ _ _ _ _ _ us hl => match us, hl with | [_, _, _], _ => rfl) (fun f_tell_span d_tell_span g_tell_span F_tell_span => ?_)
    (case a_tell_span => k_is); (case l_tell_span => k_is); (case c_tell_span => k_is); (case k_tell_span => k_is)
    refine' Cw.hasFn_k KX G (x := "is_near") (st := Cw.s_is_near) (ps := ["climber", "hold", "other"]) ?a_is_near ?l_is_near ?c_is_near ?k_is_near (fun _ _ _ _ _ _ us hl => match us, hl with | [_, _, _], _ => rfl) (fun f_is_near d_is_near g_is_near F_is_near => ?_)
    (case a_is_near => k_is); (case l_is_near => k_is); (case c_is_near => k_is); (case k_is_near => k_is)
    refine' Cw.hasFn_k KX G (x := "tell_near") (st := Cw.s_tell_near) (ps := ["wall", "c", "h"]) ?a_tell_near ?l_tell_near ?c_tell_near ?k_tell_near (fun _ _ _ _ _ _ us hl => match us, hl with | [_, _, _], _ => rfl) (fun f_tell_near d_tell_near g_tell_near F_tell_near => ?_)
    (case a_tell_near => k_is); (case l_tell_near => k_is); (case c_tell_near => k_is); (case k_tell_near => k_is)
    refine' Cw.hasFn_k KX G (x := "would_fall") (st := Cw.s_would_fall) (ps := ["hold", "hands_to_fall", "hands_more"]) ?a_would_fall ?l_would_fall ?c_would_fall ?k_would_fall (fun _ _ _ _ _ _ us hl => match us, hl with | [_, _, _], _ => rfl) (fun f_would_fall d_would_fall g_would_fall F_would_fall => ?_)
    (case a_would_fall => k_is); (case l_would_fall => k_is); (case c_would_fall => k_is); (case k_would_fall => k_is)
    refine' Cw.hasFn_k KX G (x := "tell_due") (st := Cw.s_tell_due) (ps := ["wall", "hands_more"]) ?a_tell_due ?l_tell_due ?c_tell_due ?k_tell_due (fun _ _ _ _ _ _ us hl => match us, hl with | [_, _], _ => rfl) (fun f_tell_due d_tell_due g_tell_due F_tell_due => ?_)
    (case a_tell_due => k_is); (case l_tell_due => k_is); (case c_tell_due => k_is); (case k_tell_due => k_is)
    refine' Cw.hasFn_k KX G (x := "as_number") (st := Cw.s_as_number) (ps := ["truth"]) ?a_as_number ?l_as_number ?c_as_number ?k_as_number (fun _ _ _ _ _ _ us hl => match us, hl with | [_], _ => rfl) (fun f_as_number d_as_number g_as_number F_as_number => ?_)
    (case a_as_number => k_is); (case l_as_number => k_is); (case c_as_number => k_is); (case k_as_number => k_is)
    refine' Cw.hasFn_k KX G (x := "look_at") (st := Cw.s_look_at) (ps := ["wall", "h"]) ?a_look_at ?l_look_at ?c_look_at ?k_look_at (fun _ _ _ _ _ _ us hl => match us, hl with | [_, _], _ => rfl) (fun f_look_at d_look_at g_look_at F_look_at => ?_)
    (case a_look_at => k_is); (case l_look_at => k_is); (case c_look_at => k_is); (case k_look_at => k_is)
    refine' Cw.hasFn_k KX G (x := "tell_route") (st := Cw.s_tell_route) (ps := ["wall", "r"]) ?a_tell_route ?l_tell_route ?c_tell_route ?k_tell_route (fun _ _ _ _ _ _ us hl => match us, hl with | [_, _], _ => rfl) (fun f_tell_route d_tell_route g_tell_route F_tell_route => ?_)
    (case a_tell_route => k_is); (case l_tell_route => k_is); (case c_tell_route => k_is); (case k_tell_route => k_is)
    refine' Cw.hasFn_k KX G (x := "tell_log") (st := Cw.s_tell_log) (ps := ["wall", "c"]) ?a_tell_log ?l_tell_log ?c_tell_log ?k_tell_log (fun _ _ _ _ _ _ us hl => match us, hl with | [_, _], _ => rfl) (fun f_tell_log d_tell_log g_tell_log F_tell_log => ?_)
    (case a_tell_log => k_is); (case l_tell_log => k_is); (case c_tell_log => k_is); (case k_tell_log => k_is)
    refine' Cw.hasFn_k KX G (x := "tell_state") (st := Cw.s_tell_state) (ps := ["wall"]) ?a_tell_state ?l_tell_state ?c_tell_state ?k_tell_state (fun _ _ _ _ _ _ us hl => match us, hl with | [_], _ => rfl) (fun f_tell_state d_tell_state g_tell_state F_tell_state => ?_)
    (case a_tell_state => k_is); (case l_tell_state => k_is); (case c_tell_state => k_is); (case k_tell_state => k_is)
    refine' Cw.hasFn_k KX G (x := "answer_hold_call") (st := Cw.s_answer_hold_call) (ps := ["wall", "call", "told"]) ?a_answer_hold_call ?l_answer_hold_call ?c_answer_hold_call ?k_answer_hold_call (fun _ _ _ _ _ _ us hl => match us, hl with | [_, _, _], _ => rfl) (fun f_answer_hold_call d_answer_hold_call g_answer_hold_call F_answer_hold_call => ?_)
    (case a_answer_hold_call => k_is); (case l_answer_hold_call => k_is); (case c_answer_hold_call => k_is); (case k_answer_hold_call => k_is)
    refine' Cw.hasFn_k KX G (x := "answer_people_call") (st := Cw.s_answer_people_call) (ps := ["wall", "call", "told", "row"]) ?a_answer_people_call ?l_answer_people_call ?c_answer_people_call ?k_answer_people_call (fun _ _ _ _ _ _ us hl => match us, hl with | [_, _, _, _], _ => rfl) (fun f_answer_people_call d_answer_people_call g_answer_people_call F_answer_people_call => ?_)
    (case a_answer_people_call => k_is); (case l_answer_people_call => k_is); (case c_answer_people_call => k_is); (case k_answer_people_call => k_is)
    refine' Cw.hasFn_k KX G (x := "answer_climbing_call") (st := Cw.s_answer_climbing_call) (ps := ["wall", "call", "told"]) ?a_answer_climbing_call ?l_answer_climbing_call ?c_answer_climbing_call ?k_answer_climbing_call (fun _ _ _ _ _ _ us hl => match us, hl with | [_, _, _], _ => rfl) (fun f_answer_climbing_call d_answer_climbing_call g_answer_climbing_call F_answer_climbing_call => ?_)
    (case a_answer_climbing_call => k_is); (case l_answer_climbing_call => k_is); (case c_answer_climbing_call => k_is); (case k_answer_climbing_call => k_is)
    refine' Cw.hasFn_k KX G (x := "answer_asking_call") (st := Cw.s_answer_asking_call) (ps := ["wall", "call", "told"]) ?a_answer_asking_call ?l_answer_asking_call ?c_answer_asking_call ?k_answer_asking_call (fun _ _ _ _ _ _ us hl => match us, hl with | [_, _, _], _ => rfl) (fun f_answer_asking_call d_answer_asking_call g_answer_asking_call F_answer_asking_call => ?_)
    (case a_answer_asking_call => k_is); (case l_answer_asking_call => k_is); (case c_answer_asking_call => k_is); (case k_answer_asking_call => k_is)
    refine' Cw.hasFn_k KX G (x := "answer_telling_call") (st := Cw.s_answer_telling_call) (ps := ["wall", "call", "told"]) ?a_answer_telling_call ?l_answer_telling_call ?c_answer_telling_call ?k_answer_telling_call (fun _ _ _ _ _ _ us hl => match us, hl with | [_, _, _], _ => rfl) (fun f_answer_telling_call d_answer_telling_call g_answer_telling_call F_answer_telling_call => ?_)
    (case a_answer_telling_call => k_is); (case l_answer_telling_call => k_is); (case c_answer_telling_call => k_is); (case k_answer_telling_call => k_is)
    refine' Cw.hasFn_k KX G (x := "answer_call") (st := Cw.s_answer_call) (ps := ["wall", "call", "told", "row"]) ?a_answer_call ?l_answer_call ?c_answer_call ?k_answer_call (fun _ _ _ _ _ _ us hl => match us, hl with | [_, _, _, _], _ => rfl) (fun f_answer_call d_answer_call g_answer_call F_answer_call => ?_)
    (case a_answer_call => k_is); (case l_answer_call => k_is); (case c_answer_call => k_is); (case k_answer_call => k_is)
    refine' Cw.hasFn_k KX G (x := "answers") (st := Cw.s_answers) (ps := ["calls"]) ?a_answers ?l_answers ?c_answers ?k_answers (fun _ _ _ _ _ _ us hl => match us, hl with | [_], _ => rfl) (fun f_answers d_answers g_answers F_answers => ?_)
    (case a_answers => k_is); (case l_answers => k_is); (case c_answers => k_is); (case k_answers => k_is)
    refine' Cw.hasCls_k KX G (x := "Hold") (qual := "Hold.__init__") (st := Cw.s_Hold) (ps := ["self", "x", "y", "grip"]) ?aC_Hold ?a_Hold ?i_Hold ?l_Hold ?c_Hold ?k_Hold ?pg_Hold ?hd_Hold ?po_Hold ?sa_Hold ?mk_Hold ?kc_Hold ["x", "y", "grip", "hands", "on"] ⟨?n0_Hold, ?n1_Hold, ?n2_Hold, ?n3_Hold, ?n4_Hold, trivial⟩ (fun _ _ _ _ _ _ us hl => match us, hl with | [_, _, _, _], _ => rfl) (fun c_Hold f_Hold d_Hold g_Hold F_Hold cl_Hold mk_Hold na_Hold => ?_)
    (case aC_Hold => k_is); (case a_Hold => k_is); (case i_Hold => k_is); (case l_Hold => k_is); (case c_Hold => k_is); (case k_Hold => k_is); (case pg_Hold => k_is); (case hd_Hold => k_is); (case po_Hold => k_is); (case sa_Hold => k_is); (case mk_Hold => k_is); (case kc_Hold => k_is); (case n0_Hold => k_is); (case n1_Hold => k_is); (case n2_Hold => k_is); (case n3_Hold => k_is); (case n4_Hold => k_is)
    refine' Cw.hasCls_k KX G (x := "Route") (qual := "Route.__init__") (st := Cw.s_Route) (ps := ["self", "must_lead", "stops"]) ?aC_Route ?a_Route ?i_Route ?l_Route ?c_Route ?k_Route ?pg_Route ?hd_Route ?po_Route ?sa_Route ?mk_Route ?kc_Route ["must_lead", "stops"] ⟨?n0_Route, ?n1_Route, trivial⟩ (fun _ _ _ _ _ _ us hl => match us, hl with | [_, _, _], _ => rfl) (fun c_Route f_Route d_Route g_Route F_Route cl_Route mk_Route na_Route => ?_)
    (case aC_Route => k_is); (case a_Route => k_is); (case i_Route => k_is); (case l_Route => k_is); (case c_Route => k_is); (case k_Route => k_is); (case pg_Route => k_is); (case hd_Route => k_is); (case po_Route => k_is); (case sa_Route => k_is); (case mk_Route => k_is); (case kc_Route => k_is); (case n0_Route => k_is); (case n1_Route => k_is)
    refine' Cw.hasCls_k KX G (x := "Climber") (qual := "Climber.__init__") (st := Cw.s_Climber) (ps := ["self", "reach", "strength", "may_lead"]) ?aC_Climber ?a_Climber ?i_Climber ?l_Climber ?c_Climber ?k_Climber ?pg_Climber ?hd_Climber ?po_Climber ?sa_Climber ?mk_Climber ?kc_Climber ["reach", "strength", "may_lead", "climbs", "moves"] ⟨?n0_Climber, ?n1_Climber, ?n2_Climber, ?n3_Climber, ?n4_Climber, trivial⟩ (fun _ _ _ _ _ _ us hl => match us, hl with | [_, _, _, _], _ => rfl) (fun c_Climber f_Climber d_Climber g_Climber F_Climber cl_Climber mk_Climber na_Climber => ?_)
    (case aC_Climber => k_is); (case a_Climber => k_is); (case i_Climber => k_is); (case l_Climber => k_is); (case c_Climber => k_is); (case k_Climber => k_is); (case pg_Climber => k_is); (case hd_Climber => k_is); (case po_Climber => k_is); (case sa_Climber => k_is); (case mk_Climber => k_is); (case kc_Climber => k_is); (case n0_Climber => k_is); (case n1_Climber => k_is); (case n2_Climber => k_is); (case n3_Climber => k_is); (case n4_Climber => k_is)
    refine' Cw.hasCls_k KX G (x := "Wall") (qual := "Wall.__init__") (st := Cw.s_Wall) (ps := ["self"]) ?aC_Wall ?a_Wall ?i_Wall ?l_Wall ?c_Wall ?k_Wall ?pg_Wall ?hd_Wall ?po_Wall ?sa_Wall ?mk_Wall ?kc_Wall ["begun", "hands_to_fall", "holds", "routes", "climbers"] ⟨?n0_Wall, ?n1_Wall, ?n2_Wall, ?n3_Wall, ?n4_Wall, trivial⟩ (fun _ _ _ _ _ _ us hl => match us, hl with | [_], _ => rfl) (fun c_Wall f_Wall d_Wall g_Wall F_Wall cl_Wall mk_Wall na_Wall => ?_)
    (case aC_Wall => k_is); (case a_Wall => k_is); (case i_Wall => k_is); (case l_Wall => k_is); (case c_Wall => k_is); (case k_Wall => k_is); (case pg_Wall => k_is); (case hd_Wall => k_is); (case po_Wall => k_is); (case sa_Wall => k_is); (case mk_Wall => k_is); (case kc_Wall => k_is); (case n0_Wall => k_is); (case n1_Wall => k_is); (case n2_Wall => k_is); (case n3_Wall => k_is); (case n4_Wall => k_is)
    have k_NO_SUCH : ∃ t, mg "NO_SUCH" = some (.int (-2) t) := by
      refine' Cw.const_k KX G ?a; (case a => k_is)
    have k_NONE_AT_ALL : ∃ t, mg "NONE_AT_ALL" = some (.int (-6) t) := by
      refine' Cw.const_k KX G ?a; (case a => k_is)
    have k_NOT_BEGUN : ∃ t, mg "NOT_BEGUN" = some (.int (-11) t) := by
      refine' Cw.const_k KX G ?a; (case a => k_is)
    have k_SO_ALREADY : ∃ t, mg "SO_ALREADY" = some (.int (-17) t) := by
      refine' Cw.const_k KX G ?a; (case a => k_is)
    have k_OUT_OF_RANGE : ∃ t, mg "OUT_OF_RANGE" = some (.int (-22) t) := by
      refine' Cw.const_k KX G ?a; (case a => k_is)
    have k_TOO_MANY : ∃ t, mg "TOO_MANY" = some (.int (-28) t) := by
      refine' Cw.const_k KX G ?a; (case a => k_is)
    have k_NO_WAY : ∃ t, mg "NO_WAY" = some (.int (-33) t) := by
      refine' Cw.const_k KX G ?a; (case a => k_is)
    have k_MUST_LEAD : ∃ t, mg "MUST_LEAD" = some (.int (-61) t) := by
      refine' Cw.const_k KX G ?a; (case a => k_is)
    have k_LEFT : ∃ t, mg "LEFT" = some (.int (0) t) := by
      refine' Cw.const_k KX G ?a; (case a => k_is)
    have k_RIGHT : ∃ t, mg "RIGHT" = some (.int (1) t) := by
      refine' Cw.const_k KX G ?a; (case a => k_is)
    have k_ENOUGH_TO_HOLD : ∃ t, mg "ENOUGH_TO_HOLD" = some (.int (10) t) := by
      refine' Cw.const_k KX G ?a; (case a => k_is)
    have k_MOST_HOLDS : ∃ t, mg "MOST_HOLDS" = some (.int (20) t) := by
      refine' Cw.const_k KX G ?a; (case a => k_is)
    have k_MOST_ROUTES : ∃ t, mg "MOST_ROUTES" = some (.int (6) t) := by
      refine' Cw.const_k KX G ?a; (case a => k_is)
    have k_MOST_CLIMBERS : ∃ t, mg "MOST_CLIMBERS" = some (.int (8) t) := by
      refine' Cw.const_k KX G ?a; (case a => k_is)
    have k_MOST_HANDS_TO_FALL : ∃ t, mg "MOST_HANDS_TO_FALL" = some (.int (100) t) := by
      refine' Cw.const_k KX G ?a; (case a => k_is)
    have k_FURTHEST : ∃ t, mg "FURTHEST" = some (.int (50) t) := by
      refine' Cw.const_k KX G ?a; (case a => k_is)
    have k_BEST_GRIP : ∃ t, mg "BEST_GRIP" = some (.int (9) t) := by
      refine' Cw.const_k KX G ?a; (case a => k_is)
    have k_MOST_STRENGTH : ∃ t, mg "MOST_STRENGTH" = some (.int (9) t) := by
      refine' Cw.const_k KX G ?a; (case a => k_is)
    have k_MOST_REACH : ∃ t, mg "MOST_REACH" = some (.int (71) t) := by
      refine' Cw.const_k KX G ?a; (case a => k_is)
    have k_FEWEST_STOPS : ∃ t, mg "FEWEST_STOPS" = some (.int (2) t) := by
      refine' Cw.const_k KX G ?a; (case a => k_is)
    have k_MOST_STOPS : ∃ t, mg "MOST_STOPS" = some (.int (8) t) := by
      refine' Cw.const_k KX G ?a; (case a => k_is)
    have k_MOST_HANDS_ASKED : ∃ t, mg "MOST_HANDS_ASKED" = some (.int (100) t) := by
      refine' Cw.const_k KX G ?a; (case a => k_is)
    have k_BEGIN : ∃ t, mg "BEGIN" = some (.int (0) t) := by
      refine' Cw.const_k KX G ?a; (case a => k_is)
    have k_HOLD : ∃ t, mg "HOLD" = some (.int (1) t) := by
      refine' Cw.const_k KX G ?a; (case a => k_is)
    have k_SHIFT : ∃ t, mg "SHIFT" = some (.int (2) t) := by
      refine' Cw.const_k KX G ?a; (case a => k_is)
    have k_OFF : ∃ t, mg "OFF" = some (.int (3) t) := by
      refine' Cw.const_k KX G ?a; (case a => k_is)
    have k_BACK : ∃ t, mg "BACK" = some (.int (4) t) := by
      refine' Cw.const_k KX G ?a; (case a => k_is)
    have k_TURN : ∃ t, mg "TURN" = some (.int (5) t) := by
      refine' Cw.const_k KX G ?a; (case a => k_is)
    have k_ROUTE : ∃ t, mg "ROUTE" = some (.int (6) t) := by
      refine' Cw.const_k KX G ?a; (case a => k_is)
    have k_CLIMBER : ∃ t, mg "CLIMBER" = some (.int (7) t) := by
      refine' Cw.const_k KX G ?a; (case a => k_is)
    have k_TRAIN : ∃ t, mg "TRAIN" = some (.int (8) t) := by
      refine' Cw.const_k KX G ?a; (case a => k_is)
    have k_CAN : ∃ t, mg "CAN" = some (.int (9) t) := by
      refine' Cw.const_k KX G ?a; (case a => k_is)
    have k_FEWEST : ∃ t, mg "FEWEST" = some (.int (10) t) := by
      refine' Cw.const_k KX G ?a; (case a => k_is)
    have k_WAY : ∃ t, mg "WAY" = some (.int (11) t) := by
      refine' Cw.const_k KX G ?a; (case a => k_is)
    have k_CLIMB : ∃ t, mg "CLIMB" = some (.int (12) t) := by
      refine' Cw.const_k KX G ?a; (case a => k_is)
    have k_WHO : ∃ t, mg "WHO" = some (.int (13) t) := by
      refine' Cw.const_k KX G ?a; (case a => k_is)
    have k_WHICH : ∃ t, mg "WHICH" = some (.int (14) t) := by
      refine' Cw.const_k KX G ?a; (case a => k_is)
    have k_REACH : ∃ t, mg "REACH" = some (.int (15) t) := by
      refine' Cw.const_k KX G ?a; (case a => k_is)
    have k_STRONG : ∃ t, mg "STRONG" = some (.int (16) t) := by
      refine' Cw.const_k KX G ?a; (case a => k_is)
    have k_NEEDED : ∃ t, mg "NEEDED" = some (.int (17) t) := by
      refine' Cw.const_k KX G ?a; (case a => k_is)
    have k_SPAN : ∃ t, mg "SPAN" = some (.int (18) t) := by
      refine' Cw.const_k KX G ?a; (case a => k_is)
    have k_NEAR : ∃ t, mg "NEAR" = some (.int (19) t) := by
      refine' Cw.const_k KX G ?a; (case a => k_is)
    have k_DUE : ∃ t, mg "DUE" = some (.int (20) t) := by
      refine' Cw.const_k KX G ?a; (case a => k_is)
    have k_BEST : ∃ t, mg "BEST" = some (.int (21) t) := by
      refine' Cw.const_k KX G ?a; (case a => k_is)
    have k_LOOK : ∃ t, mg "LOOK" = some (.int (22) t) := by
      refine' Cw.const_k KX G ?a; (case a => k_is)
    have k_TOLD : ∃ t, mg "TOLD" = some (.int (23) t) := by
      refine' Cw.const_k KX G ?a; (case a => k_is)
    have k_LOG : ∃ t, mg "LOG" = some (.int (24) t) := by
      refine' Cw.const_k KX G ?a; (case a => k_is)
    obtain ⟨a_WIDTHS, k_WIDTHS, q_WIDTHS⟩ : ∃ p, mg "WIDTHS" = some (.ref p) ∧ ∀ H : L2.Hp, L2.SqT _ H p (([1, 3, 3, 1, 1, 2, 1, 3, 2, 2, 2, 2, 2, 1, 1, 1, 1, 2, 2, 2, 1, 1, 1, 1, 1, 0] : List Int).map L2.V.int) := by
      refine' Cw.tup_k KX G ?a ?l ?z ?b; (case a => k_is); (case l => k_is); (case z => decide); (case b => rfl)
    have n_any : mg "any" = none := by
      refine' PySem.W.mg_none_of KX G ?a; (case a => k_is)
    have n_enumerate : mg "enumerate" = none := by
      refine' PySem.W.mg_none_of KX G ?a; (case a => k_is)
    have n_len : mg "len" = none := by
      refine' PySem.W.mg_none_of KX G ?a; (case a => k_is)
    have n_list : mg "list" = none := by
      refine' PySem.W.mg_none_of KX G ?a; (case a => k_is)
    have n_max : mg "max" = none := by
      refine' PySem.W.mg_none_of KX G ?a; (case a => k_is)
    have n_range : mg "range" = none := by
      refine' PySem.W.mg_none_of KX G ?a; (case a => k_is)
    have n_set : mg "set" = none := by
      refine' PySem.W.mg_none_of KX G ?a; (case a => k_is)
    have n_sorted : mg "sorted" = none := by
      refine' PySem.W.mg_none_of KX G ?a; (case a => k_is)
    obtain rfl : f_answers = fa := by
      have e := g_answers.symm.trans hmg
      injection e with e; injection e
    exact ⟨d_answers, F_answers.bt, fun base _ _ => Cw.ok_answers (D := ⟨f_can_hold, d_can_hold, f_apart_squared, d_apart_squared, f_is_within_reach, d_is_within_reach, f_can_be_on, d_can_be_on, f_hands_after, d_hands_after, f_spread, d_spread, f_first_way, d_first_way, f_are_there, d_are_there, f_way_of, d_way_of, f_can_climb, d_can_climb, f_fewest_moves, d_fewest_moves, f_tell_way, d_tell_way, f_wear, d_wear, f_make_moves, d_make_moves, f_climb_route, d_climb_route, f_begin, d_begin, f_is_grip, d_is_grip, f_is_strength, d_is_strength, f_is_place, d_is_place, f_is_taken, d_is_taken, f_add_hold, d_add_hold, f_shift_hold, d_shift_hold, f_take_off, d_take_off, f_put_back, d_put_back, f_turn_hold, d_turn_hold, f_are_stops, d_are_stops, f_add_route, d_add_route, f_add_climber, d_add_climber, f_train_climber, d_train_climber, f_tell_who, d_tell_who, f_tell_which, d_tell_which, f_best_route, d_best_route, f_would_get_up, d_would_get_up, f_least_reach, d_least_reach, f_least_strength, d_least_strength, f_gets_up_without, d_gets_up_without, f_needed_holds, d_needed_holds, f_least_root, d_least_root, f_tell_span, d_tell_span, f_is_near, d_is_near, f_tell_near, d_tell_near, f_would_fall, d_would_fall, f_tell_due, d_tell_due, f_as_number, d_as_number, f_look_at, d_look_at, f_tell_route, d_tell_route, f_tell_log, d_tell_log, f_tell_state, d_tell_state, f_answer_hold_call, d_answer_hold_call, f_answer_people_call, d_answer_people_call, f_answer_climbing_call, d_answer_climbing_call, f_answer_asking_call, d_answer_asking_call, f_answer_telling_call, d_answer_telling_call, f_answer_call, d_answer_call, f_answers, d_answers, c_Hold, f_Hold, d_Hold, c_Route, f_Route, d_Route, c_Climber, f_Climber, d_Climber, c_Wall, f_Wall, d_Wall, a_WIDTHS⟩) ⟨F_can_hold.fn, g_can_hold, F_can_hold.b, F_apart_squared.fn, g_apart_squared, F_apart_squared.b, F_is_within_reach.fn, g_is_within_reach, F_is_within_reach.b, F_can_be_on.fn, g_can_be_on, F_can_be_on.b, F_hands_after.fn, g_hands_after, F_hands_after.b, F_spread.fn, g_spread, F_spread.b, F_first_way.fn, g_first_way, F_first_way.b, F_are_there.fn, g_are_there, F_are_there.b, F_way_of.fn, g_way_of, F_way_of.b, F_can_climb.fn, g_can_climb, F_can_climb.b, F_fewest_moves.fn, g_fewest_moves, F_fewest_moves.b, F_tell_way.fn, g_tell_way, F_tell_way.b, F_wear.fn, g_wear, F_wear.b, F_make_moves.fn, g_make_moves, F_make_moves.b, F_climb_route.fn, g_climb_route, F_climb_route.b, F_begin.fn, g_begin, F_begin.b, F_is_grip.fn, g_is_grip, F_is_grip.b, F_is_strength.fn, g_is_strength, F_is_strength.b, F_is_place.fn, g_is_place, F_is_place.b, F_is_taken.fn, g_is_taken, F_is_taken.b, F_add_hold.fn, g_add_hold, F_add_hold.b, F_shift_hold.fn, g_shift_hold, F_shift_hold.b, F_take_off.fn, g_take_off, F_take_off.b, F_put_back.fn, g_put_back, F_put_back.b, F_turn_hold.fn, g_turn_hold, F_turn_hold.b, F_are_stops.fn, g_are_stops, F_are_stops.b, F_add_route.fn, g_add_route, F_add_route.b, F_add_climber.fn, g_add_climber, F_add_climber.b, F_train_climber.fn, g_train_climber, F_train_climber.b, F_tell_who.fn, g_tell_who, F_tell_who.b, F_tell_which.fn, g_tell_which, F_tell_which.b, F_best_route.fn, g_best_route, F_best_route.b, F_would_get_up.fn, g_would_get_up, F_would_get_up.b, F_least_reach.fn, g_least_reach, F_least_reach.b, F_least_strength.fn, g_least_strength, F_least_strength.b, F_gets_up_without.fn, g_gets_up_without, F_gets_up_without.b, F_needed_holds.fn, g_needed_holds, F_needed_holds.b, F_least_root.fn, g_least_root, F_least_root.b, F_tell_span.fn, g_tell_span, F_tell_span.b, F_is_near.fn, g_is_near, F_is_near.b, F_tell_near.fn, g_tell_near, F_tell_near.b, F_would_fall.fn, g_would_fall, F_would_fall.b, F_tell_due.fn, g_tell_due, F_tell_due.b, F_as_number.fn, g_as_number, F_as_number.b, F_look_at.fn, g_look_at, F_look_at.b, F_tell_route.fn, g_tell_route, F_tell_route.b, F_tell_log.fn, g_tell_log, F_tell_log.b, F_tell_state.fn, g_tell_state, F_tell_state.b, F_answer_hold_call.fn, g_answer_hold_call, F_answer_hold_call.b, F_answer_people_call.fn, g_answer_people_call, F_answer_people_call.b, F_answer_climbing_call.fn, g_answer_climbing_call, F_answer_climbing_call.b, F_answer_asking_call.fn, g_answer_asking_call, F_answer_asking_call.b, F_answer_telling_call.fn, g_answer_telling_call, F_answer_telling_call.b, F_answer_call.fn, g_answer_call, F_answer_call.b, F_answers.fn, g_answers, F_answers.b, F_Hold.fn, g_Hold, F_Hold.b, cl_Hold, mk_Hold, na_Hold "x" (by simp), na_Hold "y" (by simp), na_Hold "grip" (by simp), na_Hold "hands" (by simp), na_Hold "on" (by simp), F_Route.fn, g_Route, F_Route.b, cl_Route, mk_Route, na_Route "must_lead" (by simp), na_Route "stops" (by simp), F_Climber.fn, g_Climber, F_Climber.b, cl_Climber, mk_Climber, na_Climber "reach" (by simp), na_Climber "strength" (by simp), na_Climber "may_lead" (by simp), na_Climber "climbs" (by simp), na_Climber "moves" (by simp), F_Wall.fn, g_Wall, F_Wall.b, cl_Wall, mk_Wall, na_Wall "begun" (by simp), na_Wall "hands_to_fall" (by simp), na_Wall "holds" (by simp), na_Wall "routes" (by simp), na_Wall "climbers" (by simp), k_NO_SUCH, k_NONE_AT_ALL, k_NOT_BEGUN, k_SO_ALREADY, k_OUT_OF_RANGE, k_TOO_MANY, k_NO_WAY, k_MUST_LEAD, k_LEFT, k_RIGHT, k_ENOUGH_TO_HOLD, k_MOST_HOLDS, k_MOST_ROUTES, k_MOST_CLIMBERS, k_MOST_HANDS_TO_FALL, k_FURTHEST, k_BEST_GRIP, k_MOST_STRENGTH, k_MOST_REACH, k_FEWEST_STOPS, k_MOST_STOPS, k_MOST_HANDS_ASKED, k_BEGIN, k_HOLD, k_SHIFT, k_OFF, k_BACK, k_TURN, k_ROUTE, k_CLIMBER, k_TRAIN, k_CAN, k_FEWEST, k_WAY, k_CLIMB, k_WHO, k_WHICH, k_REACH, k_STRONG, k_NEEDED, k_SPAN, k_NEAR, k_DUE, k_BEST, k_LOOK, k_TOLD, k_LOG, k_WIDTHS, q_WIDTHS, n_any, n_enumerate, n_len, n_list, n_max, n_range, n_set, n_sorted⟩⟩
  case S =>
    intro K H xs a hO hwi hask hx
    cases hx with
    | cons h1 h2 =>
      cases h2
      cases h1 with
      | lst hs ha =>
        have e := L2.ints_dw a.1 _ ha
        subst e
        have q : ((Codec.inLen 0 6000 a.1 && a.1.all (Codec.inInt 0 4294967295)) && true) = true := hwi
        rw [Bool.and_eq_true, Bool.and_eq_true] at q
        exact ⟨_, a.1, rfl, hs, (Codec.inNat_iff.mp q.1.1).2, (fun y hy => (Codec.inInt_iff.mp (List.all_eq_true.mp q.1.2 y hy)).1), hask, fun H' p hp => .lst (L2.SqL.of hp) (L2.dw_ints _)⟩
#print axioms PySem.Challenge.cw_climbwall_s01_answers_holds
