import PyProof.Rows.All
import Wide.All
import OpenK.AllK
import Wide.FinOn
import PyProof.EqAt
import PyProof.EqKinds
import PyProof.TupleCall
import PyProof.CompMap
import KE.BitLaws
import Open.SpecLaws
import KE.OsHead
import KE.OsGo
import KE.KSortKeyAny
import KE.KLam
import KE.KNestM
import PySem.Challenge.RW_partscores_s01_answers
set_option Elab.async false
set_option linter.all false
set_option maxRecDepth 100000
namespace L2
open PySem PySem.Spec PyProof.Rows
abbrev Key := Sum Int Str
def keyIs : Key → Value → Bool
  | .inl k, v => Value.isInt k v
  | .inr x, v => Value.isStrOf x v
def keyH (w : World) : Key → Int
  | .inl k => hashInt k
  | .inr x => hashStr w x
theorem keyIs_shape : ∀ {k : Key} {v : Value}, keyIs k v = true → (∃ i t, k = Sum.inl i ∧ v = Value.int i t) ∨ (∃ x t, k = Sum.inr x ∧ v = Value.str x t)
  | .inl i, v, h => by
    obtain ⟨t, e⟩ := Value.isInt_shape (k := i) (v := v) h
    exact .inl ⟨i, t, rfl, e⟩
  | .inr x, v, h => by
    obtain ⟨t, e⟩ := Value.isStrOf_shape (x := x) (v := v) h
    exact .inr ⟨x, t, rfl, e⟩
theorem keyIs_int (i : Int) (t : Tok) : keyIs (.inl i) (.int i t) = true := by simp [keyIs, Value.isInt]
theorem keyIs_str (x : Str) (t : Tok) : keyIs (.inr x) (.str x t) = true := by simp [keyIs, Value.isStrOf]
theorem key_ll (a b : Int) : decide ((Sum.inl a : Key) = Sum.inl b) = (a == b) := by
  by_cases e : a = b
  · subst e; simp
  · have h : ¬ (Sum.inl a : Key) = Sum.inl b := fun q => e (Sum.inl.inj q)
    rw [decide_eq_false h]
    exact (beq_eq_false_iff_ne.mpr e).symm
theorem key_rr (a b : Str) : decide ((Sum.inr a : Key) = Sum.inr b) = decide (a = b) := by
  by_cases e : a = b
  · subst e; simp
  · have h : ¬ (Sum.inr a : Key) = Sum.inr b := fun q => e (Sum.inr.inj q)
    rw [decide_eq_false h, decide_eq_false e]
theorem key_lr (a : Int) (b : Str) : decide ((Sum.inl a : Key) = Sum.inr b) = false := decide_eq_false (fun q => nomatch q)
theorem key_rl (a : Str) (b : Int) : decide ((Sum.inr a : Key) = Sum.inl b) = false := decide_eq_false (fun q => nomatch q)
def mixKind (prog : Program) (w : World) : PySem.KeyKind prog w Key where
  is := keyIs
  hash := keyH w
  inj := fun v a b ha hb => by
    rcases keyIs_shape ha with ⟨i, t, rfl, rfl⟩ | ⟨x, t, rfl, rfl⟩
    · rcases keyIs_shape hb with ⟨j, u, rfl, e⟩ | ⟨y, u, rfl, e⟩
      · injection e with e1 _; rw [e1]
      · exact nomatch e
    · rcases keyIs_shape hb with ⟨j, u, rfl, e⟩ | ⟨y, u, rfl, e⟩
      · exact nomatch e
      · injection e with e1 _; rw [e1]
  byValue := fun k v h => by
    rcases keyIs_shape h with ⟨i, t, rfl, rfl⟩ | ⟨x, t, rfl, rfl⟩ <;> rfl
  pyHash := fun hv h => by
    rcases keyIs_shape hv with ⟨i, t, rfl, rfl⟩ | ⟨x, t, rfl, rfl⟩
    · exact wpAny_pyHash_int h
    · exact wpAny_pyHash_str h
  eqBool := fun hu hv h => by
    rcases keyIs_shape hu with ⟨i, t, rfl, rfl⟩ | ⟨x, t, rfl, rfl⟩
    · rcases keyIs_shape hv with ⟨j, u, rfl, rfl⟩ | ⟨y, u, rfl, rfl⟩
      · rw [key_ll] at h; exact wpAny_eqBool_int h
      · rw [key_lr] at h; exact SeqAt.EqAt.int_str i t y u _ _ _ _ h
    · rcases keyIs_shape hv with ⟨j, u, rfl, rfl⟩ | ⟨y, u, rfl, rfl⟩
      · rw [key_rl] at h; exact SeqAt.EqAt.str_int x t j u _ _ _ _ h
      · rw [key_rr] at h; exact wpAny_eqBool_str h
  «strs» := fun k x t v h => by
    rcases keyIs_shape h with ⟨i, u, rfl, e⟩ | ⟨y, u, rfl, e⟩
    · exact nomatch e
    · injection e with e1 _
      subst e1
      cases v <;> rfl
theorem mixKind_int (prog : Program) (w : World) (i : Int) (t : Tok) : (mixKind prog w).is (.inl i) (.int i t) = true := keyIs_int i t
theorem mixKind_str (prog : Program) (w : World) (x : Str) (t : Tok) : (mixKind prog w).is (.inr x) (.str x t) = true := keyIs_str x t
end L2
namespace L2
open PySem PySem.Spec PyProof.Rows
inductive V where
  | non | bl (b : Bool) | int (i : Int) | str (x : Str) | byt (b : Array UInt8) | flt (b : UInt64) | ref (a : Addr) | ty (n : String)
  deriving DecidableEq
def RelV : V → Value → Prop
  | .non, u => u = Value.none
  | .bl b, u => u = Value.bool b
  | .int i, u => ∃ t, u = Value.int i t
  | .str x, u => ∃ t, u = Value.str x t
  | .byt b, u => ∃ t, u = Value.bytes b t
  | .flt b, u => ∃ t, u = Value.float b t
  | .ref a, u => u = Value.ref a
  | .ty n, u => u = Value.type n
abbrev Vals : List V → List Value → Prop := Paired RelV
theorem Vals.length {xs : List V} {us : List Value} (r : Vals xs us) : xs.length = us.length := Paired.length r
theorem Vals.get : ∀ {xs : List V} {us : List Value} {i : Nat} {x : V}, Vals xs us → xs[i]? = some x → ∃ u, us[i]? = some u ∧ RelV x u
  | _, _, _, _, .nil, e => by simp at e
  | _, _, 0, _, .cons r _, e => by simp at e; subst e; exact ⟨_, rfl, r⟩
  | _, _, i + 1, x, .cons _ t, e => by
    obtain ⟨u, h1, h2⟩ := Vals.get (i := i) (x := x) t (by simpa using e)
    exact ⟨u, by simpa using h1, h2⟩
theorem Vals.set {x : V} {u : Value} (r : RelV x u) : ∀ {xs : List V} {us : List Value} (i : Nat), Vals xs us → Vals (xs.set i x) (us.set i u)
  | _, _, _, .nil => .nil
  | _, _, 0, .cons _ t => .cons r t
  | _, _, i + 1, .cons q t => .cons q (Vals.set r i t)
theorem Vals.append : ∀ {xs ys : List V} {us ws : List Value}, Vals xs us → Vals ys ws → Vals (xs ++ ys) (us ++ ws)
  | _, _, _, _, .nil, s => s
  | _, _, _, _, .cons r t, s => .cons r (Vals.append t s)
theorem Vals.take : ∀ {xs : List V} {us : List Value} (n : Nat), Vals xs us → Vals (xs.take n) (us.take n)
  | _, _, 0, _ => .nil
  | _, _, _ + 1, .nil => .nil
  | _, _, n + 1, .cons r t => .cons r (Vals.take n t)
theorem Vals.drop : ∀ {xs : List V} {us : List Value} (n : Nat), Vals xs us → Vals (xs.drop n) (us.drop n)
  | _, _, 0, r => r
  | _, _, _ + 1, .nil => .nil
  | _, _, n + 1, .cons _ t => Vals.drop n t
theorem Vals.none_of : ∀ {xs : List V} {us : List Value} {i : Nat}, Vals xs us → xs[i]? = none → us[i]? = none := fun {xs us i} r e => by
  have h1 := r.length
  have h2 : xs.length ≤ i := List.getElem?_eq_none_iff.mp e
  exact List.getElem?_eq_none_iff.mpr (by omega)
def RelO : Option V → Option Value → Prop
  | some v, some u => RelV v u
  | none, none => True
  | _, _ => False
def KV {κ : Type} : List (κ × V) → List (κ × Value) → Prop := Paired fun (p : κ × V) (q : κ × Value) => p.1 = q.1 ∧ RelV p.2 q.2
def kV : Key → V
  | .inl i => .int i
  | .inr x => .str x
inductive HO where
  | lst (xs : List V)
  | tup (xs : List V)
  | dK (kvs : List (Key × V)) | dT (kvs : List (List Key × V))
  | set (S : Int → Bool) (n : Nat)
  | ins (C dx : Addr) (fs : List (Str × V))
  | own (x : Addr)
  | xd (fs : List (Str × V))
  | met (f x : Addr)
  | rng (lo hi : Int)
  | frz (o : Obj) (u : HO)
  | tbl (ps : Array Value)
  | ext (φ : Heap → Prop)
abbrev Hp := Addr → Option HO
def upd (H : Hp) (a : Addr) (o : HO) : Hp := fun b => if b = a then some o else H b
theorem upd_same {H : Hp} {a : Addr} {o : HO} : upd H a o a = some o := by unfold upd; rw [if_pos rfl]
theorem upd_ne {H : Hp} {a b : Addr} {o : HO} (h : b ≠ a) : upd H a o b = H b := by unfold upd; rw [if_neg h]
theorem upd_upd {H : Hp} {a : Addr} {o u : HO} : upd (upd H a o) a u = upd H a u := by
  funext b; unfold upd; split <;> rfl
theorem ne_of {H : Hp} {a b : Addr} {o u : HO} (h : H a = some o) (h' : H b = some u) (d : o ≠ u) : a ≠ b := by
  intro e; subst e; rw [h] at h'; exact d (Option.some.inj h')
theorem ne_of_none {H : Hp} {a b : Addr} {o : HO} (h : H a = some o) (h' : H b = none) : a ≠ b := by
  intro e; subst e; rw [h] at h'; cases h'
section
variable (P : Program) (w : World)
def ObjOk (H : Hp) (h : Heap) (a : Addr) : HO → Prop
  | .lst xs => xs.length ≤ sizeLine ∧ ∃ (its : List Value) (n : Nat), Vals xs its ∧ h.get? a = some { cls := .type "list", data := .seq its.toArray n }
  | .tup xs => xs.length ≤ sizeLine ∧ ∃ its : List Value, Vals xs its ∧ IsTup h a its.toArray
  | .dK kvs => kvs.length ≤ sizeLine ∧ (a == sysModules) = false ∧ ∃ vs, KV kvs vs ∧ h.DictOf (mixKind P w) a vs
  | .dT kvs => kvs.length ≤ sizeLine ∧ (a == sysModules) = false ∧ ∃ xs : List (List Key × Addr × Value),
      Paired (fun (p : List Key × V) (q : List Key × Addr × Value) => p.1 = q.1 ∧ H q.2.1 = some (.tup (p.1.map kV)) ∧ RelV p.2 q.2.2) kvs xs ∧
      ∃ o es ep, h.get? a = some o ∧ o.ExactDict ∧ o.data = .dict es ep ∧ es.toList = xs.map (entryOfKey (tupleKind (mixKind P w))) ∧ (xs.map (·.1)).Nodup
  | .set S n => h.SetOf (intKind P w) a S n
  | .ins C dx fs => H dx = some (.own a) ∧ fs.length ≤ 1000 ∧ dx ≠ a ∧ h.get? a = some (PySem.W.instObj C dx) ∧
      ∃ mA, h.Ns1 dx mA ∧ (∀ f, RelO (fs.lookup f) (mA f)) ∧ PySem.Within mA (fs.map (·.1))
  | .own _ => ∃ o, h.get? a = some o
  | .xd fs => ∃ mA, h.Ns1 a mA ∧ ∀ f, RelO (fs.lookup f) (mA f)
  | .rng lo hi => ∃ t u v, h.get? a = some { cls := .type "range", data := .fields #[.int lo t, .int hi u, .int 1 v] }
  | .frz o u => h.get? a = some o ∧ ObjOk H h a u
  | .tbl ps => h.get? a = some { cls := .none, data := .fields ps }
  | .met f x => h.get? a = some (PySem.W.methodObj (.ref f) (.ref x))
  | .ext φ => φ h ∧ (∃ o, h.get? a = some o) ∧ ∀ h1 h2 : Heap, φ h1 → (∀ o, h1.get? a = some o → h2.get? a = some o) → φ h2
def HOk (H : Hp) (h : Heap) : Prop := ∀ a o, H a = some o → ObjOk P w H h a o
end
section
variable {P : Program} {w : World} {H H' : Hp} {h h' : Heap} {a : Addr} {o : HO}
theorem ObjOk.lt (x : ObjOk P w H h a o) : a < h.objs.size := by
  cases o with
  | lst xs => obtain ⟨_, _, _, _, e⟩ := x; exact Heap.lt_size e
  | tup xs => obtain ⟨_, _, _, p⟩ := x; exact p.lt
  | dK kvs => obtain ⟨_, _, _, _, o, _, _, e, _⟩ := x; exact Heap.lt_size e
  | dT kvs => obtain ⟨_, _, _, _, o, _, _, e, _⟩ := x; exact Heap.lt_size e
  | set S n => obtain ⟨o, _, _, _, e, _⟩ := x; exact Heap.lt_size e
  | ins C dx fs => obtain ⟨_, _, _, e, _⟩ := x; exact Heap.lt_size e
  | own y => obtain ⟨_, e⟩ := x; exact Heap.lt_size e
  | xd fs => obtain ⟨_, ⟨_, _, _, e, _⟩, _⟩ := x; exact Heap.lt_size e
  | rng lo hi => obtain ⟨_, _, _, e⟩ := x; exact Heap.lt_size e
  | frz ob u => obtain ⟨e, _⟩ := x; exact Heap.lt_size e
  | tbl ps => exact Heap.lt_size (show h.get? a = some _ from x)
  | met f y => exact Heap.lt_size (show h.get? a = some _ from x)
  | ext φ => obtain ⟨_, ⟨_, e⟩, _⟩ := x; exact Heap.lt_size e
theorem Paired.mapP {α β : Type} {F G : α → β → Prop} : ∀ {l₁ : List α} {l₂ : List β}, Paired F l₁ l₂ → (∀ a b, F a b → G a b) → Paired G l₁ l₂
  | _, _, .nil, _ => .nil
  | _, _, .cons r t, f => .cons (f _ _ r) (Paired.mapP t f)
theorem Paired.imp' {α β : Type} {F G : α → β → Prop} (f : ∀ a b, F a b → G a b) {l₁ : List α} {l₂ : List β} (r : Paired F l₁ l₂) : Paired G l₁ l₂ := Paired.mapP r f
theorem ObjOk.stay (x : ObjOk P w H h a o) (k : ∀ b u, (b = a ∨ H b = some (.own a)) → h.get? b = some u → h'.get? b = some u)
    (ho : ∀ b, H b = some (.own a) → H' b = some (.own a)) (ht : ∀ b xs, H b = some (.tup xs) → H' b = some (.tup xs)) : ObjOk P w H' h' a o := by
  induction o with
  | lst xs => obtain ⟨z, its, n, r, e⟩ := x; exact ⟨z, its, n, r, k _ _ (.inl rfl) e⟩
  | tup xs => obtain ⟨z, its, r, ob, e, c⟩ := x; exact ⟨z, its, r, ob, k _ _ (.inl rfl) e, c⟩
  | dK kvs => obtain ⟨z, y, vs, r, ob, es, ep, e, c⟩ := x; exact ⟨z, y, vs, r, ob, es, ep, k _ _ (.inl rfl) e, c⟩
  | dT kvs =>
    obtain ⟨z, y, xs, r, ob, es, ep, e, c⟩ := x
    exact ⟨z, y, xs, Paired.mapP r fun p q z => ⟨z.1, ht _ _ z.2.1, z.2.2⟩, ob, es, ep, k _ _ (.inl rfl) e, c⟩
  | set S n => obtain ⟨ob, es, ep, t, e, c⟩ := x; exact ⟨ob, es, ep, t, k _ _ (.inl rfl) e, c⟩
  | ins C dx fs =>
    obtain ⟨d, z, ne, e, mA, ⟨od, es, ep, e2, c⟩, r⟩ := x
    exact ⟨ho _ d, z, ne, k _ _ (.inl rfl) e, mA, ⟨od, es, ep, k _ _ (.inr d) e2, c⟩, r⟩
  | own y => obtain ⟨ob, e⟩ := x; exact ⟨ob, k _ _ (.inl rfl) e⟩
  | xd fs => obtain ⟨mA, ⟨od, es, ep, e, c⟩, r⟩ := x; exact ⟨mA, ⟨od, es, ep, k _ _ (.inl rfl) e, c⟩, r⟩
  | rng lo hi => obtain ⟨t, u, v, e⟩ := x; exact ⟨t, u, v, k _ _ (.inl rfl) e⟩
  | frz ob u ih => obtain ⟨e, q⟩ := x; exact ⟨k _ _ (.inl rfl) e, ih q⟩
  | tbl ps =>
    have e : h.get? a = some { cls := .none, data := .fields ps } := x
    show h'.get? a = some { cls := .none, data := .fields ps }
    exact k a _ (.inl rfl) e
  | met f y =>
    have e : h.get? a = some (PySem.W.methodObj (.ref f) (.ref y)) := x
    show h'.get? a = some (PySem.W.methodObj (.ref f) (.ref y))
    exact k a _ (.inl rfl) e
  | ext φ => obtain ⟨p, ⟨o, e⟩, st⟩ := x; exact ⟨st _ _ p fun o q => k _ _ (.inl rfl) q, ⟨o, k _ _ (.inl rfl) e⟩, st⟩
theorem HOk.lt (x : HOk P w H h) (e : H a = some o) : a < h.objs.size := (x a o e).lt
theorem HOk.fresh (x : HOk P w H h) (e : h.objs.size ≤ a) : H a = none := by
  cases q : H a with
  | none => rfl
  | some u => exact absurd (Nat.lt_of_lt_of_le (x.lt q) e) (Nat.lt_irrefl _)
theorem HOk.kept (x : HOk P w H h) (k : ∀ b u, h.get? b = some u → h'.get? b = some u) : HOk P w H h' := fun a o e =>
  (x a o e).stay (fun b u _ q => k b u q) (fun _ q => q) fun _ _ q => q
theorem HOk.laid (x : HOk P w H h) (k : ∀ b u, h.get? b = some u → h'.get? b = some u) (hp : h.objs.size ≤ a) (new : ObjOk P w (upd H a o) h' a o) : HOk P w (upd H a o) h' := fun b u e => by
  have hn := x.fresh hp
  by_cases hb : b = a
  · subst hb; rw [upd_same] at e; cases e; exact new
  · rw [upd_ne hb] at e
    exact (x b u e).stay (fun c v _ q => k c v q) (fun c q => by rw [upd_ne (ne_of_none q hn)]; exact q) fun c xs q => by rw [upd_ne (ne_of_none q hn)]; exact q
end
def Rd (H : Hp) (a : Addr) (u : HO) : Prop := H a = some u ∨ ∃ o, H a = some (.frz o u)
theorem Rd.of {H : Hp} {a : Addr} {u : HO} (h : H a = some u) : Rd H a u := .inl h
theorem Rd.ok {P : Program} {w : World} {H : Hp} {h : Heap} {a : Addr} {u : HO} (r : Rd H a u) (x : HOk P w H h) : ObjOk P w H h a u := by
  rcases r with r | ⟨o, r⟩
  · exact x a u r
  · obtain ⟨_, q⟩ := x a _ r
    exact q
def Mut : Option HO → Prop
  | some (.lst _) => True
  | some (.dK _) => True
  | some (.dT _) => True
  | some (.set _ _) => True
  | some (.ins _ _ _) => True
  | some (.ext _) => True
  | _ => False
section
variable {P : Program} {w : World} {H : Hp} {h h' : Heap} {x e : Addr} {o' : HO}
theorem HOk.write (ok : HOk P w H h) (mu : Mut (H x)) (he : e = x ∨ H e = some (.own x)) (k : ∀ b u, b ≠ e → h.get? b = some u → h'.get? b = some u) (heo : ∃ u, h'.get? e = some u)
    (new : ObjOk P w (upd H x o') h' x o') : HOk P w (upd H x o') h' := fun b u q => by
  have nown : ∀ c y, H c = some (.own y) → c ≠ x := fun c y r z => by subst z; rw [r] at mu; exact mu
  have ntup : ∀ c xs, H c = some (.tup xs) → c ≠ x := fun c xs r z => by subst z; rw [r] at mu; exact mu
  by_cases hb : b = x
  · subst hb; rw [upd_same] at q; cases q; exact new
  · rw [upd_ne hb] at q
    by_cases hbe : b = e
    · have q' : H b = some (.own x) := by
        rcases he with z | z
        · exact absurd (hbe.trans z) hb
        · rw [hbe]; exact z
      rw [q] at q'; cases q'
      obtain ⟨v, hv⟩ := heo
      exact ⟨v, by rw [hbe]; exact hv⟩
    · refine (ok b u q).stay (fun c v hc r => k c v ?_ r) (fun c r => by rw [upd_ne (nown c b r)]; exact r) fun c xs r => by rw [upd_ne (ntup c xs r)]; exact r
      rcases hc with rfl | hc
      · exact hbe
      · rintro rfl
        rcases he with z | z
        · exact nown c b hc z
        · rw [hc] at z; cases z; exact hb rfl
end
structure Un (fs ex : List Addr) (H H' : Hp) (h h' : Heap) : Prop where
  keep : ∀ b o, h.get? b = some o → H b = none → b ∉ fs → b ∉ ex → h'.get? b = some o
  slot : ∀ b o, h.get? b = some o → H b = none → b ∈ fs → b ∉ ex → ∃ sl, h'.get? b = some { o with slots := sl }
  free : ∀ b o, h.get? b = some o → H b = none → b ∉ ex → H' b = none
  there : ∀ b o, h.get? b = some o → b ∉ ex → ∃ o', h'.get? b = some o'
  tups : ∀ b xs, H b = some (.tup xs) → H' b = some (.tup xs)
  frzs : ∀ b o u, H b = some (.frz o u) → H' b = some (.frz o u)
  tbls : ∀ b ps, H b = some (.tbl ps) → ∃ more, H' b = some (.tbl (ps ++ more))
section
variable {fs fs' ex ex' : List Addr} {H H1 H2 : Hp} {h h1 h2 h' : Heap} {a x e : Addr} {o : HO}
theorem Un.any (u : Un fs ex H H1 h h1) {b : Addr} {ob : Obj} (q : h.get? b = some ob) (n : H b = none) (hx : b ∉ ex) : ∃ sl, h1.get? b = some { ob with slots := sl } := by
  by_cases hb : b ∈ fs
  · exact u.slot b ob q n hb hx
  · exact ⟨ob.slots, u.keep b ob q n hb hx⟩
theorem Un.trans (a : Un fs ex H H1 h h1) (b : Un fs ex H1 H2 h1 h2) : Un fs ex H H2 h h2 where
  keep := fun c ob q n hc hx => b.keep c ob (a.keep c ob q n hc hx) (a.free c ob q n hx) hc hx
  slot := fun c ob q n hc hx => by
    obtain ⟨sl, e1⟩ := a.slot c ob q n hc hx
    obtain ⟨sl', e2⟩ := b.slot c _ e1 (a.free c ob q n hx) hc hx
    exact ⟨sl', e2⟩
  free := fun c ob q n hx => by
    obtain ⟨o', e1⟩ := a.there c ob q hx
    exact b.free c o' e1 (a.free c ob q n hx) hx
  there := fun c ob q hx => by
    obtain ⟨o', e1⟩ := a.there c ob q hx
    exact b.there c o' e1 hx
  tups := fun c xs q => b.tups c xs (a.tups c xs q)
  frzs := fun c ob xs q => b.frzs c ob xs (a.frzs c ob xs q)
  tbls := fun c ps q => by
    obtain ⟨m1, e1⟩ := a.tbls c ps q
    obtain ⟨m2, e2⟩ := b.tbls c _ e1
    exact ⟨m1 ++ m2, by rw [e2, Array.append_assoc]⟩
theorem Un.kept (k : ∀ b u, h.get? b = some u → h'.get? b = some u) : Un fs ex H H h h' :=
  ⟨fun b ob q _ _ _ => k b ob q, fun b ob q _ _ _ => ⟨ob.slots, k b ob q⟩, fun _ _ _ n _ => n, fun b ob q _ => ⟨ob, k b ob q⟩, fun _ _ q => q, fun _ _ _ q => q, fun _ ps q => ⟨#[], by rw [q]; simp⟩⟩
theorem Un.refl : Un fs ex H H h h := Un.kept fun _ _ q => q
theorem Un.laid (k : ∀ b u, h.get? b = some u → h'.get? b = some u) (hp : h.objs.size ≤ a) (hn : H a = none) : Un fs ex H (upd H a o) h h' where
  keep := fun b u q _ _ _ => k b u q
  slot := fun b u q _ _ _ => ⟨u.slots, k b u q⟩
  free := fun b u q n _ => by rw [upd_ne (Nat.ne_of_lt (Nat.lt_of_lt_of_le (Heap.lt_size q) hp))]; exact n
  there := fun b u q _ => ⟨u, k b u q⟩
  tups := fun b xs q => by rw [upd_ne (ne_of_none q hn)]; exact q
  frzs := fun b u xs q => by rw [upd_ne (ne_of_none q hn)]; exact q
  tbls := fun b ps q => ⟨#[], by rw [upd_ne (ne_of_none q hn), q]; simp⟩
theorem Un.write (mu : Mut (H x)) (he : e = x ∨ H e = some (.own x)) (k : ∀ b u, b ≠ e → h.get? b = some u → h'.get? b = some u) (heo : ∃ u, h'.get? e = some u) : Un fs ex H (upd H x o) h h' := by
  have hx : ∀ b, H b = none → b ≠ x := fun b n z => by subst z; rw [n] at mu; exact mu
  have hb : ∀ b, H b = none → b ≠ e := fun b n z => by
    subst z
    rcases he with r | r
    · exact hx b n r
    · rw [n] at r; cases r
  have hm : ∀ b u, H b = some u → ¬ Mut (some u) → b ≠ x := fun b u q nm z => by subst z; rw [q] at mu; exact nm mu
  refine ⟨fun b u q n _ _ => k b u (hb b n) q, fun b u q n _ _ => ⟨u.slots, k b u (hb b n) q⟩, fun b u q n _ => by rw [upd_ne (hx b n)]; exact n, fun b u q _ => ?_,
    fun b xs q => by rw [upd_ne (hm b _ q fun z => z)]; exact q, fun b u xs q => by rw [upd_ne (hm b _ q fun z => z)]; exact q, fun b ps q => ⟨#[], by rw [upd_ne (hm b _ q fun z => z), q]; simp⟩⟩
  by_cases hbe : b = e
  · subst hbe; exact heo
  · exact ⟨u, k b u hbe q⟩
theorem Un.mono (u : Un fs ex H H1 h h1) (hs : ∀ b ∈ fs, b ∈ fs') (hx : ∀ b ∈ ex, b ∈ ex') : Un fs' ex' H H1 h h1 :=
  ⟨fun b ob q n hb he => u.keep b ob q n (fun z => hb (hs b z)) fun z => he (hx b z), fun _ _ q n _ he => u.any q n fun z => he (hx _ z), fun b ob q n he => u.free b ob q n fun z => he (hx b z), fun b ob q he => u.there b ob q fun z => he (hx b z), u.tups, u.frzs, u.tbls⟩
end
def trk (h : Heap) (H : Hp) : List Addr := (List.range h.objs.size).filter fun a => (H a).isSome
def hidT (h : Heap) (H : Hp) : Heap := PySem.W.hideAll h (trk h H)
theorem hidT_size (h : Heap) (H : Hp) : (hidT h H).objs.size = h.objs.size := PySem.W.hideAll_size _ _
theorem hidT_get {h : Heap} {H : Hp} {b : Addr} {o : Obj} (e : h.get? b = some o) (n : H b = none) : (hidT h H).get? b = some o :=
  PySem.W.hideAll_get _ e fun hm => by
    have q : (H b).isSome = true := (List.mem_filter.mp hm).2
    rw [n] at q; simp at q
theorem of_hidT {h : Heap} {H : Hp} {b : Addr} {o : Obj} (e : (hidT h H).get? b = some o) : h.get? b = some o ∧ H b = none := by
  have e' : h.get? b = some o := PySem.W.of_hideAll (trk h H) e
  refine ⟨e', ?_⟩
  cases q : H b with
  | none => rfl
  | some x =>
    have hm : b ∈ trk h H := List.mem_filter.mpr ⟨List.mem_range.mpr (Heap.lt_size e'), by simp [q]⟩
    have z : (hidT h H).get? b = none := PySem.W.hideAll_none (trk h H) hm
    rw [z] at e; cases e
def allNews (g h : Heap) (L : Addr) : List (Addr × Obj) := (List.range h.objs.size).filterMap fun a => if a = L ∨ (g.get? a).isSome = true then none else (h.get? a).map fun o => (a, o)
theorem mem_allNews {g h : Heap} {L a : Addr} {o : Obj} (h1 : a ≠ L) (h2 : g.get? a = none) (h3 : h.get? a = some o) : (a, o) ∈ allNews g h L :=
  List.mem_filterMap.mpr ⟨a, List.mem_range.mpr (Heap.lt_size h3), by simp [h1, h2, h3]⟩
theorem of_mem_allNews {g h : Heap} {L : Addr} {p : Addr × Obj} (hp : p ∈ allNews g h L) : p.1 ≠ L ∧ g.get? p.1 = none ∧ h.get? p.1 = some p.2 := by
  obtain ⟨b, _, e⟩ := List.mem_filterMap.mp hp
  split at e
  · cases e
  · rename_i hn
    cases q : h.get? b with
    | none => rw [q] at e; simp at e
    | some u =>
      rw [q] at e
      simp only [Option.map_some, Option.some.injEq] at e
      subst e
      refine ⟨fun z => hn (.inl z), ?_, q⟩
      show g.get? b = none
      cases r : g.get? b with
      | none => rfl
      | some v => exact (hn (.inr (by simp [r]))).elim
def rest (g h : Heap) (L d : Addr) : List (Addr × Obj) := (allNews g h L).filter fun p => decide (p.1 ≠ d)
theorem news_all {g h : Heap} {L : Addr} : News g L h (allNews g h L) := fun p hp => let ⟨a, b, c⟩ := of_mem_allNews hp; ⟨c, a, b⟩
end L2
namespace L2
open PySem PySem.Spec PyProof.Rows
structure Mod (K : PySem.W.Frag) (mg : Str → Option Value) (base : Heap) : Prop where
  kin : K.In base
  glob : base.Ns mainGlobals mg
  blt : ∃ mb, base.Ns builtinsNs mb ∧ ∀ x : Str, x ≠ "__name__" → mb x = bootBuiltins x
  nolimit : base.NoLimit
structure Cx where
  prog : Program
  w : World
  K : PySem.W.Frag
  mg : Str → Option Value
  base : Heap
  A : Around
  N : List Str
  s_0 : Shared
  H_0 : Hp
  env : Env
  outer : List Env
  stack : List Env
  ex : List Addr
  fn : Str → Bool
  calm : Bool
  pn : List (Addr × Obj)
  xe : Value → Shared → Prop
def frs (l : List Env) : List Addr := l.filterMap (·.frame)
abbrev Cx.fs (X : Cx) : List Addr := frs X.outer
def Vis (sc : Scope) (x : Str) : Prop := sc.names.lookup x = some .local ∨ sc.names.lookup x = some .cell ∨ sc.names.lookup x = some .free
def Loc (sc : Scope) (x : Str) : Prop := sc.names.lookup x = some .local ∨ sc.names.lookup x = some .cell
def Look (env : Env) (h : Heap) (m : Str → Option Value) (x : Str) (u : Value) : Prop :=
  (env.kindOf x = some .local ∧ m x = some u) ∨ ((env.kindOf x = some .cell ∨ env.kindOf x = some .free) ∧ ∃ c, env.cells.lookup x = some c ∧ h.IsCell c (some u))
structure Cx.Ok (X : Cx) : Prop where
  mod : Mod X.K X.mg X.base
  kind : X.env.scope.kind = .function
  glob : X.env.globals = mainGlobals
  blt : X.env.builtins = builtinsNs
  above : X.s_0.heap.objs.size ≤ X.env.locals
  inj : ∀ x y c, X.env.cells.lookup x = some c → X.env.cells.lookup y = some c → x = y
  has : ∀ x, (X.env.kindOf x = some .cell ∨ X.env.kindOf x = some .free) → ∃ c, X.env.cells.lookup x = some c
  cab : ∀ x c, X.fn x = true → X.env.cells.lookup x = some c → X.s_0.heap.objs.size ≤ c
  hd : X.calm = true → X.A.handled = none
  frames : X.A.frames = some X.stack
  stk : X.stack = X.outer ∨ (X.stack = X.env :: X.outer ∧ X.env.frame = some X.env.locals)
  exf : ∀ b ∈ X.ex, b ≠ X.env.locals ∧ ∀ x c, X.env.cells.lookup x = some c → c ≠ b
  bs : ∀ b o, X.base.get? b = some o → X.s_0.heap.get? b = some o ∧ X.H_0 b = none
  bsz : X.base.objs.size ≤ X.s_0.heap.objs.size
  noex : ∀ b o, X.base.get? b = some o → b ∉ X.ex
  exfs : ∀ b ∈ X.ex, b ∉ X.fs
  funs : X.s_0.heap.FunFrames X.base X.outer
  frf : ∀ b ∈ X.fs, X.H_0 b = none
structure Inv (X : Cx) (pins : List (Addr × Obj)) (σ : List (Option V)) (H : Hp) (s : Shared) : Prop where
  ok : X.Ok
  os : s.os = X.s_0.os
  bare : AllBare s.gens
  base : Un X.fs X.ex X.H_0 H X.s_0.heap s.heap
  loc : ∃ m, s.heap.Ns X.env.locals m ∧ ∀ (i : Nat) (x : Str) (v : V), X.N[i]? = some x → σ[i]? = some (some v) → Vis X.env.scope x → ∃ u, RelV v u ∧ Look X.env s.heap m x u
  cell : ∀ x c, X.env.cells.lookup x = some c → ∃ v, s.heap.IsCell c v
  free : H X.env.locals = none
  freeC : ∀ x c, X.env.cells.lookup x = some c → H c = none
  pin : ∀ p ∈ X.pn ++ pins, s.heap.get? p.1 = some p.2 ∧ H p.1 = none ∧ p.1 ≠ X.env.locals ∧ p.1 ∉ X.fs ∧ ∀ v, p.2.data ≠ .cell v
  hok : HOk X.prog X.w H s.heap
  len : σ.length = X.N.length
section
variable {X : Cx} {pins : List (Addr × Obj)} {σ : List (Option V)} {H H' : Hp} {s : Shared} {h' : Heap}
theorem Cx.Ok.nofr (ok : X.Ok) {b : Addr} {o : Obj} (e : X.base.get? b = some o) : b ∉ X.fs := fun hb => by
  have := (ok.funs.mem hb).1
  rw [e] at this; cases this
theorem Inv.bs (I : Inv X pins σ H s) : ∀ b o, X.base.get? b = some o → s.heap.get? b = some o ∧ H b = none := fun b o e =>
  ⟨I.base.keep b o (I.ok.bs b o e).1 (I.ok.bs b o e).2 (I.ok.nofr e) (I.ok.noex b o e), I.base.free b o (I.ok.bs b o e).1 (I.ok.bs b o e).2 (I.ok.noex b o e)⟩
theorem Inv.bk (I : Inv X pins σ H s) : ∀ b o, X.base.get? b = some o → s.heap.get? b = some o := fun b o e => (I.bs b o e).1
theorem Inv.mod (I : Inv X pins σ H s) : Mod X.K X.mg X.base := I.ok.mod
theorem Inv.kIn (I : Inv X pins σ H s) : X.K.In s.heap := I.ok.mod.kin.keeps I.bk
theorem Inv.nolimit (I : Inv X pins σ H s) : s.heap.NoLimit := I.ok.mod.nolimit.keeps I.bk
theorem Inv.fr (I : Inv X pins σ H s) : ∃ m, Fr X.base X.env.locals s.heap m :=
  let ⟨m, hn, _⟩ := I.loc
  ⟨m, hn, I.bk, Nat.le_trans I.ok.bsz I.ok.above⟩
theorem Inv.lt (I : Inv X pins σ H s) : X.env.locals < s.heap.objs.size := let ⟨_, hn, _⟩ := I.loc; hn.lt
theorem Inv.sz (I : Inv X pins σ H s) : X.s_0.heap.objs.size ≤ s.heap.objs.size := Nat.le_trans I.ok.above (Nat.le_of_lt I.lt)
theorem Inv.nofs (I : Inv X pins σ H s) {a : Addr} (h : s.heap.objs.size ≤ a) : a ∉ X.fs := fun hb => by
  obtain ⟨_, o, ho, _⟩ := I.ok.funs.mem hb
  exact absurd (Nat.lt_of_lt_of_le (Heap.lt_size ho) (Nat.le_trans I.sz h)) (Nat.lt_irrefl _)
theorem Inv.cne (I : Inv X pins σ H s) : ∀ x c, X.env.cells.lookup x = some c → c ≠ X.env.locals := fun x c e z => by
  obtain ⟨v, o, ho, hd⟩ := I.cell x c e
  obtain ⟨m, ⟨o', es, ep, ho', hd', _⟩, _⟩ := I.loc
  rw [z, ho'] at ho; cases ho; rw [hd'] at hd; cases hd
theorem Inv.funs (I : Inv X pins σ H s) : s.heap.FunFrames X.base X.outer := by
  have all : ∀ (l : List Env), (∀ b ∈ frs l, b ∈ X.fs) → X.s_0.heap.FunFrames X.base l → s.heap.FunFrames X.base l := by
    intro l
    induction l with
    | nil => intro _ _; trivial
    | cons env r ih =>
      intro hs hl
      obtain ⟨hk, ⟨L, o, hf, hn, ho, hd⟩, hr⟩ := hl
      have hL : L ∈ X.fs := hs L (by unfold frs; rw [List.filterMap_cons, hf]; exact List.mem_cons_self)
      obtain ⟨sl, e⟩ := I.base.slot L o ho (I.ok.frf L hL) hL fun z => I.ok.exfs L z hL
      exact ⟨hk, ⟨L, _, hf, hn, e, hd⟩, ih (fun b hb => hs b (by unfold frs; rw [List.filterMap_cons, hf]; exact List.mem_cons_of_mem _ hb)) hr⟩
  exact all X.outer (fun _ hb => hb) I.ok.funs
theorem Inv.stack (I : Inv X pins σ H s) : s.heap.FunFrames X.base X.stack := by
  rcases I.ok.stk with e | ⟨e, hf⟩
  · rw [e]; exact I.funs
  · rw [e]
    obtain ⟨m, hn, _⟩ := I.loc
    refine .cons (by rw [I.ok.kind]; decide) hf hn ?_ I.funs
    exact Heap.get?_none_of_le (Nat.le_trans I.ok.bsz I.ok.above)
theorem Inv.stkSub (I : Inv X pins σ H s) : ∀ b ∈ frs X.stack, b ∈ X.env.locals :: X.fs := fun b hb => by
  rcases I.ok.stk with e | ⟨e, hf⟩
  · rw [e] at hb; exact List.mem_cons_of_mem _ hb
  · rw [e] at hb
    unfold frs at hb
    rw [List.filterMap_cons, hf] at hb
    exact hb
theorem Inv.stkFree (I : Inv X pins σ H s) : ∀ b ∈ frs X.stack, H b = none := fun b hb => by
  rcases List.mem_cons.mp (I.stkSub b hb) with e | hb
  · rw [e]; exact I.free
  · obtain ⟨_, o, ho, _⟩ := I.ok.funs.mem hb
    exact I.base.free b o ho (I.ok.frf b hb) fun z => I.ok.exfs b z hb
theorem Inv.step {g' : Array GenState} {t' : Nat} {d' : Drawn} {ch : List Addr} (I : Inv X pins σ H s)
    (hch : ∀ b ∈ ch, (b ∈ X.ex ∨ X.s_0.heap.objs.size ≤ b) ∧ b ≠ X.env.locals ∧ (∀ x c, X.env.cells.lookup x = some c → c ≠ b) ∧ ∀ p ∈ X.pn ++ pins, p.1 ≠ b)
    (keep : ∀ b o, b ≠ X.env.locals → b ∉ X.fs → b ∉ ch → s.heap.get? b = some o → H b = none → h'.get? b = some o)
    (slot : ∀ b o, b ≠ X.env.locals → b ∈ X.fs → b ∉ ch → s.heap.get? b = some o → H b = none → ∃ sl, h'.get? b = some { o with slots := sl }) (free : ∀ b o, b ∉ ch → s.heap.get? b = some o → H b = none → H' b = none)
    (there : ∀ b o, b ∉ ch → s.heap.get? b = some o → ∃ o', h'.get? b = some o')
    (tups : ∀ b xs, H b = some (.tup xs) → H' b = some (.tup xs)) (frzs : ∀ b o u, H b = some (.frz o u) → H' b = some (.frz o u)) (tbls : ∀ b ps, H b = some (.tbl ps) → ∃ more, H' b = some (.tbl (ps ++ more)))
    (ns : ∀ m, s.heap.Ns X.env.locals m → h'.Ns X.env.locals m) (hok : HOk X.prog X.w H' h') (hg : AllBare g') :
    Inv X pins σ H' { s with heap := h', gens := g', drawn := d', toks := t' } := by
  have neL : ∀ b o, X.s_0.heap.get? b = some o → b ≠ X.env.locals := fun b o e => Nat.ne_of_lt (Nat.lt_of_lt_of_le (Heap.lt_size e) I.ok.above)
  have neC : ∀ b o, X.s_0.heap.get? b = some o → b ∉ X.ex → b ∉ ch := fun b o e hx hb => by
    rcases (hch b hb).1 with z | z
    · exact hx z
    · exact absurd (Nat.lt_of_lt_of_le (Heap.lt_size e) z) (Nat.lt_irrefl _)
  have cellK : ∀ x c, X.env.cells.lookup x = some c → ∀ v, s.heap.IsCell c v → h'.IsCell c v := fun x c e v ⟨o, ho, hd⟩ => by
    have nch : c ∉ ch := fun z => (hch c z).2.2.1 x c e rfl
    by_cases hc : c ∈ X.fs
    · obtain ⟨sl, q⟩ := slot c o (I.cne x c e) hc nch ho (I.freeC x c e)
      exact ⟨_, q, hd⟩
    · exact ⟨o, keep c o (I.cne x c e) hc nch ho (I.freeC x c e), hd⟩
  refine ⟨I.ok, I.os, hg, ⟨fun b o e n hb hx => ?_, fun b o e n hb hx => ?_, fun b o e n hx => ?_, fun b o e hx => ?_, fun b xs e => tups b xs (I.base.tups b xs e), fun b o xs e => frzs b o xs (I.base.frzs b o xs e), fun b ps e => ?_⟩, ?_, fun x c e => ?_, ?_, fun x c e => ?_, fun p hp => ?_, hok, I.len⟩
  · exact keep b o (neL b o e) hb (neC b o e hx) (I.base.keep b o e n hb hx) (I.base.free b o e n hx)
  · obtain ⟨sl, e1⟩ := I.base.slot b o e n hb hx
    obtain ⟨sl', e2⟩ := slot b _ (neL b o e) hb (neC b o e hx) e1 (I.base.free b o e n hx)
    exact ⟨sl', e2⟩
  · obtain ⟨o', e1⟩ := I.base.there b o e hx
    exact free b o' (neC b o e hx) e1 (I.base.free b o e n hx)
  · obtain ⟨o', e1⟩ := I.base.there b o e hx
    exact there b o' (neC b o e hx) e1
  · obtain ⟨m1, e1⟩ := I.base.tbls b ps e
    obtain ⟨m2, e2⟩ := tbls b _ e1
    exact ⟨m1 ++ m2, by rw [e2, Array.append_assoc]⟩
  · obtain ⟨m, hn, hl⟩ := I.loc
    refine ⟨m, ns m hn, fun i x v e1 e2 e3 => ?_⟩
    obtain ⟨u, r, l⟩ := hl i x v e1 e2 e3
    refine ⟨u, r, ?_⟩
    rcases l with l | ⟨k, c, e, z⟩
    · exact .inl l
    · exact .inr ⟨k, c, e, cellK x c e _ z⟩
  · obtain ⟨v, z⟩ := I.cell x c e
    exact ⟨v, cellK x c e v z⟩
  · obtain ⟨m, ⟨o, _, _, ho, _⟩, _⟩ := I.loc
    exact free _ o (fun z => (hch _ z).2.1 rfl) ho I.free
  · obtain ⟨v, o, ho, hd⟩ := I.cell x c e
    exact free c o (fun z => (hch c z).2.2.1 x c e rfl) ho (I.freeC x c e)
  · obtain ⟨e, n, ne, nf, d⟩ := I.pin p hp
    have nch : p.1 ∉ ch := fun z => (hch p.1 z).2.2.2 p hp rfl
    exact ⟨keep p.1 p.2 ne nf nch e n, free p.1 p.2 nch e n, ne, nf, d⟩
theorem Inv.un {t' : Nat} (I : Inv X pins σ H s) (u : Un X.fs [] H H' s.heap h') (hok : HOk X.prog X.w H' h') : Inv X pins σ H' { s with heap := h', toks := t' } := by
  obtain ⟨m, ⟨o, es, ep, ho, r⟩, _⟩ := id I.loc
  obtain ⟨sl, hL⟩ := u.any ho I.free (by simp)
  exact I.step (g' := s.gens) (d' := s.drawn) (ch := []) (fun _ z => nomatch z) (fun b o _ hb _ e n => u.keep b o e n hb (by simp)) (fun b o _ hb _ e n => u.slot b o e n hb (by simp)) (fun b o _ e n => u.free b o e n (by simp)) (fun b o _ e => u.there b o e (by simp)) u.tups u.frzs u.tbls (fun m' hm => by
    obtain ⟨o', es', ep', ho', r'⟩ := hm
    rw [ho] at ho'; cases ho'
    exact ⟨_, es', ep', hL, r'⟩) hok I.bare
theorem Inv.call {g' : Array GenState} {t' : Nat} {d' : Drawn} {ch : List Addr} (I : Inv X pins σ H s) (u : Un (frs X.stack) ch H H' s.heap h') (hok : HOk X.prog X.w H' h') (hg : AllBare g')
    (hch : ∀ b ∈ ch, (b ∈ X.ex ∨ X.s_0.heap.objs.size ≤ b) ∧ b ≠ X.env.locals ∧ (∀ x c, X.env.cells.lookup x = some c → c ≠ b) ∧ ∀ p ∈ X.pn ++ pins, p.1 ≠ b) :
    Inv X pins σ H' { s with heap := h', gens := g', drawn := d', toks := t' } := by
  obtain ⟨m, ⟨o, es, ep, ho, r⟩, _⟩ := id I.loc
  obtain ⟨sl, hL⟩ := u.any ho I.free fun z => (hch _ z).2.1 rfl
  exact I.step (ch := ch) hch (fun b o hL hb hc e n => u.keep b o e n (fun z => (List.mem_cons.mp (I.stkSub b z)).elim hL hb) hc) (fun b o _ _ hc e n => u.any e n hc) (fun b o hc e n => u.free b o e n hc) (fun b o hc e => u.there b o e hc) u.tups u.frzs u.tbls (fun m' hm => by
    obtain ⟨o', es', ep', ho', r'⟩ := hm
    rw [ho] at ho'; cases ho'
    exact ⟨_, es', ep', hL, r'⟩) hok hg
theorem Inv.turned {t' : Nat} {it : Addr} (I : Inv X pins σ H s) (k : ∀ b o, b ≠ it → s.heap.get? b = some o → h'.get? b = some o) (hn : H it = none) (hL : it ≠ X.env.locals)
    (h1 : it ∈ X.ex ∨ X.s_0.heap.objs.size ≤ it) (h2 : ∀ x c, X.env.cells.lookup x = some c → c ≠ it) (h3 : ∀ p ∈ X.pn ++ pins, p.1 ≠ it) : Inv X pins σ H { s with heap := h', toks := t' } := by
  have nit : ∀ b u, H b = some u → b ≠ it := fun b u e z => by rw [z, hn] at e; cases e
  refine I.step (g' := s.gens) (d' := s.drawn) (ch := [it]) (fun b hb => ?_) (fun b o _ _ hc e _ => k b o (fun z => hc (by simp [z])) e) (fun b o _ _ hc e _ => ⟨o.slots, k b o (fun z => hc (by simp [z])) e⟩) (fun _ _ _ _ n => n)
    (fun b o hc e => ⟨o, k b o (fun z => hc (by simp [z])) e⟩) (fun _ _ e => e) (fun _ _ _ e => e) (fun b ps e => ⟨#[], by rw [e]; simp⟩) (fun m hm => ?_) (fun b u e => ?_) I.bare
  · have e : b = it := by simpa using hb
    subst e
    exact ⟨h1, hL, h2, h3⟩
  · obtain ⟨o, es, ep, ho, r⟩ := hm
    exact ⟨o, es, ep, k _ o (Ne.symm hL) ho, r⟩
  · refine (I.hok b u e).stay (fun c v hc q => k c v ?_ q) (fun _ q => q) fun _ _ q => q
    rcases hc with z | z
    · rw [z]; exact nit b u e
    · exact nit c _ z
theorem Inv.tok (I : Inv X pins σ H s) (t : Nat) : Inv X pins σ H { s with toks := t } := I.un (h' := s.heap) (t' := t) Un.refl I.hok
theorem Inv.kept {t' : Nat} (I : Inv X pins σ H s) (k : ∀ b u, s.heap.get? b = some u → h'.get? b = some u) : Inv X pins σ H { s with heap := h', toks := t' } := I.un (Un.kept k) (I.hok.kept k)
theorem Inv.laid {a : Addr} {o : HO} {t' : Nat} (I : Inv X pins σ H s) (k : ∀ b u, s.heap.get? b = some u → h'.get? b = some u) (hp : s.heap.objs.size ≤ a) (new : ObjOk X.prog X.w (upd H a o) h' a o) :
    Inv X pins σ (upd H a o) { s with heap := h', toks := t' } := I.un (Un.laid k hp (I.hok.fresh hp)) (I.hok.laid k hp new)
theorem Inv.write {x e : Addr} {o : HO} {t' : Nat} (I : Inv X pins σ H s) (mu : Mut (H x)) (he : e = x ∨ H e = some (.own x)) (k : ∀ b u, b ≠ e → s.heap.get? b = some u → h'.get? b = some u) (heo : ∃ u, h'.get? e = some u)
    (new : ObjOk X.prog X.w (upd H x o) h' x o) : Inv X pins σ (upd H x o) { s with heap := h', toks := t' } := I.un (Un.write mu he k heo) (I.hok.write mu he k heo new)
theorem Inv.weak {σ' : List (Option V)} (I : Inv X pins σ H s) (hl : σ'.length = σ.length) (w : ∀ (i : Nat) v, σ'[i]? = some (some v) → σ[i]? = some (some v)) : Inv X pins σ' H s :=
  ⟨I.ok, I.os, I.bare, I.base, let ⟨m, hn, hl'⟩ := I.loc; ⟨m, hn, fun i x v e1 e2 e3 => hl' i x v e1 (w i v e2) e3⟩, I.cell, I.free, I.freeC, I.pin, I.hok, hl.trans I.len⟩
theorem Inv.pins_of {pins' : List (Addr × Obj)} (I : Inv X pins σ H s) (h : ∀ p ∈ pins', s.heap.get? p.1 = some p.2 ∧ H p.1 = none ∧ p.1 ≠ X.env.locals ∧ p.1 ∉ X.fs ∧ ∀ v, p.2.data ≠ .cell v) : Inv X pins' σ H s :=
  ⟨I.ok, I.os, I.bare, I.base, I.loc, I.cell, I.free, I.freeC, fun p hp => (List.mem_append.mp hp).elim (fun z => I.pin p (List.mem_append_left _ z)) (h p), I.hok, I.len⟩
theorem nodup_ix {N : List Str} (hN : N.Nodup) {i j : Nat} {x : Str} (a : N[i]? = some x) (b : N[j]? = some x) : i = j := by
  obtain ⟨h1, e1⟩ := List.getElem?_eq_some_iff.mp a
  obtain ⟨h2, e2⟩ := List.getElem?_eq_some_iff.mp b
  exact (List.getElem_inj hN).mp (e1.trans e2.symm)
theorem store_ok2 {M : Model} {A : Around} {E : Value → Shared → Prop} {i : Nat} {x : Str} {v : V} {u : Value} {Q : Unit → Shared → Prop} (I : Inv X pins σ H s) (hN : X.N.Nodup) (hi : X.N[i]? = some x) (hx : Loc X.env.scope x) (r : RelV v u)
    (h : ∀ s', Inv X pins (σ.set i (some v)) H s' → (∃ a, Heap.SameBut a s.heap s'.heap ∧ (a = X.env.locals ∨ X.env.cells.lookup x = some a)) → Q () s') (hf : X.fn x = true ∨ X.env.scope.names.lookup x = some .local := by first | exact .inl rfl | exact .inr rfl | assumption) : wpAny M A (storeName X.env x u) Q E s := by
  obtain ⟨m, hn, hl⟩ := id I.loc
  have hcls : (X.env.scope.kind == .class || (X.env.scope.kind == .module && X.env.locals != X.env.globals)) = false := by rw [I.ok.kind]; rfl
  have hiσ : i < σ.length := by rw [I.len]; exact (List.getElem?_eq_some_iff.mp hi).1
  have cne := I.cne
  have tracked : ∀ {a : Addr} {h' : Heap}, (∃ o, s.heap.get? a = some o ∧ H a = none) → Heap.SameBut a s.heap h' → HOk X.prog X.w H h' := fun {a h'} ha hs b ob e => by
    obtain ⟨_, _, hfree⟩ := ha
    refine (I.hok b ob e).stay (fun c w' hc q => (hs.2 c ?_).trans q) (fun _ q => q) fun _ _ q => q
    rintro rfl
    rcases hc with rfl | hc
    · rw [hfree] at e; cases e
    · rw [hfree] at hc; cases hc
  rcases hx with hk | hk
  · refine wpAny_storeName_local hk hn (fun h' hn' hs => ?_) hcls
    obtain ⟨oL, _, _, hoL, _⟩ := id hn
    refine h _ ⟨I.ok, I.os, I.bare, ⟨fun b o e n hb hx => ?_, fun b o e n hb hx => ?_, I.base.free, fun b o e hx => ?_, I.base.tups, I.base.frzs, I.base.tbls⟩, ⟨_, hn', fun j y v' e1 e2 e3 => ?_⟩, fun y c e => ?_, I.free, I.freeC, fun p hp => ?_, tracked ⟨oL, hoL, I.free⟩ hs, by simpa using I.len⟩ ⟨_, hs, .inl rfl⟩
    · exact (hs.2 b (Nat.ne_of_lt (Nat.lt_of_lt_of_le (Heap.lt_size e) I.ok.above))).trans (I.base.keep b o e n hb hx)
    · obtain ⟨sl, e1⟩ := I.base.slot b o e n hb hx
      exact ⟨sl, (hs.2 b (Nat.ne_of_lt (Nat.lt_of_lt_of_le (Heap.lt_size e) I.ok.above))).trans e1⟩
    · obtain ⟨o', e1⟩ := I.base.there b o e hx
      exact ⟨o', (hs.2 b (Nat.ne_of_lt (Nat.lt_of_lt_of_le (Heap.lt_size e) I.ok.above))).trans e1⟩
    · by_cases hj : j = i
      · subst hj
        rw [hi] at e1; cases e1
        rw [List.getElem?_set_self hiσ] at e2
        cases e2
        exact ⟨u, r, .inl ⟨hk, by simp⟩⟩
      · rw [List.getElem?_set_ne (Ne.symm hj)] at e2
        obtain ⟨u', r', q⟩ := hl j y v' e1 e2 e3
        refine ⟨u', r', ?_⟩
        rcases q with ⟨k, e⟩ | ⟨k, c, e, z⟩
        · refine .inl ⟨k, ?_⟩
          have : y ≠ x := fun e => hj (nodup_ix hN e1 (e ▸ hi))
          simp [this, e]
        · exact .inr ⟨k, c, e, z.sameBut hs (cne y c e)⟩
    · obtain ⟨w', z⟩ := I.cell y c e
      exact ⟨w', z.sameBut hs (cne y c e)⟩
    · obtain ⟨e, n, ne, nf, d⟩ := I.pin p hp
      exact ⟨(hs.2 p.1 ne).trans e, n, ne, nf, d⟩
  · have hfn : X.fn x = true := by
      rcases hf with z | z
      · exact z
      · rw [z] at hk; cases hk
    obtain ⟨c, hc⟩ := I.ok.has x (.inl hk)
    obtain ⟨w', z⟩ := I.cell x c hc
    refine wpAny_storeName_cell I.ok.kind hk hc z (fun h' hc' hs => ?_)
    obtain ⟨oc, hoc, hocd⟩ := id z
    refine h { s with heap := h' } ⟨I.ok, I.os, I.bare, ⟨fun b o e n hb hx => ?_, fun b o e n hb hx => ?_, I.base.free, fun b o e hx => ?_, I.base.tups, I.base.frzs, I.base.tbls⟩, ⟨m, hn.sameBut hs (Ne.symm (cne x c hc)), fun j y v' e1 e2 e3 => ?_⟩, fun y c' e => ?_, I.free, I.freeC, fun p hp => ?_, tracked ⟨oc, hoc, I.freeC x c hc⟩ hs, by simpa using I.len⟩ ⟨c, hs, .inr hc⟩
    · exact (hs.2 b (Nat.ne_of_lt (Nat.lt_of_lt_of_le (Heap.lt_size e) (I.ok.cab x c hfn hc)))).trans (I.base.keep b o e n hb hx)
    · obtain ⟨sl, e1⟩ := I.base.slot b o e n hb hx
      exact ⟨sl, (hs.2 b (Nat.ne_of_lt (Nat.lt_of_lt_of_le (Heap.lt_size e) (I.ok.cab x c hfn hc)))).trans e1⟩
    · obtain ⟨o', e1⟩ := I.base.there b o e hx
      exact ⟨o', (hs.2 b (Nat.ne_of_lt (Nat.lt_of_lt_of_le (Heap.lt_size e) (I.ok.cab x c hfn hc)))).trans e1⟩
    · by_cases hj : j = i
      · subst hj
        rw [hi] at e1; cases e1
        rw [List.getElem?_set_self hiσ] at e2
        cases e2
        exact ⟨u, r, .inr ⟨.inl hk, c, hc, hc'⟩⟩
      · rw [List.getElem?_set_ne (Ne.symm hj)] at e2
        obtain ⟨u', r', q⟩ := hl j y v' e1 e2 e3
        refine ⟨u', r', ?_⟩
        rcases q with q | ⟨k, c', e, z'⟩
        · exact .inl q
        · refine .inr ⟨k, c', e, z'.sameBut hs ?_⟩
          rintro rfl
          exact hj (nodup_ix hN e1 (I.ok.inj _ _ _ e hc ▸ hi))
    · by_cases hcc : c' = c
      · subst hcc; exact ⟨_, hc'⟩
      · obtain ⟨w2, z2⟩ := I.cell y c' e
        exact ⟨w2, z2.sameBut hs hcc⟩
    · obtain ⟨e, n, ne, nf, d⟩ := I.pin p hp
      refine ⟨(hs.2 p.1 ?_).trans e, n, ne, nf, d⟩
      intro q
      rw [q, hoc] at e
      have q' : oc = p.2 := Option.some.inj e
      exact d w' (by rw [← q']; exact hocd)
theorem store_ok {M : Model} {A : Around} {E : Value → Shared → Prop} {i : Nat} {x : Str} {v : V} {u : Value} {Q : Unit → Shared → Prop} (I : Inv X pins σ H s) (hN : X.N.Nodup) (hi : X.N[i]? = some x) (hx : Loc X.env.scope x) (r : RelV v u)
    (h : ∀ s', Inv X pins (σ.set i (some v)) H s' → Q () s') (hf : X.fn x = true ∨ X.env.scope.names.lookup x = some .local := by first | exact .inl rfl | exact .inr rfl | assumption) : wpAny M A (storeName X.env x u) Q E s :=
  store_ok2 I hN hi hx r (fun s' I' _ => h s' I') hf
theorem Inv.call' {s' : Shared} {ch : List Addr} (I : Inv X pins σ H s) (ho : s'.os = s.os) (u : Un (frs X.stack) ch H H' s.heap s'.heap) (hok : HOk X.prog X.w H' s'.heap) (hg : AllBare s'.gens)
    (hch : ∀ b ∈ ch, (b ∈ X.ex ∨ X.s_0.heap.objs.size ≤ b) ∧ b ≠ X.env.locals ∧ (∀ x c, X.env.cells.lookup x = some c → c ≠ b) ∧ ∀ p ∈ X.pn ++ pins, p.1 ≠ b) : Inv X pins σ H' s' := by
  obtain ⟨h', g', d', t', o'⟩ := s'
  have e : o' = s.os := ho
  subst e
  exact I.call (g' := g') (t' := t') (d' := d') u hok hg hch
end
abbrev XK := Value → Option Addr → Hp → Prop
abbrev St := List (Option V)
abbrev VK := V → Hp → Prop
abbrev TE := St → Hp → VK → Prop
abbrev TT := St → Hp → (Bool → Hp → Prop) → Prop
abbrev TA := St → Hp → (List V → Hp → Prop) → Prop
structure Ends where
  nx : St → Hp → Prop
  rt : VK
  bk : St → Hp → Prop := fun _ _ => False
  ct : St → Hp → Prop := fun _ _ => False
abbrev TS := Ends → St → Hp → Prop
def EP (X : Cx) (pins : List (Addr × Obj)) (σ : St) (Q : VK) (u : Value) (s' : Shared) : Prop := ∃ v H', Inv X pins σ H' s' ∧ RelV v u ∧ Q v H'
def TP (X : Cx) (pins : List (Addr × Obj)) (σ : St) (Q : Bool → Hp → Prop) (b : Bool) (s' : Shared) : Prop := ∃ H', Inv X pins σ H' s' ∧ Q b H'
def AP (X : Cx) (pins : List (Addr × Obj)) (σ : St) (Q : List V → Hp → Prop) (us : List Value) (s' : Shared) : Prop := ∃ vs H', Inv X pins σ H' s' ∧ Vals vs us ∧ Q vs H'
def SP (X : Cx) (pins : List (Addr × Obj)) (D : Ends) (f : Flow) (s' : Shared) : Prop :=
  match f with
  | .next => ∃ σ' H', Inv X pins σ' H' s' ∧ D.nx σ' H'
  | .brk => ∃ σ' H', Inv X pins σ' H' s' ∧ D.bk σ' H'
  | .cont => ∃ σ' H', Inv X pins σ' H' s' ∧ D.ct σ' H'
  | .ret u => ∃ v σ' H', Inv X pins σ' H' s' ∧ RelV v u ∧ D.rt v H'
def PE (X : Cx) (e : Expr) (t : TE) : Prop :=
  ∀ (pins : List (Addr × Obj)) (s : Shared) (σ : St) (H : Hp) (Q : VK), Inv X pins σ H s → t σ H Q → wpAny (model X.prog X.w) X.A (eval e X.env) (EP X pins σ Q) X.xe s
def PT (X : Cx) (e : Expr) (t : TT) : Prop :=
  ∀ (pins : List (Addr × Obj)) (s : Shared) (σ : St) (H : Hp) (Q : Bool → Hp → Prop), Inv X pins σ H s → t σ H Q → wpAny (model X.prog X.w) X.A (isTrue e X.env (eval e X.env)) (TP X pins σ Q) X.xe s
def PW (X : Cx) (e : Expr) (t : TT) : Prop :=
  ∀ (whole : Sem Value) (pins : List (Addr × Obj)) (s : Shared) (σ : St) (H : Hp) (Q : Bool → Hp → Prop), Inv X pins σ H s → t σ H Q → wpAny (model X.prog X.w) X.A (isTrue e X.env whole) (TP X pins σ Q) X.xe s
theorem PW.pt {X : Cx} {e : Expr} {t : TT} (h : PW X e t) : PT X e t := h _
def PA (X : Cx) (es : List Expr) (t : TA) : Prop :=
  ∀ (pos : Pos) (pins : List (Addr × Obj)) (s : Shared) (σ : St) (H : Hp) (Q : List V → Hp → Prop), Inv X pins σ H s → t σ H Q → wpAny (model X.prog X.w) X.A (spliced (backTo pos (starEach es X.env))) (AP X pins σ Q) X.xe s
def PS (X : Cx) (st : Stmt) (t : TS) : Prop :=
  ∀ (pins : List (Addr × Obj)) (s : Shared) (σ : St) (H : Hp) (D : Ends), Inv X pins σ H s → t D σ H → wpAny (model X.prog X.w) X.A (exec st X.env) (SP X pins D) X.xe s
def PSs (X : Cx) (st : List Stmt) (t : TS) : Prop :=
  ∀ (pins : List (Addr × Obj)) (s : Shared) (σ : St) (H : Hp) (D : Ends), Inv X pins σ H s → t D σ H → wpAny (model X.prog X.w) X.A (execs st X.env) (SP X pins D) X.xe s
theorem thn {α : Type} {t : Sem α} {Q Q' : α → Shared → Prop} {M : Model} {A : Around} {E : Value → Shared → Prop} {s : Shared} (h : wpAny M A t Q E s) (hQ : ∀ a s, Q a s → Q' a s) : wpAny M A t Q' E s := wpAny_mono h hQ fun _ _ x => x
end L2
namespace L2
open PySem PySem.Spec PyProof.Rows
section
variable {X : Cx}
def tVar (i : Nat) : TE := fun σ H Q => ∃ v, σ[i]? = some (some v) ∧ Q v H
def tC (v : V) : TE := fun _ H Q => Q v H
theorem pe_var {i : Nat} {x : Str} {pos : Pos} (hN : X.N[i]? = some x) (hv : Vis X.env.scope x) (hd : (x == ("__debug__" : Str)) = false := by decide) (hcd : (x == ("__classdict__" : Str)) = false := by decide) : PE X (.Name x pos) (tVar i) := by
  intro pins s σ H Q I h
  obtain ⟨v, e, h⟩ := h
  obtain ⟨m, hn, hl⟩ := I.loc
  obtain ⟨u, r, l⟩ := hl i x v hN e hv
  have fin : EP X pins σ Q u s := ⟨v, H, I, r, h⟩
  rcases l with ⟨hk, hm⟩ | ⟨hk, c, hc, hcell⟩
  · exact wpAny_Name (wpAny_loadName_local I.ok.kind hk hn hm fin) hd
  · rcases hk with hk | hk
    · exact wpAny_Name (wpAny_loadName_cell I.ok.kind hk hc hcell fin) hd
    · exact wpAny_Name (wpAny_loadName_free I.ok.kind hk hc hcell fin hcd) hd
theorem pe_int {i j pos} : PE X (.Constant (.int i) j pos) (tC (.int i)) := fun _ _ _ H _ I h => wpAny_Constant_int ⟨.int i, H, I.tok _, ⟨_, rfl⟩, h⟩
theorem pe_bl {b j pos} : PE X (.Constant (.bool b) j pos) (tC (.bl b)) := fun _ _ _ H _ I h => Constant_bool ⟨.bl b, H, I, rfl, h⟩
theorem pe_non {j pos} : PE X (.Constant .none j pos) (tC .non) := fun _ _ _ H _ I h => Constant_none ⟨.non, H, I, rfl, h⟩
def Gl (X : Cx) (x : Str) : Prop := X.env.kindOf x = some .globalImplicit
theorem ld_glob {E : Value → Shared → Prop} {pins : List (Addr × Obj)} {s : Shared} {σ : St} {H : Hp} {x : Str} {u : Value} {pos : Pos} {Q : Value → Shared → Prop} (I : Inv X pins σ H s) (hg : Gl X x) (hm : X.mg x = some u) (h : Q u s)
    (hd : (x == ("__debug__" : Str)) = false := by decide) : wpAny (model X.prog X.w) X.A (eval (.Name x pos) X.env) Q E s :=
  Calls.Name_function_global I.ok.kind hg (Calls.loadGlobal_global (by rw [I.ok.glob]; exact I.mod.glob.keeps I.bk) hm h) hd
theorem ld_blt {E : Value → Shared → Prop} {pins : List (Addr × Obj)} {s : Shared} {σ : St} {H : Hp} {x : Str} {u : Value} {pos : Pos} {Q : Value → Shared → Prop} (I : Inv X pins σ H s) (hg : Gl X x) (hm : X.mg x = none) (hv : bootBuiltins x = some u) (h : Q u s)
    (hn : x ≠ "__name__" := by decide) (hd : (x == ("__debug__" : Str)) = false := by decide) : wpAny (model X.prog X.w) X.A (eval (.Name x pos) X.env) Q E s := by
  obtain ⟨mb, h1, h2⟩ := I.mod.blt
  exact Calls.Name_function_global I.ok.kind hg (Calls.loadGlobal_builtin (by rw [I.ok.glob]; exact I.mod.glob.keeps I.bk) hm (by rw [I.ok.blt]; exact h1.keeps I.bk) ((h2 x hn).trans hv) h) hd
theorem pe_glob {x : Str} {v : V} {u : Value} {pos : Pos} (hg : Gl X x) (hm : X.mg x = some u) (r : RelV v u) (hd : (x == ("__debug__" : Str)) = false := by decide) : PE X (.Name x pos) (tC v) :=
  fun _ _ _ H _ I h => ld_glob I hg hm ⟨v, H, I, r, h⟩ hd
variable {a b : Expr} {ta tb : TE} {pos : Pos}
def PC (X : Cx) (op : CmpOp) (a b : Expr) (t : TE) : Prop :=
  ∀ (pins : List (Addr × Obj)) (s : Shared) (σ : St) (H : Hp) (Q : VK), Inv X pins σ H s → t σ H Q →
    wpAny (model X.prog X.w) X.A (eval a X.env) (fun v s₁ => wpAny (model X.prog X.w) X.A (eval b X.env) (fun u s₂ => wpAny (model X.prog X.w) X.A (compareOp op v u) (EP X pins σ Q) X.xe s₂) X.xe s₁) X.xe s
theorem nobehind (b : Expr) {op : CmpOp} (h : op ≠ .In) (h2 : op ≠ .NotIn) : behindInMarks op b = false := by
  have e1 : (op == CmpOp.In) = false := by cases op <;> first | rfl | exact absurd rfl h
  have e2 : (op == CmpOp.NotIn) = false := by cases op <;> first | rfl | exact absurd rfl h2
  cases b <;> simp [behindInMarks, e1, e2]
def tIsN (ta : TE) : TE := fun σ H Q => ta σ H fun x H1 => Q (.bl (decide (x = .non))) H1
def tNotN (ta : TE) : TE := fun σ H Q => ta σ H fun x H1 => Q (.bl (!decide (x = .non))) H1
theorem RelV.none_iff {x : V} {v : Value} (r : RelV x v) : (v == Value.none) = decide (x = .non) := by
  cases x with
  | non => cases r; rfl
  | bl _ => cases r; rfl
  | int _ => obtain ⟨t, rfl⟩ := r; rfl
  | str _ => obtain ⟨t, rfl⟩ := r; rfl
  | byt _ => obtain ⟨t, rfl⟩ := r; rfl
  | flt _ => obtain ⟨t, rfl⟩ := r; rfl
  | ref _ => cases r; rfl
  | ty _ => cases r; rfl
theorem pc_isN {j pos'} (ha : PE X a ta) : PC X .Is a (.Constant .none j pos') (tIsN ta) := by
  intro pins s σ H Q I h
  refine thn (ha pins s σ H _ I h) fun v s1 ⟨x, H1, I1, r1, q1⟩ => ?_
  exact Constant_none (is_none_gen ⟨.bl _, H1, I1, by rw [r1.none_iff]; rfl, q1⟩)
theorem pc_notN {j pos'} (ha : PE X a ta) : PC X .IsNot a (.Constant .none j pos') (tNotN ta) := by
  intro pins s σ H Q I h
  refine thn (ha pins s σ H _ I h) fun v s1 ⟨x, H1, I1, r1, q1⟩ => ?_
  exact Constant_none (isnot_none_gen ⟨.bl _, H1, I1, by rw [r1.none_iff]; rfl, q1⟩)
def tB (t : TE) : TT := fun σ H Q => t σ H fun x H1 => ∃ c, x = .bl c ∧ Q c H1
theorem pt_cmp {op : CmpOp} {t : TE} (h : PC X op a b t) (h1 : behindInMarks op b = false := by first | exact nobehind _ (by decide) (by decide) | rfl) : PT X (.Compare a [op] [b] pos) (tB t) := by
  intro pins s σ H Q I hw
  refine wpAny_isTrue_Compare1 (thn (h pins s σ H _ I hw) fun v s1 h1 => thn h1 fun u s2 h2 => thn h2 fun c s3 ⟨x, H1, I1, r1, q1⟩ => ?_) h1
  obtain ⟨d, rfl, q⟩ := q1
  cases r1
  exact wpAny_truthy_bool ⟨H1, I1, q⟩
theorem pt_val {e : Expr} {t : TE} (h : PE X e t) (he : ∀ whole, isTrue e X.env whole = (do let v ← whole; standAt e.pos; holding [v] (truthy v)) := by intro _; rfl) : PT X e (tB t) := by
  intro pins s σ H Q I hw
  refine isTrue_plain (thn (h pins s σ H _ I hw) fun v s1 ⟨x, H1, I1, r1, q1⟩ => ?_) (he _)
  obtain ⟨d, rfl, q⟩ := q1
  cases r1
  exact wpAny_truthy_bool ⟨H1, I1, q⟩
variable {tA tB' : TT} {rest : List Expr}
def tAnd (t u : TT) : TT := fun σ H Q => t σ H fun c H1 => if c = true then u σ H1 Q else Q false H1
def tOr (t u : TT) : TT := fun σ H Q => t σ H fun c H1 => if c = true then Q true H1 else u σ H1 Q
def tNot (t : TT) : TT := fun σ H Q => t σ H fun c H1 => Q (!c) H1
theorem pw_and1 (ha : PT X a tA) : PW X (.BoolOp .And [a] pos) tA := by
  intro wh pins s σ H Q I h
  refine isTrue_and (thn (ha pins s σ H Q I h) fun c s1 e => ?_)
  cases c with
  | true => exact isTrue_and_nil e
  | false => exact e
theorem pw_or1 (ha : PT X a tA) : PW X (.BoolOp .Or [a] pos) tA := by
  intro wh pins s σ H Q I h
  refine isTrue_or (thn (ha pins s σ H Q I h) fun c s1 e => ?_)
  cases c with
  | false => exact isTrue_or_nil e
  | true => exact e
theorem pw_and (ha : PT X a tA) (hb : PW X (.BoolOp .And (b :: rest) pos) tB') : PW X (.BoolOp .And (a :: b :: rest) pos) (tAnd tA tB') := by
  intro wh pins s σ H Q I h
  refine isTrue_and (thn (ha pins s σ H _ I h) fun c s1 ⟨H1, I1, q1⟩ => ?_)
  cases c with
  | true => exact hb wh pins s1 σ H1 Q I1 q1
  | false => exact ⟨H1, I1, q1⟩
theorem pw_or (ha : PT X a tA) (hb : PW X (.BoolOp .Or (b :: rest) pos) tB') : PW X (.BoolOp .Or (a :: b :: rest) pos) (tOr tA tB') := by
  intro wh pins s σ H Q I h
  refine isTrue_or (thn (ha pins s σ H _ I h) fun c s1 ⟨H1, I1, q1⟩ => ?_)
  cases c with
  | true => exact ⟨H1, I1, q1⟩
  | false => exact hb wh pins s1 σ H1 Q I1 q1
theorem pt_not (ha : PT X a tA) : PT X (.UnaryOp .Not a pos) (tNot tA) := by
  intro pins s σ H Q I h
  exact isTrue_not (ha pins s σ H (fun c H1 => Q (!c) H1) I h)
def tAndV (ta tb : TE) : TE := fun σ H Q => ta σ H fun x H1 => ∃ c, x = .bl c ∧ if c = true then tb σ H1 Q else Q (.bl false) H1
def tOrV (ta tb : TE) : TE := fun σ H Q => ta σ H fun x H1 => ∃ c, x = .bl c ∧ if c = true then Q (.bl true) H1 else tb σ H1 Q
def tNotV (ta : TE) : TE := fun σ H Q => ta σ H fun x H1 => ∃ c, x = .bl c ∧ Q (.bl (!c)) H1
theorem pe_one {op} {t : TE} (h : PE X a t) : PE X (.BoolOp op [a] pos) t := fun pins s σ H Q I hw => BoolOp_one (h pins s σ H Q I hw)
theorem pe_and (ha : PE X a ta) (hb : PE X (.BoolOp .And (b :: rest) pos) tb) : PE X (.BoolOp .And (a :: b :: rest) pos) (tAndV ta tb) := by
  intro pins s σ H Q I h
  refine BoolOp_and (thn (ha pins s σ H _ I h) fun v s1 ⟨x, H1, I1, r1, q1⟩ => ?_)
  obtain ⟨c, rfl, q1⟩ := q1
  cases r1
  refine wpAny_truthy_bool ?_
  cases c with
  | true => exact hb pins s1 σ H1 Q I1 q1
  | false => exact ⟨.bl false, H1, I1, rfl, q1⟩
theorem pe_or (ha : PE X a ta) (hb : PE X (.BoolOp .Or (b :: rest) pos) tb) : PE X (.BoolOp .Or (a :: b :: rest) pos) (tOrV ta tb) := by
  intro pins s σ H Q I h
  refine BoolOp_or (thn (ha pins s σ H _ I h) fun v s1 ⟨x, H1, I1, r1, q1⟩ => ?_)
  obtain ⟨c, rfl, q1⟩ := q1
  cases r1
  refine wpAny_truthy_bool ?_
  cases c with
  | false => exact hb pins s1 σ H1 Q I1 q1
  | true => exact ⟨.bl true, H1, I1, rfl, q1⟩
def tIf (t : TT) (ta tb : TE) : TE := fun σ H Q => t σ H fun c H1 => if c = true then ta σ H1 Q else tb σ H1 Q
theorem pe_ifExp {c : Expr} (hc : PT X c tA) (ha : PE X a ta) (hb : PE X b tb) : PE X (.IfExp c a b pos) (tIf tA ta tb) := by
  intro pins s σ H Q I h
  refine wpAny_IfExp (thn (hc pins s σ H _ I h) fun d s1 ⟨H1, I1, q1⟩ => ?_)
  cases d with
  | true => exact ha pins s1 σ H1 Q I1 q1
  | false => exact hb pins s1 σ H1 Q I1 q1
end
end L2
namespace L2
open PySem PySem.Spec PyProof.Rows
def SqL (K : PySem.W.Frag) (H : Hp) (a : Addr) (xs : List V) : Prop :=
  Rd H a (.lst xs) ∨
    ∃ (o : Obj) (its : Array Value) (n : Nat), K.lookup a = some o ∧ o.cls = .type "list" ∧ o.dict = none ∧ o.data = .seq its n ∧ its.size ≤ sizeLine ∧ Vals xs its.toList
def SqT (K : PySem.W.Frag) (H : Hp) (a : Addr) (xs : List V) : Prop :=
  Rd H a (.tup xs) ∨
    ∃ (o : Obj) (its : Array Value) (n : Nat), K.lookup a = some o ∧ o.cls = .type "tuple" ∧ o.data = .seq its n ∧ its.size ≤ sizeLine ∧ Vals xs its.toList
def absV : Value → Option V
  | .none => some .non
  | .bool b => some (.bl b)
  | .int i _ => some (.int i)
  | .str x _ => some (.str x)
  | .bytes b _ => some (.byt b)
  | .float b _ => some (.flt b)
  | .ref a => some (.ref a)
  | .type n => some (.ty n)
  | _ => none
theorem RelV.abs {x : V} {u : Value} (r : RelV x u) : absV u = some x := by
  cases x with
  | non => cases r; rfl
  | bl _ => cases r; rfl
  | int _ => obtain ⟨t, rfl⟩ := r; rfl
  | str _ => obtain ⟨t, rfl⟩ := r; rfl
  | byt _ => obtain ⟨t, rfl⟩ := r; rfl
  | flt _ => obtain ⟨t, rfl⟩ := r; rfl
  | ref _ => cases r; rfl
  | ty _ => cases r; rfl
theorem RelV.inj {x y : V} {u : Value} (r : RelV x u) (q : RelV y u) : x = y := Option.some.inj (r.abs.symm.trans q.abs)
theorem Vals.inj : ∀ {xs ys : List V} {us : List Value}, Vals xs us → Vals ys us → xs = ys
  | _, _, _, .nil, .nil => rfl
  | _, _, _, .cons r t, .cons r' t' => by rw [r.inj r', Vals.inj t t']
section
variable {X : Cx} {pins : List (Addr × Obj)} {σ : St} {H : Hp} {s : Shared} {a : Addr} {xs ys : List V}
theorem SqL.of {K : PySem.W.Frag} (h : H a = some (.lst xs)) : SqL K H a xs := .inl (.inl h)
theorem SqT.of {K : PySem.W.Frag} (h : H a = some (.tup xs)) : SqT K H a xs := .inl (.inl h)
theorem Inv.list (I : Inv X pins σ H s) (h : SqL X.K H a xs) : ∃ its : List Value, Vals xs its ∧ PlainL s.heap a its.toArray ∧ xs.length ≤ sizeLine := by
  rcases h with h | ⟨o, its, n, hk, hc, hd, hs, hz, r⟩
  · obtain ⟨z, its, n, r, e⟩ := h.ok I.hok
    exact ⟨its, r, ⟨_, n, e, rfl, rfl, rfl⟩, z⟩
  · refine ⟨its.toList, r, ⟨o, n, I.kIn a o hk, hc, hd, by simpa using hs⟩, ?_⟩
    have e := r.length
    simp only [Array.length_toList] at e
    omega
theorem Inv.tuple (I : Inv X pins σ H s) (h : SqT X.K H a xs) : ∃ its : List Value, Vals xs its ∧ IsTup s.heap a its.toArray ∧ xs.length ≤ sizeLine := by
  rcases h with h | ⟨o, its, n, hk, hc, hs, hz, r⟩
  · obtain ⟨z, its, r, p⟩ := h.ok I.hok
    exact ⟨its, r, p, z⟩
  · refine ⟨its.toList, r, ⟨o, I.kIn a o hk, hc, n, by simpa using hs⟩, ?_⟩
    have e := r.length
    simp only [Array.length_toList] at e
    omega
theorem Inv.list_inj (I : Inv X pins σ H s) (h : SqL X.K H a xs) (h' : SqL X.K H a ys) : xs = ys := by
  obtain ⟨its, r, ⟨o, n, e, _, _, d⟩, _⟩ := I.list h
  obtain ⟨its', r', ⟨o', n', e', _, _, d'⟩, _⟩ := I.list h'
  rw [e] at e'; cases e'
  rw [d] at d'
  injection d' with d1 _
  have : its = its' := by simpa using congrArg Array.toList d1
  subst this
  exact r.inj r'
end
abbrev Cx.wish (X : Cx) (E : Value → Shared → Prop) : Cx := { X with xe := E }
abbrev Cx.nox (X : Cx) : Cx := X.wish fun _ _ => False
theorem Cx.Ok.wish {X : Cx} (ok : X.Ok) (E : Value → Shared → Prop) : (X.wish E).Ok :=
  ⟨ok.mod, ok.kind, ok.glob, ok.blt, ok.above, ok.inj, ok.has, ok.cab, ok.hd, ok.frames, ok.stk, ok.exf, ok.bs, ok.bsz, ok.noex, ok.exfs, ok.funs, ok.frf⟩
theorem Cx.Ok.unwish {X : Cx} {E : Value → Shared → Prop} (ok : (X.wish E).Ok) : X.Ok :=
  ⟨ok.mod, ok.kind, ok.glob, ok.blt, ok.above, ok.inj, ok.has, ok.cab, ok.hd, ok.frames, ok.stk, ok.exf, ok.bs, ok.bsz, ok.noex, ok.exfs, ok.funs, ok.frf⟩
section
variable {X : Cx} {pins : List (Addr × Obj)} {σ : St} {H : Hp} {s : Shared} {E : Value → Shared → Prop}
theorem Inv.wish (I : Inv X pins σ H s) (E : Value → Shared → Prop) : Inv (X.wish E) pins σ H s := ⟨I.ok.wish E, I.os, I.bare, I.base, I.loc, I.cell, I.free, I.freeC, I.pin, I.hok, I.len⟩
theorem Inv.unwish (I : Inv (X.wish E) pins σ H s) : Inv X pins σ H s := ⟨I.ok.unwish, I.os, I.bare, I.base, I.loc, I.cell, I.free, I.freeC, I.pin, I.hok, I.len⟩
theorem SP.unwish {D : Ends} {f : Flow} {s' : Shared} (h : SP (X.wish E) pins D f s') : SP X pins D f s' := by
  cases f with
  | next => obtain ⟨σ', H', I, q⟩ := h; exact ⟨σ', H', I.unwish, q⟩
  | brk => obtain ⟨σ', H', I, q⟩ := h; exact ⟨σ', H', I.unwish, q⟩
  | cont => obtain ⟨σ', H', I, q⟩ := h; exact ⟨σ', H', I.unwish, q⟩
  | ret u => obtain ⟨v, σ', H', I, r, q⟩ := h; exact ⟨v, σ', H', I.unwish, r, q⟩
theorem PE.nox {e : Expr} {t : TE} (h : PE X.nox e t) : PE X e t := fun pins s σ H Q I hw =>
  wpAny_mono (h pins s σ H Q (I.wish _) hw) (fun _ _ ⟨v, H', I', r, q⟩ => ⟨v, H', I'.unwish, r, q⟩) fun _ _ z => False.elim z
theorem PT.nox {e : Expr} {t : TT} (h : PT X.nox e t) : PT X e t := fun pins s σ H Q I hw =>
  wpAny_mono (h pins s σ H Q (I.wish _) hw) (fun _ _ ⟨H', I', q⟩ => ⟨H', I'.unwish, q⟩) fun _ _ z => False.elim z
theorem PSs.nox {st : List Stmt} {t : TS} (h : PSs X.nox st t) : PSs X st t := fun pins s σ H D I hw =>
  wpAny_mono (h pins s σ H D (I.wish _) hw) (fun _ _ q => q.unwish) fun _ _ z => False.elim z
end
section
variable {X : Cx} {st : Stmt} {rest : List Stmt} {t u : TS} {e : Expr} {te : TE} {pos : Pos}
def tNext : TS := fun D σ H => D.nx σ H
def tSeq (t u : TS) : TS := fun D σ H => t { D with nx := u D } σ H
theorem pss_nil : PSs X [] tNext := fun _ _ σ H _ I h => wpAny_execs_nil ⟨σ, H, I, h⟩
theorem pss_cons (h1 : PS X st t) (h2 : PSs X rest u) : PSs X (st :: rest) (tSeq t u) := by
  intro pins s σ H D I h
  refine wpAny_execs_cons (thn (h1 pins s σ H { D with nx := u D } I h) fun f s1 q => ?_)
  cases f with
  | next =>
    obtain ⟨σ', H', I', q⟩ := q
    exact h2 pins s1 σ' H' D I' q
  | ret v => exact q
  | brk => exact q
  | cont => exact q
theorem pss_one (h1 : PS X st t) : PSs X [st] t := by
  intro pins s σ H D I h
  refine wpAny_execs_cons (thn (h1 pins s σ H D I h) fun f s1 q => ?_)
  cases f with
  | next => exact wpAny_execs_nil q
  | ret v => exact q
  | brk => exact q
  | cont => exact q
def tBreak : TS := fun D σ H => D.bk σ H
def tCont : TS := fun D σ H => D.ct σ H
theorem ps_break : PS X (.Break pos) tBreak := fun _ _ σ H _ I h => wpAny_Break ⟨σ, H, I, h⟩
theorem Inv.quiet {pins : List (Addr × Obj)} {σ : St} {H : Hp} {s : Shared} (I : Inv X pins σ H s) : interactive X.env = false := by simp [interactive, I.ok.kind]
def tDrop (te : TE) : TS := fun D σ H => te σ H fun _ H1 => D.nx σ H1
theorem ps_expr (he : PE X e te) (hs : swapsWith e none pos.line X.env = pure false := by rfl) : PS X (.Expr e pos) (tDrop te) := by
  intro pins s σ H D I h
  exact wpAny_Expr_any (thn (he pins s σ H _ I h) fun v s1 ⟨x, H1, I1, r1, q1⟩ => ⟨σ, H1, I1, q1⟩) I.quiet hs
def tRet (te : TE) : TS := fun D σ H => te σ H D.rt
theorem ps_ret (he : PE X e te) : PS X (.Return (some e) pos) (tRet te) := by
  intro pins s σ H D I h
  exact wpAny_Return_some (thn (he pins s σ H _ I h) fun v s1 ⟨x, H1, I1, r1, q1⟩ => ⟨x, σ, H1, I1, r1, q1⟩)
def tRetN : TS := fun D _ H => D.rt .non H
def tIfS (c : TT) (t u : TS) : TS := fun D σ H => c σ H fun b H1 => if b = true then t D σ H1 else u D σ H1
theorem ps_if {c : Expr} {a b : List Stmt} {tc : TT} (hc : PT X c tc) (ha : PSs X a t) (hb : PSs X b u) : PS X (.If c a b pos) (tIfS tc t u) := by
  intro pins s σ H D I h
  refine wpAny_If (thn (hc pins s σ H _ I h) fun d s1 ⟨H1, I1, q1⟩ => ?_)
  cases d with
  | true => exact ha pins s1 σ H1 D I1 q1
  | false => exact hb pins s1 σ H1 D I1 q1
def tNever : TS := fun _ _ _ => False
end
abbrev TG := V → St → Hp → (St → Hp → Prop) → Prop
abbrev TGs := List V → St → Hp → (St → Hp → Prop) → Prop
def PG (X : Cx) (target : Expr) (t : TG) : Prop :=
  ∀ (pins : List (Addr × Obj)) (s : Shared) (σ : St) (H : Hp) (v : V) (u : Value) (Q : St → Hp → Prop), Inv X pins σ H s → RelV v u → t v σ H Q →
    wpAny (model X.prog X.w) X.A (assign target X.env u) (fun _ s' => ∃ σ' H', Inv X pins σ' H' s' ∧ Q σ' H') X.xe s
def PGs (X : Cx) (ts : List Expr) (t : TGs) : Prop :=
  ∀ (pins : List (Addr × Obj)) (s : Shared) (σ : St) (H : Hp) (vs : List V) (us : List Value) (Q : St → Hp → Prop), Inv X pins σ H s → Vals vs us → t vs σ H Q →
    wpAny (model X.prog X.w) X.A (assignInOrder ((assignEach ts X.env).map (·.2)) us) (fun _ s' => ∃ σ' H', Inv X pins σ' H' s' ∧ Q σ' H') X.xe s
abbrev TIp := V → V → Hp → VK → Prop
def PIp (X : Cx) (op : Operator) (t : TIp) : Prop :=
  ∀ (pins : List (Addr × Obj)) (s : Shared) (σ : St) (H : Hp) (x y : V) (v u : Value) (Q : VK), Inv X pins σ H s → RelV x v → RelV y u → t x y H Q →
    wpAny (model X.prog X.w) X.A (inplaceOp op v u) (EP X pins σ Q) X.xe s
section
variable {X : Cx} {pos : Pos}
def gName (i : Nat) : TG := fun v σ H Q => Q (σ.set i (some v)) H
theorem pg_name {i : Nat} {x : Str} (hN : X.N.Nodup) (hi : X.N[i]? = some x) (hx : Loc X.env.scope x) (hf : X.fn x = true ∨ X.env.scope.names.lookup x = some .local := by first | exact .inl rfl | exact .inr rfl | assumption) : PG X (.Name x pos) (gName i) := by
  intro pins s σ H v u Q I r h
  exact wpAny_assign_Name (store_ok I hN hi hx r (fun s' I' => ⟨_, H, I', h⟩) hf)
def gNil : TGs := fun vs σ H Q => vs = [] ∧ Q σ H
def gCons (t : TG) (u : TGs) : TGs := fun vs σ H Q => ∃ v r, vs = v :: r ∧ t v σ H fun σ' H' => u r σ' H' Q
theorem pgs_nil : PGs X [] gNil := by
  intro pins s σ H vs us Q I r h
  obtain ⟨e, h⟩ := h
  subst e
  cases r
  exact assignInOrder_nil ⟨σ, H, I, h⟩
theorem pgs_cons {e : Expr} {es : List Expr} {t : TG} {u : TGs} (h1 : PG X e t) (h2 : PGs X es u)
    (hs : (assignEach (e :: es) X.env).map (·.2) = assign e X.env :: (assignEach es X.env).map (·.2) := by rfl) : PGs X (e :: es) (gCons t u) := by
  intro pins s σ H vs us Q I r h
  obtain ⟨v, vr, e1, h⟩ := h
  subst e1
  cases r with
  | cons r rr =>
    rw [hs]
    refine assignInOrder_cons (thn (h1 pins s σ H _ _ _ I r h) fun _ s1 ⟨σ1, H1, I1, q1⟩ => ?_)
    exact h2 pins s1 σ1 H1 _ _ Q I1 rr q1
def gTup (K : PySem.W.Frag) (n : Nat) (t : TGs) : TG := fun v σ H Q => ∃ a xs, v = .ref a ∧ SqT K H a xs ∧ xs.length = n ∧ t xs σ H Q
theorem pg_tup {es : List Expr} {k : Nat} {t : TGs} {n : Nat} (hc : X.calm = true) (h : PGs X es t)
    (hn : (assignEach es X.env).length = n := by rfl) (hst : (assignEach es X.env).findIdx? (·.1) = none := by rfl) : PG X (.Tuple es k pos) (gTup X.K n t) := by
  intro pins s σ H v u Q I r hw
  obtain ⟨a, xs, e1, hq, hl, hw⟩ := hw
  subst e1
  cases r
  obtain ⟨its, rv, ht, hz⟩ := I.tuple hq
  refine assign_Tuple_tuple (I.ok.hd hc) ht (by simp [hn, ← hl, rv.length]) hst fun h' hx => ?_
  have I1 : Inv X pins σ H { s with heap := h' } := I.kept (t' := s.toks) fun b o e => hx b o (Nat.ne_of_lt (Heap.lt_size e)) e
  exact h pins _ σ H xs _ Q I1 (by simpa using rv) hw
def tAsg (te : TE) (g : TG) : TS := fun D σ H => te σ H fun x H1 => g x σ H1 D.nx
theorem ps_set {i : Nat} {x : Str} {e : Expr} {te : TE} {pos' : Pos} (hN : X.N.Nodup) (hi : X.N[i]? = some x) (hx : Loc X.env.scope x) (he : PE X e te) (hs : swapsWith e (some (.Name x pos')) pos.line X.env = pure false := by rfl) (hf : X.fn x = true ∨ X.env.scope.names.lookup x = some .local := by first | exact .inl rfl | exact .inr rfl | assumption) :
    PS X (.Assign [.Name x pos'] e pos) (tAsg te (gName i)) := by
  intro pins s σ H D I h
  refine wpAny_Assign_Name (thn (he pins s σ H _ I h) fun v s1 ⟨y, H1, I1, r1, q1⟩ => ?_) hs
  exact store_ok I1 hN hi hx r1 (fun s2 I2 => ⟨_, H1, I2, q1⟩) hf
def tAug (i : Nat) (te : TE) (ti : TIp) : TS := fun D σ H => ∃ x, σ[i]? = some (some x) ∧ te σ H fun y H1 => ti x y H1 fun z H2 => D.nx (σ.set i (some z)) H2
theorem ps_aug {i : Nat} {x : Str} {e : Expr} {te : TE} {op : Operator} {ti : TIp} {pos' : Pos} (hN : X.N.Nodup) (hi : X.N[i]? = some x) (hx : Loc X.env.scope x) (he : PE X e te) (ho : PIp X op ti) (hf : X.fn x = true ∨ X.env.scope.names.lookup x = some .local := by first | exact .inl rfl | exact .inr rfl | assumption) :
    PS X (.AugAssign (.Name x pos') op e pos) (tAug i te ti) := by
  intro pins s σ H D I h
  obtain ⟨v, e1, h⟩ := h
  obtain ⟨m, hn, hl⟩ := I.loc
  have vis : Vis X.env.scope x := by rcases hx with k | k; exact .inl k; exact .inr (.inl k)
  obtain ⟨u, r, l⟩ := hl i x v hi e1 vis
  refine wpAny_AugAssign_Name ?_
  have go : wpAny (model X.prog X.w) X.A (eval e X.env) (fun w s₂ => wpAny (model X.prog X.w) X.A (inplaceOp op u w) (fun r s₃ => wpAny (model X.prog X.w) X.A (storeName X.env x r) (fun _ => SP X pins D .next) X.xe s₃) X.xe s₂) X.xe s := by
    refine thn (he pins s σ H _ I h) fun w s1 ⟨y, H1, I1, r1, q1⟩ => ?_
    refine thn (ho pins s1 σ H1 v y u w _ I1 r r1 q1) fun z s2 ⟨zv, H2, I2, r2, q2⟩ => ?_
    exact store_ok I2 hN hi hx r2 (fun s3 I3 => ⟨_, H2, I3, q2⟩) hf
  rcases l with ⟨hk, hm⟩ | ⟨hk, c, hc, hcell⟩
  · exact wpAny_loadName_local I.ok.kind hk hn hm go
  · rcases hk with hk | hk
    · exact wpAny_loadName_cell I.ok.kind hk hc hcell go
    · rcases hx with k | k
      · have : X.env.scope.names.lookup x = some .free := hk
        rw [k] at this; cases this
      · have : X.env.scope.names.lookup x = some .free := hk
        rw [k] at this; cases this
def ipI (f : Int → Int → Int) : TIp := fun x y H Q => ∃ i j, x = .int i ∧ y = .int j ∧ Q (.int (f i j)) H
theorem ip_add : PIp X .Add (ipI fun i j => i + j) := by
  intro pins s σ H x y v u Q I r1 r2 h
  obtain ⟨i, j, e1, e2, q⟩ := h
  subst e1; subst e2
  obtain ⟨t, rfl⟩ := r1
  obtain ⟨t', rfl⟩ := r2
  exact iadd_int ⟨.int _, H, I.tok _, ⟨_, rfl⟩, q⟩
end
section
variable {X : Cx} {pos : Pos}
def tWhile (c : TT) (tb : TS) : TS := fun D σ H => ∃ W : Nat → St → Hp → Prop, (∃ m, W m σ H) ∧ ∀ m σ H, W m σ H →
  c σ H fun b H1 => if b = true then ∃ N : St → Hp → Prop, (∀ σ' H', N σ' H' → ∃ m', m' < m ∧ W m' σ' H') ∧ tb { D with nx := N, ct := N, bk := D.nx } σ H1 else D.nx σ H1
theorem ps_while {c : Expr} {body : List Stmt} {tc : TT} {tb : TS} (hp : PassesOwn (model X.prog X.w) X.A X.env X.xe) (hc : PT X c tc) (hb : PSs X body tb) : PS X (.While c body [] pos) (tWhile tc tb) := by
  intro pins s σ H D I h
  obtain ⟨W, ⟨m0, w0⟩, turn⟩ := h
  refine wpAny_While (codeAny_whileLoop (fun n s' => ∃ σ' H', Inv X pins σ' H' s' ∧ W n σ' H') ?_ m0 ⟨σ, H, I, w0⟩)
  rintro n s1 ⟨σ1, H1, I1, w1⟩
  refine wpAny_passesOwn hp (thn (hc pins s1 σ1 H1 _ I1 (turn n σ1 H1 w1)) fun b s2 ⟨H2, I2, q2⟩ => ?_)
  cases b with
  | true =>
    obtain ⟨N, hN, q2⟩ := q2
    rw [if_pos rfl]
    refine wpAny_passesOwn hp (thn (hb pins s2 σ1 H2 _ I2 q2) fun f s3 q3 => ?_)
    cases f with
    | next =>
      obtain ⟨σ3, H3, I3, n3⟩ := q3
      obtain ⟨m', hm, w3⟩ := hN σ3 H3 n3
      exact ⟨m', hm, σ3, H3, I3, w3⟩
    | cont =>
      obtain ⟨σ3, H3, I3, n3⟩ := q3
      obtain ⟨m', hm, w3⟩ := hN σ3 H3 n3
      exact ⟨m', hm, σ3, H3, I3, w3⟩
    | brk => exact q3
    | ret v => exact q3
  | false =>
    rw [if_neg Bool.false_ne_true]
    exact wpAny_execs_nil ⟨σ1, H2, I2, q2⟩
end
structure It where
  go : Nat → Hp → Prop
  yld : Nat → Hp → V → Hp → Prop
  stop : Nat → Hp → Prop
def FpOk (X : Cx) (pins : List (Addr × Obj)) (H : Hp) (b : Addr) : Prop :=
  H b = none ∧ b ≠ X.env.locals ∧ b ∉ X.fs ∧ (b ∈ X.ex ∨ X.s_0.heap.objs.size ≤ b) ∧ (∀ x c, X.env.cells.lookup x = some c → c ≠ b) ∧ ∀ p ∈ X.pn ++ pins, p.1 ≠ b
theorem Inv.fpOk {X : Cx} {pins : List (Addr × Obj)} {σ : St} {H H' : Hp} {s : Shared} {b : Addr} (I : Inv X pins σ H s) (hb : s.heap.objs.size ≤ b) (hn : H' b = none) : FpOk X pins H' b := by
  refine ⟨hn, Nat.ne_of_gt (Nat.lt_of_lt_of_le I.lt hb), I.nofs hb, .inr (Nat.le_trans I.sz hb), fun x c e z => ?_, fun p hp z => ?_⟩
  · obtain ⟨v, q⟩ := I.cell x c e
    exact absurd (Nat.lt_of_lt_of_le q.lt (by rw [z]; exact hb)) (Nat.lt_irrefl _)
  · exact absurd (Nat.lt_of_lt_of_le (Heap.lt_size (I.pin p hp).1) (by rw [z]; exact hb)) (Nat.lt_irrefl _)
structure Turn (P : Program) (w : World) (K : PySem.W.Frag) (tg : Expr) (J : It) (fp : List Addr) (it : Addr) (tn : Nat → Heap → Prop) : Prop where
  mem : it ∈ fp
  obj : ∀ i h, tn i h → ∀ b ∈ fp, ∃ o, h.get? b = some o ∧ ∀ v, o.data ≠ .cell v
  keep : ∀ i h h', tn i h → (∀ b ∈ fp, ∀ o, h.get? b = some o → h'.get? b = some o) → tn i h'
  item : ∀ (X : Cx), X.prog = P → X.w = w → X.K = K → X.calm = true → ∀ (i : Nat) (pins : List (Addr × Obj)) (s : Shared) (σ : St) (H : Hp) (E : Value → Shared → Prop), Inv X pins σ H s → (∀ b ∈ fp, FpOk X pins H b) → tn i s.heap → J.go i H →
    wpAny (model P w) X.A (pyNext (.ref it)) (fun r s1 => ∃ u, r = some u ∧
      wpAny (model P w) X.A (letOwnedTupleGo tg (.ref it) u) (fun _ s2 => ∃ x H', Inv X pins σ H' s2 ∧ RelV x u ∧ J.yld i H x H' ∧ tn (i + 1) s2.heap ∧ ∀ b ∈ fp, H' b = none) E s1) E s
  done : ∀ (X : Cx), X.prog = P → X.w = w → X.K = K → X.calm = true → ∀ (i : Nat) (pins : List (Addr × Obj)) (s : Shared) (σ : St) (H : Hp) (E : Value → Shared → Prop), Inv X pins σ H s → (∀ b ∈ fp, FpOk X pins H b) → tn i s.heap → J.stop i H →
    wpAny (model P w) X.A (pyNext (.ref it)) (fun r s1 => r = none ∧ Inv X pins σ H s1) E s
  self : ∀ (A : Around) (i : Nat) (s : Shared) (Q : Value → Shared → Prop) (E : Value → Shared → Prop), tn i s.heap → Q (.ref it) s → wpAny (model P w) A (pyIter (.ref it)) Q E s
abbrev TI := St → Hp → (It → Hp → Prop) → Prop
def PIE (X : Cx) (pins : List (Addr × Obj)) (σ : St) (tg : Expr) (R : It → Hp → Prop) (itv : Value) (s2 : Shared) : Prop :=
  ∃ (it : Addr) (fp : List Addr) (tn : Nat → Heap → Prop) (J : It) (H' : Hp), itv = .ref it ∧ Inv X pins σ H' s2 ∧ Turn X.prog X.w X.K tg J fp it tn ∧ tn 0 s2.heap ∧ (∀ b ∈ fp, FpOk X pins H' b) ∧ R J H'
def PI (X : Cx) (tg iter : Expr) (wi : TI) : Prop :=
  ∀ (pins : List (Addr × Obj)) (s : Shared) (σ : St) (H : Hp) (R : It → Hp → Prop), Inv X pins σ H s → wi σ H R →
    wpAny (model X.prog X.w) X.A (eval iter X.env) (fun v s1 => wpAny (model X.prog X.w) X.A (pyIter v) (PIE X pins σ tg R) X.xe s1) X.xe s
theorem go_of {M : Model} {A : Around} {E : Value → Shared → Prop} {s : Shared} {tg : Expr} {it : Addr} {u : Value} {o : Obj} {n : String} {vs : Array Value} {Q : Unit → Shared → Prop} (ho : s.heap.get? it = some o) (hc : o.cls = .type n) (hd : o.data = .fields vs)
    (hn : ["enumerate", "zip", "dict_itemiterator", "dict_reverseitemiterator", "odict_iterator", "itertools.zip_longest", "itertools.pairwise"].contains n = false) (hQ : Q () s) : wpAny M A (letOwnedTupleGo tg (.ref it) u) Q E s := by
  unfold letOwnedTupleGo
  cases tg <;> first
    | exact wpAny_pure hQ
    | (cases u <;> first
        | exact wpAny_pure hQ
        | (refine wpAny_bind (wpAny_load ho ?_)
           rw [hc, hd]
           show wpAny M A (if (["enumerate", "zip", "dict_itemiterator", "dict_reverseitemiterator", "odict_iterator", "itertools.zip_longest", "itertools.pairwise"].contains n && vs[0]? == some (rawInt _)) = true then _ else _) Q E s
           rw [if_neg (by intro h; rw [hn, Bool.false_and] at h; cases h)]
           exact wpAny_pure hQ))
def Itl (K : PySem.W.Frag) (a : Addr) : It :=
  ⟨fun i H => ∃ xs x, SqL K H a xs ∧ xs[i]? = some x, fun i H x H' => H' = H ∧ ∀ xs, SqL K H a xs → xs[i]? = some x, fun i H => ∃ xs, SqL K H a xs ∧ xs.length ≤ i⟩
def Itr (lo : Int) (n : Nat) : It := ⟨fun i _ => i < n, fun i H x H' => H' = H ∧ x = .int (lo + i), fun i _ => n ≤ i⟩
theorem turn_list {P : Program} {w : World} {K : PySem.W.Frag} {tg : Expr} (a it : Addr) : Turn P w K tg (Itl K a) [it] it (fun i h => h.IsListIter it a i) where
  mem := by simp
  obj := fun i h st b hb => by
    have e : b = it := by simpa using hb
    subst e
    obtain ⟨o, e, c, d⟩ := st
    exact ⟨o, e, fun v z => by rw [d] at z; cases z⟩
  keep := fun i h h' st k => st.at fun o e => k it (by simp) o e
  item := by
    intro X hP hw hK hc i pins s σ H E I hf st hg
    subst hP hw hK
    obtain ⟨xs, x, hq, hx⟩ := hg
    obtain ⟨its, rv, p, hz⟩ := I.list hq
    obtain ⟨u, hu, ru⟩ := rv.get hx
    obtain ⟨f0, f1, f2, f3, f4, f5⟩ := hf it (by simp)
    refine wpAny_pyNext_list_item st p.isList (x := u) (by simpa using hu) fun h' st' sb => ?_
    have I1 : Inv X pins σ H { s with heap := h' } := I.turned (t' := s.toks) (fun b o hb e => (sb.2 b hb).trans e) f0 f1 f3 f4 f5
    obtain ⟨o, e, c, d⟩ := id st'
    exact ⟨u, rfl, go_of (s := { s with heap := h' }) e c d (by decide) ⟨x, H, I1, ru, ⟨rfl, fun ys hy => by rw [I.list_inj hy hq]; exact hx⟩, st', fun b hb => (hf b hb).1⟩⟩
  done := by
    intro X hP hw hK hc i pins s σ H E I hf st hg
    subst hP hw hK
    obtain ⟨xs, hq, hx⟩ := hg
    obtain ⟨its, rv, p, hz⟩ := I.list hq
    obtain ⟨f0, f1, f2, f3, f4, f5⟩ := hf it (by simp)
    have hl := rv.length
    exact wpAny_pyNext_list_end (I.ok.hd hc) st p.isList (by simp; omega) fun h' eb => ⟨rfl, I.turned (t' := s.toks) (fun b o hb e => eb b o hb e) f0 f1 f3 f4 f5⟩
  self := fun _ _ _ _ _ st h => wpAny_pyIter_listiter st h
theorem turn_range {P : Program} {w : World} {K : PySem.W.Frag} {tg : Expr} (it : Addr) (lo : Int) (n : Nat) : Turn P w K tg (Itr lo n) [it] it (fun i h => IsRangeIter h it (lo + (i : Nat) * 1) ((n : Int) - (i : Nat)) 1) where
  mem := by simp
  obj := fun i h st b hb => by
    have e : b = it := by simpa using hb
    subst e
    exact ⟨_, st, fun v z => by
      have z' : Data.fields _ = Data.cell v := z
      cases z'⟩
  keep := fun i h h' st k => k it (by simp) _ st
  item := by
    intro X hP hw hK hc i pins s σ H E I hf st hg
    subst hP hw hK
    obtain ⟨f0, f1, f2, f3, f4, f5⟩ := hf it (by simp)
    have W := Walks.range (prog := X.prog) (w := X.w) (I.ok.hd hc) it lo 1 n
    refine W.item i s _ _ hg st fun v h' tk hv st' kk => ?_
    obtain ⟨t, rfl⟩ := hv
    have I1 : Inv X pins σ H { s with heap := h', toks := tk } := I.turned (fun b o hb e => kk b o (by simpa using hb) e) f0 f1 f3 f4 f5
    refine ⟨_, rfl, go_of (s := { s with heap := h', toks := tk }) (n := "range_iterator") st' rfl rfl (by decide) ⟨.int (lo + i), H, I1, ⟨t, ?_⟩, ⟨rfl, rfl⟩, st', fun b hb => (hf b hb).1⟩⟩
    rw [Int.mul_one]
  done := by
    intro X hP hw hK hc i pins s σ H E I hf st hg
    subst hP hw hK
    obtain ⟨f0, f1, f2, f3, f4, f5⟩ := hf it (by simp)
    exact wpAny_pyNext_range_end (I.ok.hd hc) st (by have : n ≤ i := hg; omega) fun h' eb => ⟨rfl, I.turned (t' := s.toks) (fun b o hb e => eb b o hb e) f0 f1 f3 f4 f5⟩
  self := fun _ _ _ _ _ st h => wpAny_pyIter_rangeiter st h
end L2
namespace L2
open PySem PySem.Spec PyProof.Rows
section
variable {X : Cx} {tg : Expr}
theorem range_it {pins : List (Addr × Obj)} {σ : St} {H : Hp} {s : Shared} {R : It → Hp → Prop} {E : Value → Shared → Prop} {lo hi : Int} {t u v : Tok} {tk : Nat} (I : Inv X pins σ H s) (h1 : -(2 ^ 62) ≤ lo) (h2 : lo < 2 ^ 62) (h3 : -(2 ^ 62) ≤ hi) (h4 : hi < 2 ^ 62)
    (q : R (Itr lo (hi - lo).toNat) H) : wpAny (model X.prog X.w) X.A (pyIter (.ref s.heap.objs.size)) (PIE X pins σ tg R) E { s with heap := s.heap.push { cls := .type "range", data := .fields #[.int lo t, .int hi u, .int 1 v] }, toks := tk } := by
  refine wpAny_pyIter_range (IsRange.new ..) (small_one h1 h2 h3 h4) ?_
  have I1 : Inv X pins σ H { s with heap := s.heap.push { cls := .type "range", data := .fields #[.int lo t, .int hi u, .int 1 v] }, toks := tk } := I.kept fun b o e => Heap.get?_push_of_some _ e
  refine ⟨(s.heap.push { cls := .type "range", data := .fields #[.int lo t, .int hi u, .int 1 v] }).objs.size, [(s.heap.push { cls := .type "range", data := .fields #[.int lo t, .int hi u, .int 1 v] }).objs.size], _, _, H, rfl,
    I1.kept (t' := tk) fun b o e => Heap.get?_push_of_some _ e, turn_range _ lo (hi - lo).toNat, ?_, fun b hb => ?_, q⟩
  · have e1 : lo + ((0 : Nat) : Int) * 1 = lo := by simp
    have e2 : (((hi - lo).toNat : Nat) : Int) - ((0 : Nat) : Int) = Builtin.Range.rangeSize lo hi 1 := by rw [rangeSize_one]; split <;> omega
    show IsRangeIter _ _ (lo + ((0 : Nat) : Int) * 1) ((((hi - lo).toNat : Nat) : Int) - ((0 : Nat) : Int)) 1
    rw [e1, e2]
    exact Heap.get?_push_size _ rfl
  · have e : b = (s.heap.push { cls := .type "range", data := .fields #[.int lo t, .int hi u, .int 1 v] }).objs.size := by simpa using hb
    subst e
    exact I1.fpOk (Nat.le_refl _) (I1.hok.fresh (Nat.le_refl _))
def iRng1 (ta : TA) : TI := fun σ H R => ta σ H fun vs H1 => ∃ j : Int, vs = [.int j] ∧ -(2 ^ 62) ≤ j ∧ j < 2 ^ 62 ∧ R (Itr 0 j.toNat) H1
def iRng2 (ta : TA) : TI := fun σ H R => ta σ H fun vs H1 => ∃ i j : Int, vs = [.int i, .int j] ∧ (-(2 ^ 62) ≤ i ∧ i < 2 ^ 62 ∧ -(2 ^ 62) ≤ j ∧ j < 2 ^ 62) ∧ R (Itr i (j - i).toNat) H1
theorem pi_range2 {a b : Expr} {ta : TA} {p pos : Pos} (hg : Gl X "range") (hm : X.mg "range" = none) (ha : PA X [a, b] ta) (hs : starEach [a, b] X.env = [(false, eval a X.env), (false, eval b X.env)] := by rfl) (hs2 : starEach [b] X.env = [(false, eval b X.env)] := by rfl) :
    PI X tg (.Call (.Name "range" p) [a, b] [] pos) (iRng2 ta) := by
  intro pins s σ H R I h
  refine Call_ (ld_blt I hg hm boot_range (PyProof.Rows.callWith_type1 (thn (ha pos pins s σ H _ I h) fun us s1 ⟨vs, H1, I1, r1, q1⟩ => ?_) (by rw [hs, hs2]) (by rw [hs2]; rfl)))
  obtain ⟨i, j, e, ⟨q1, q2, q3, q4⟩, q⟩ := q1
  subst e
  cases r1 with
  | cons r rr =>
    cases rr with
    | cons r' rr =>
      cases rr
      obtain ⟨t, rfl⟩ := r
      obtain ⟨t', rfl⟩ := r'
      exact call_range_2 (range_it I1 q1 q2 q3 q4 q)
def tFor (wi : TI) (g : TG) (tb : TS) : TS := fun D σ H => wi σ H fun J H1 => ∃ W : Nat → Nat → St → Hp → Prop, (∃ m, W 0 m σ H1) ∧ ∀ i m σ H, W i m σ H →
  (J.stop i H ∧ D.nx σ H) ∨ (J.go i H ∧ ∃ N : St → Hp → Prop, (∀ σ' H', N σ' H' → ∃ m', m' < m ∧ W (i + 1) m' σ' H') ∧ ∀ x H', J.yld i H x H' → g x σ H' fun σ2 H2 => tb { D with nx := N, ct := N, bk := D.nx } σ2 H2)
def pinsAt (fp : List Addr) (h : Heap) : List (Addr × Obj) := fp.filterMap fun b => (h.get? b).map fun o => (b, o)
theorem mem_pinsAt {fp : List Addr} {h : Heap} {b : Addr} {o : Obj} (hb : b ∈ fp) (e : h.get? b = some o) : (b, o) ∈ pinsAt fp h := List.mem_filterMap.mpr ⟨b, hb, by rw [e]; rfl⟩
theorem of_pinsAt {fp : List Addr} {h : Heap} {p : Addr × Obj} (hp : p ∈ pinsAt fp h) : p.1 ∈ fp ∧ h.get? p.1 = some p.2 := by
  obtain ⟨b, hb, e⟩ := List.mem_filterMap.mp hp
  cases q : h.get? b with
  | none => rw [q] at e; cases e
  | some o =>
    rw [q] at e
    have e' : (b, o) = p := Option.some.inj e
    subst e'
    exact ⟨hb, q⟩
theorem Inv.pinned {pins : List (Addr × Obj)} {σ : St} {H : Hp} {s : Shared} {fp : List Addr} (I : Inv X pins σ H s) (hf : ∀ b ∈ fp, FpOk X pins H b) (ho : ∀ b ∈ fp, ∃ o, s.heap.get? b = some o ∧ ∀ v, o.data ≠ .cell v) : Inv X (pins ++ pinsAt fp s.heap) σ H s :=
  I.pins_of fun p hp => (List.mem_append.mp hp).elim (fun z => I.pin p (List.mem_append_right _ z)) fun z => by
    obtain ⟨hb, e⟩ := of_pinsAt z
    obtain ⟨f0, f1, f2, _⟩ := hf p.1 hb
    obtain ⟨o, e', d⟩ := ho p.1 hb
    rw [e] at e'; cases e'
    exact ⟨e, f0, f1, f2, d⟩
theorem Inv.unpinned {pins pl : List (Addr × Obj)} {σ : St} {H : Hp} {s : Shared} (I : Inv X (pins ++ pl) σ H s) : Inv X pins σ H s := I.pins_of fun p hp => I.pin p (List.mem_append_right _ (List.mem_append_left _ hp))
theorem ps_for {iter : Expr} {body : List Stmt} {wi : TI} {g : TG} {tb : TS} {pos : Pos} (hp : PassesOwn (model X.prog X.w) X.A X.env X.xe) (hc : X.calm = true) (hi : PI X tg iter wi) (hg : PG X tg g) (hb : PSs X body tb)
    (hs : ∀ x, foldedSetIterable iter X.env x = pure x := by intro _; rfl) : PS X (.For tg iter body [] pos) (tFor wi g tb) := by
  intro pins s σ H D I h
  refine wpAny_For (thn (hi pins s σ H _ I h) fun v s1 h1 => thn h1 fun itv s2 h2 => ?_) hs
  obtain ⟨it, fp, tn, J, H2, e, I2, T, st2, f2, W, ⟨m0, w0⟩, turn⟩ := h2
  subst e
  have stat : ∀ {H' : Hp}, (∀ b ∈ fp, H' b = none) → ∀ b ∈ fp, FpOk X pins H' b := fun hn b hb => ⟨hn b hb, (f2 b hb).2⟩
  refine codeAny_forLoop_any (fun n s' => ∃ i σ' H', Inv X pins σ' H' s' ∧ tn i s'.heap ∧ (∀ b ∈ fp, H' b = none) ∧ W i n σ' H') ?_ m0 ⟨0, σ, H2, I2, st2, fun b hb => (f2 b hb).1, w0⟩
  rintro n s3 ⟨i, σ3, H3, I3, st3, fr3, w3⟩
  rcases turn i n σ3 H3 w3 with ⟨stop, qn⟩ | ⟨go, N, hN, step⟩
  · refine wpAny_passesOwn hp (thn (T.done X rfl rfl rfl hc i pins s3 σ3 H3 X.xe I3 (stat fr3) st3 stop) fun r s4 ⟨hr, I4⟩ => ?_)
    subst hr
    exact wpAny_execs_nil ⟨σ3, H3, I4, qn⟩
  · refine wpAny_passesOwn hp (thn (T.item X rfl rfl rfl hc i pins s3 σ3 H3 X.xe I3 (stat fr3) st3 go) fun r s4 ⟨u, hr, h4⟩ => ?_)
    subst hr
    refine wpAny_passesOwn hp (thn h4 fun _ s5 ⟨x, H5, I5, r5, y5, st5, fr5⟩ => ?_)
    have I5' := I5.pinned (stat fr5) (T.obj _ _ st5)
    refine wpAny_passesOwn hp (thn (hg _ s5 σ3 H5 x u _ I5' r5 (step x H5 y5)) fun _ s6 ⟨σ6, H6, I6, q6⟩ => ?_)
    refine wpAny_passesOwn hp (thn (hb _ s6 σ6 H6 _ I6 q6) fun f s7 q7 => ?_)
    have again : ∀ {σ7 : St} {H7 : Hp}, Inv X (pins ++ pinsAt fp s5.heap) σ7 H7 s7 → N σ7 H7 → ∃ m, m < n ∧ ∃ i σ' H', Inv X pins σ' H' s7 ∧ tn i s7.heap ∧ (∀ b ∈ fp, H' b = none) ∧ W i m σ' H' := fun {σ7 H7} I7 n7 => by
      obtain ⟨m', hm, w7⟩ := hN σ7 H7 n7
      refine ⟨m', hm, i + 1, σ7, H7, I7.unpinned, T.keep _ _ _ st5 fun b hb o e => (I7.pin (b, o) (List.mem_append_right _ (List.mem_append_right _ (mem_pinsAt hb e)))).1, fun b hb => ?_, w7⟩
      obtain ⟨o, e, d⟩ := T.obj _ _ st5 b hb
      exact (I7.pin (b, o) (List.mem_append_right _ (List.mem_append_right _ (mem_pinsAt hb e)))).2.1
    cases f with
    | next => obtain ⟨σ7, H7, I7, n7⟩ := q7; exact again I7 n7
    | cont => obtain ⟨σ7, H7, I7, n7⟩ := q7; exact again I7 n7
    | brk => obtain ⟨σ7, H7, I7, q7⟩ := q7; exact ⟨σ7, H7, I7.unpinned, q7⟩
    | ret v => obtain ⟨x7, σ7, H7, I7, r7, q7⟩ := q7; exact ⟨x7, σ7, H7, I7.unpinned, r7, q7⟩
end
theorem for_list {K : PySem.W.Frag} {a : Addr} {xs : List V} {g : TG} {tb : TS} {D : Ends} {σ : St} {H : Hp} (Pv : Nat → St → Hp → Prop) (h0 : Pv 0 σ H) (hl : ∀ i σ H, i ≤ xs.length → Pv i σ H → SqL K H a xs)
    (hs : ∀ i x σ H, xs[i]? = some x → Pv i σ H → g x σ H fun σ2 H2 => tb { D with nx := Pv (i + 1), ct := Pv (i + 1), bk := D.nx } σ2 H2) (hd : ∀ σ H, Pv xs.length σ H → D.nx σ H) :
    ∃ W : Nat → Nat → St → Hp → Prop, (∃ m, W 0 m σ H) ∧ ∀ i m σ H, W i m σ H →
      ((Itl K a).stop i H ∧ D.nx σ H) ∨ ((Itl K a).go i H ∧ ∃ N : St → Hp → Prop, (∀ σ' H', N σ' H' → ∃ m', m' < m ∧ W (i + 1) m' σ' H') ∧ ∀ x H', (Itl K a).yld i H x H' → g x σ H' fun σ2 H2 => tb { D with nx := N, ct := N, bk := D.nx } σ2 H2) := by
  refine ⟨fun i m σ H => m = xs.length - i ∧ i ≤ xs.length ∧ Pv i σ H, ⟨xs.length, by simp, Nat.zero_le _, h0⟩, ?_⟩
  rintro i m σ H ⟨rfl, hi, p⟩
  have q := hl i σ H hi p
  by_cases hlt : i < xs.length
  · refine .inr ⟨⟨xs, xs[i], q, by simp [hlt]⟩, Pv (i + 1), fun σ' H' p' => ⟨xs.length - (i + 1), by omega, rfl, hlt, p'⟩, fun x H' y => ?_⟩
    obtain ⟨e, y⟩ := y
    subst e
    exact hs i x σ _ (y xs q) p
  · have e : i = xs.length := by omega
    subst e
    exact .inl ⟨⟨xs, q, Nat.le_refl _⟩, hd σ H p⟩
theorem for_range {lo : Int} {n : Nat} {g : TG} {tb : TS} {D : Ends} {σ : St} {H : Hp} (Pv : Nat → St → Hp → Prop) (h0 : Pv 0 σ H)
    (hs : ∀ i σ H, i < n → Pv i σ H → g (.int (lo + i)) σ H fun σ2 H2 => tb { D with nx := Pv (i + 1), ct := Pv (i + 1), bk := D.nx } σ2 H2) (hd : ∀ σ H, Pv n σ H → D.nx σ H) :
    ∃ W : Nat → Nat → St → Hp → Prop, (∃ m, W 0 m σ H) ∧ ∀ i m σ H, W i m σ H →
      ((Itr lo n).stop i H ∧ D.nx σ H) ∨ ((Itr lo n).go i H ∧ ∃ N : St → Hp → Prop, (∀ σ' H', N σ' H' → ∃ m', m' < m ∧ W (i + 1) m' σ' H') ∧ ∀ x H', (Itr lo n).yld i H x H' → g x σ H' fun σ2 H2 => tb { D with nx := N, ct := N, bk := D.nx } σ2 H2) := by
  refine ⟨fun i m σ H => m = n - i ∧ i ≤ n ∧ Pv i σ H, ⟨n, by simp, Nat.zero_le _, h0⟩, ?_⟩
  rintro i m σ H ⟨rfl, hi, p⟩
  by_cases hlt : i < n
  · refine .inr ⟨hlt, Pv (i + 1), fun σ' H' p' => ⟨n - (i + 1), by omega, rfl, hlt, p'⟩, fun x H' y => ?_⟩
    obtain ⟨e, y⟩ := y
    subst e y
    exact hs i σ _ hlt p
  · have e : i = n := by omega
    subst e
    exact .inl ⟨Nat.le_refl _, hd σ H p⟩
theorem while_by {c : TT} {tb : TS} {D : Ends} {σ : St} {H : Hp} (Pv : St → Hp → Prop) (μ : St → Hp → Nat) (h0 : Pv σ H)
    (hs : ∀ σ H, Pv σ H → c σ H fun b H1 => if b = true then tb { D with nx := fun σ' H' => Pv σ' H' ∧ μ σ' H' < μ σ H, ct := fun σ' H' => Pv σ' H' ∧ μ σ' H' < μ σ H, bk := D.nx } σ H1 else D.nx σ H1)
    (mono : ∀ σ H Q Q', (∀ b H1, Q b H1 → Q' b H1) → c σ H Q → c σ H Q') : tWhile c tb D σ H := by
  refine ⟨fun m σ H => m = μ σ H ∧ Pv σ H, ⟨_, rfl, h0⟩, ?_⟩
  rintro m σ H ⟨rfl, p⟩
  refine mono σ H _ _ (fun b H1 q => ?_) (hs σ H p)
  cases b with
  | true => exact ⟨_, fun σ' H' ⟨p', l⟩ => ⟨_, l, rfl, p'⟩, q⟩
  | false => exact q
end L2
namespace L2
open PySem PySem.Spec PyProof.Rows
abbrev R2 := V → V → Hp → VK → Prop
def OpR (X : Cx) (f : Value → Value → Sem Value) (r : R2) : Prop :=
  ∀ (pins : List (Addr × Obj)) (s : Shared) (σ : St) (H : Hp) (x y : V) (v u : Value) (Q : VK), Inv X pins σ H s → RelV x v → RelV y u → r x y H Q →
    wpAny (model X.prog X.w) X.A (f v u) (EP X pins σ Q) X.xe s
def UnR (X : Cx) (f : Value → Sem Value) (r : V → Hp → VK → Prop) : Prop :=
  ∀ (pins : List (Addr × Obj)) (s : Shared) (σ : St) (H : Hp) (x : V) (v : Value) (Q : VK), Inv X pins σ H s → RelV x v → r x H Q →
    wpAny (model X.prog X.w) X.A (f v) (EP X pins σ Q) X.xe s
def CallR (X : Cx) (f : Value) (r : List V → Hp → VK → Prop) : Prop :=
  ∀ (pins : List (Addr × Obj)) (s : Shared) (σ : St) (H : Hp) (xs : List V) (us : List Value) (Q : VK), Inv X pins σ H s → Vals xs us → r xs H Q →
    wpAny (model X.prog X.w) X.A (call f us) (EP X pins σ Q) X.xe s
def tOp (r : R2) (ta tb : TE) : TE := fun σ H Q => ta σ H fun x H1 => tb σ H1 fun y H2 => r x y H2 Q
def tUn (r : V → Hp → VK → Prop) (ta : TE) : TE := fun σ H Q => ta σ H fun x H1 => r x H1 Q
def rI (C : Int → Int → Prop) (g : Int → Int → V) : R2 := fun x y H Q => ∃ i j, x = .int i ∧ y = .int j ∧ C i j ∧ Q (g i j) H
def rI0 (g : Int → Int → V) : R2 := fun x y H Q => ∃ i j, x = .int i ∧ y = .int j ∧ Q (g i j) H
def rU (g : Int → V) : V → Hp → VK → Prop := fun x H Q => ∃ i, x = .int i ∧ Q (g i) H
section
variable {X : Cx} {a b c : Expr} {ta tb tc : TE} {pos : Pos}
theorem binT (ha : PE X a ta) (hb : PE X b tb) {pins : List (Addr × Obj)} {s : Shared} {σ : St} {H : Hp} {R : V → V → Hp → Prop} (I : Inv X pins σ H s)
    (h : ta σ H fun x H1 => tb σ H1 fun y H2 => R x y H2) {Q : Value → Shared → Prop} {f : Value → Value → Sem Value}
    (hf : ∀ v u s2 x y H2, Inv X pins σ H2 s2 → RelV x v → RelV y u → R x y H2 → wpAny (model X.prog X.w) X.A (f v u) Q X.xe s2) :
    wpAny (model X.prog X.w) X.A (eval a X.env) (fun v s₁ => wpAny (model X.prog X.w) X.A (eval b X.env) (fun u s₂ => wpAny (model X.prog X.w) X.A (f v u) Q X.xe s₂) X.xe s₁) X.xe s := by
  refine thn (ha pins s σ H _ I h) fun v s1 ⟨x, H1, I1, r1, q1⟩ => ?_
  refine thn (hb pins s1 σ H1 _ I1 q1) fun u s2 ⟨y, H2, I2, r2, q2⟩ => ?_
  exact hf v u s2 x y H2 I2 r1 r2 q2
theorem pe_op {op : Operator} {r : R2} (ho : OpR X (binaryOp op) r) (ha : PE X a ta) (hb : PE X b tb) : PE X (.BinOp a op b pos) (tOp r ta tb) := by
  intro pins s σ H Q I h
  exact wpAny_BinOp (binT ha hb I h fun v u s2 x y H2 I2 rx ry q => ho pins s2 σ H2 x y v u Q I2 rx ry q)
theorem pe_un {op : UnaryOp} {r : V → Hp → VK → Prop} (ho : UnR X (unaryOp op) r) (ha : PE X a ta) : PE X (.UnaryOp op a pos) (tUn r ta) := by
  intro pins s σ H Q I h
  exact UnaryOp_ (thn (ha pins s σ H _ I h) fun v s1 ⟨x, H1, I1, r1, q1⟩ => ho pins s1 σ H1 x v Q I1 r1 q1)
theorem opI {f : Value → Value → Sem Value} {C : Int → Int → Prop} {g : Int → Int → Int}
    (rule : ∀ (i j : Int) (t u : Tok) (s : Shared) (Q : Value → Shared → Prop) (E : Value → Shared → Prop), C i j → Q (.int (g i j) s.toks) { s with toks := s.toks + 1 } → wpAny (model X.prog X.w) X.A (f (.int i t) (.int j u)) Q E s) :
    OpR X f (rI C fun i j => .int (g i j)) := by
  intro pins s σ H x y v u Q I rx ry h
  obtain ⟨i, j, rfl, rfl, hc, q⟩ := h
  obtain ⟨t, rfl⟩ := rx
  obtain ⟨t', rfl⟩ := ry
  exact rule i j t t' s _ _ hc ⟨.int (g i j), H, I.tok _, ⟨_, rfl⟩, q⟩
theorem opI0 {f : Value → Value → Sem Value} {g : Int → Int → Int}
    (rule : ∀ (i j : Int) (t u : Tok) (s : Shared) (Q : Value → Shared → Prop) (E : Value → Shared → Prop), Q (.int (g i j) s.toks) { s with toks := s.toks + 1 } → wpAny (model X.prog X.w) X.A (f (.int i t) (.int j u)) Q E s) :
    OpR X f (rI0 fun i j => .int (g i j)) := by
  intro pins s σ H x y v u Q I rx ry h
  obtain ⟨i, j, rfl, rfl, q⟩ := h
  obtain ⟨t, rfl⟩ := rx
  obtain ⟨t', rfl⟩ := ry
  exact rule i j t t' s _ _ ⟨.int (g i j), H, I.tok _, ⟨_, rfl⟩, q⟩
theorem opB0 {f : Value → Value → Sem Value} {g : Int → Int → Bool}
    (rule : ∀ (i j : Int) (t u : Tok) (s : Shared) (Q : Value → Shared → Prop) (E : Value → Shared → Prop), Q (.bool (g i j)) s → wpAny (model X.prog X.w) X.A (f (.int i t) (.int j u)) Q E s) :
    OpR X f (rI0 fun i j => .bl (g i j)) := by
  intro pins s σ H x y v u Q I rx ry h
  obtain ⟨i, j, rfl, rfl, q⟩ := h
  obtain ⟨t, rfl⟩ := rx
  obtain ⟨t', rfl⟩ := ry
  exact rule i j t t' s _ _ ⟨.bl (g i j), H, I, rfl, q⟩
def CDiv (i j : Int) : Prop := 0 < j ∧ j < 1073741824
def CMul (i j : Int) : Prop := (-(2 ^ 64) < i ∧ i < 2 ^ 64) ∨ (-(2 ^ 64) < j ∧ j < 2 ^ 64)
theorem CMul.ok {i j : Int} (h : CMul i j) : IntMulOk i j := by
  rcases h with ⟨h1, h2⟩ | ⟨h1, h2⟩
  · exact .of_left (intBits_le_64 h1 h2)
  · exact .of_right (intBits_le_64 h1 h2)
theorem op_add : OpR X (binaryOp .Add) (rI0 fun i j => .int (i + j)) := opI0 fun _ _ _ _ _ _ _ q => add_int q
theorem op_sub : OpR X (binaryOp .Sub) (rI0 fun i j => .int (i - j)) := opI0 fun _ _ _ _ _ _ _ q => sub_int q
theorem op_fdiv : OpR X (binaryOp .FloorDiv) (rI CDiv fun i j => .int (i / j)) := opI fun i j _ _ _ _ _ hc q => by
  have h1 : (0 : Int) < j := hc.1
  have h2 : j < 1073741824 := hc.2
  exact floordiv_int (by omega) (by rw [Int.fdiv_eq_ediv_of_nonneg i (by omega)]; exact q) (.inl (PyProof.noPylong_small (by omega)))
theorem op_mod : OpR X (binaryOp .Mod) (rI (fun _ j => 0 < j) fun i j => .int (i % j)) := opI fun i j _ _ _ _ _ hc q => by
  have h1 : (0 : Int) < j := hc
  exact mod_int' (by omega) (by rw [Int.fmod_eq_emod_of_nonneg i (by omega)]; exact q)
theorem unI {f : Value → Sem Value} {g : Int → Int}
    (rule : ∀ (i : Int) (t : Tok) (s : Shared) (Q : Value → Shared → Prop) (E : Value → Shared → Prop), Q (.int (g i) s.toks) { s with toks := s.toks + 1 } → wpAny (model X.prog X.w) X.A (f (.int i t)) Q E s) :
    UnR X f (rU fun i => .int (g i)) := by
  intro pins s σ H x v Q I rx h
  obtain ⟨i, rfl, q⟩ := h
  obtain ⟨t, rfl⟩ := rx
  exact rule i t s _ _ ⟨.int (g i), H, I.tok _, ⟨_, rfl⟩, q⟩
theorem un_neg : UnR X (unaryOp .USub) (rU fun i => .int (-i)) := unI fun _ _ _ _ _ q => neg_int q
end
def scal : V → V → Bool
  | .non, .non => true | .non, .int _ => true | .int _, .non => true | .non, .bl _ => true | .bl _, .non => true | .non, .str _ => true | .str _, .non => true
  | .int _, .int _ => true | .bl _, .bl _ => true | .str _, .str _ => true | .byt _, .byt _ => true
  | .int _, .str _ => true | .str _, .int _ => true | .bl _, .str _ => true | .str _, .bl _ => true
  | _, _ => false
def rEq : R2 := fun x y H Q => scal x y = true ∧ Q (.bl (decide (x = y))) H
def rNe : R2 := fun x y H Q => scal x y = true ∧ Q (.bl (!decide (x = y))) H
theorem dec_int {i j : Int} : decide (V.int i = V.int j) = (i == j) := by
  rw [Bool.eq_iff_iff]
  simp
theorem dec_bl {i j : Bool} : decide (V.bl i = V.bl j) = (i == j) := by
  rw [Bool.eq_iff_iff]
  simp
theorem dec_str {i j : Str} : decide (V.str i = V.str j) = (i == j) := by
  rw [Bool.eq_iff_iff]
  simp
theorem dec_byt {i j : Array UInt8} : decide (V.byt i = V.byt j) = (i.toList == j.toList) := by
  rw [Bool.eq_iff_iff]
  cases i
  cases j
  simp
section
variable {X : Cx} {a b c : Expr} {ta tb tc : TE} {pos : Pos}
theorem fin_bl {pins : List (Addr × Obj)} {σ : St} {H : Hp} {s : Shared} {Q : VK} {k k' : Bool} (I : Inv X pins σ H s) (q : Q (.bl k) H) (e : k = k') : EP X pins σ Q (.bool k') s := by
  subst e
  exact ⟨.bl k, H, I, rfl, q⟩
theorem op_eq : OpR X (compareOp .Eq) rEq := by
  intro pins s σ H x y v u Q I rx ry h
  obtain ⟨hs, q⟩ := h
  cases x with
  | non =>
    cases rx
    cases y with
    | non => cases ry; exact PySem.EqNone.eq_none_none (fin_bl I q (by simp))
    | bl j => cases ry; exact PySem.EqNone.eq_none_bool (fin_bl I q (by simp))
    | int j => obtain ⟨t', rfl⟩ := ry; exact PySem.EqNone.eq_none_int (fin_bl I q (by simp))
    | str j => obtain ⟨t', rfl⟩ := ry; exact PySem.EqNone.eq_none_str (fin_bl I q (by simp))
    | _ => exact absurd (show false = true from hs) Bool.false_ne_true
  | bl i =>
    cases rx
    cases y with
    | non => cases ry; exact PySem.EqNone.eq_bool_none (fin_bl I q (by simp))
    | bl j => cases ry; exact eq_bool (fin_bl I q dec_bl)
    | str j => obtain ⟨t', rfl⟩ := ry; exact PySem.EqMixed.eq_bool_str (fin_bl I q (by simp))
    | _ => exact absurd (show false = true from hs) Bool.false_ne_true
  | int i =>
    obtain ⟨t, rfl⟩ := rx
    cases y with
    | non => cases ry; exact PySem.EqNone.eq_int_none (fin_bl I q (by simp))
    | int j => obtain ⟨t', rfl⟩ := ry; exact eq_int (fin_bl I q dec_int)
    | str j => obtain ⟨t', rfl⟩ := ry; exact PySem.EqMixed.eq_int_str (fin_bl I q (by simp))
    | _ => exact absurd (show false = true from hs) Bool.false_ne_true
  | str i =>
    obtain ⟨t, rfl⟩ := rx
    cases y with
    | non => cases ry; exact PySem.EqNone.eq_str_none (fin_bl I q (by simp))
    | bl j => cases ry; exact PySem.EqMixed.eq_str_bool (fin_bl I q (by simp))
    | int j => obtain ⟨t', rfl⟩ := ry; exact PySem.EqMixed.eq_str_int (fin_bl I q (by simp))
    | str j => obtain ⟨t', rfl⟩ := ry; exact eq_str (fin_bl I q dec_str)
    | _ => exact absurd (show false = true from hs) Bool.false_ne_true
  | byt i =>
    obtain ⟨t, rfl⟩ := rx
    cases y with
    | byt j => obtain ⟨t', rfl⟩ := ry; exact PySem.W.eq_bytes (fin_bl I q dec_byt)
    | _ => exact absurd (show false = true from hs) Bool.false_ne_true
  | _ => cases y <;> exact absurd (show false = true from hs) Bool.false_ne_true
theorem op_ne : OpR X (compareOp .NotEq) rNe := by
  intro pins s σ H x y v u Q I rx ry h
  obtain ⟨hs, q⟩ := h
  cases x with
  | non =>
    cases rx
    cases y with
    | non => cases ry; exact PySem.EqNone.ne_none_none (fin_bl I q (by simp))
    | bl j => cases ry; exact PySem.EqNone.ne_none_bool (fin_bl I q (by simp))
    | int j => obtain ⟨t', rfl⟩ := ry; exact PySem.EqNone.ne_none_int (fin_bl I q (by simp))
    | str j => obtain ⟨t', rfl⟩ := ry; exact PySem.EqNone.ne_none_str (fin_bl I q (by simp))
    | _ => exact absurd (show false = true from hs) Bool.false_ne_true
  | bl i =>
    cases rx
    cases y with
    | non => cases ry; exact PySem.EqNone.ne_bool_none (fin_bl I q (by simp))
    | bl j => cases ry; exact ne_bool (fin_bl I q (congrArg not dec_bl))
    | str j => obtain ⟨t', rfl⟩ := ry; exact PySem.EqMixed.ne_bool_str (fin_bl I q (by simp))
    | _ => exact absurd (show false = true from hs) Bool.false_ne_true
  | int i =>
    obtain ⟨t, rfl⟩ := rx
    cases y with
    | non => cases ry; exact PySem.EqNone.ne_int_none (fin_bl I q (by simp))
    | int j => obtain ⟨t', rfl⟩ := ry; exact ne_int (fin_bl I q (congrArg not dec_int))
    | str j => obtain ⟨t', rfl⟩ := ry; exact PySem.EqMixed.ne_int_str (fin_bl I q (by simp))
    | _ => exact absurd (show false = true from hs) Bool.false_ne_true
  | str i =>
    obtain ⟨t, rfl⟩ := rx
    cases y with
    | non => cases ry; exact PySem.EqNone.ne_str_none (fin_bl I q (by simp))
    | bl j => cases ry; exact PySem.EqMixed.ne_str_bool (fin_bl I q (by simp))
    | int j => obtain ⟨t', rfl⟩ := ry; exact PySem.EqMixed.ne_str_int (fin_bl I q (by simp))
    | str j => obtain ⟨t', rfl⟩ := ry; exact ne_str (fin_bl I q (congrArg not dec_str))
    | _ => exact absurd (show false = true from hs) Bool.false_ne_true
  | byt i =>
    obtain ⟨t, rfl⟩ := rx
    cases y with
    | byt j => obtain ⟨t', rfl⟩ := ry; exact PySem.W.ne_bytes (fin_bl I q (congrArg not dec_byt))
    | _ => exact absurd (show false = true from hs) Bool.false_ne_true
  | _ => cases y <;> exact absurd (show false = true from hs) Bool.false_ne_true
theorem op_lt : OpR X (compareOp .Lt) (rI0 fun i j => .bl (decide (i < j))) := opB0 fun _ _ _ _ _ _ _ q => lt_int q
theorem op_le : OpR X (compareOp .LtE) (rI0 fun i j => .bl (decide (i ≤ j))) := opB0 fun _ _ _ _ _ _ _ q => le_int q
theorem op_gt : OpR X (compareOp .Gt) (rI0 fun i j => .bl (decide (j < i))) := opB0 fun _ _ _ _ _ _ _ q => gt_int q
theorem op_ge : OpR X (compareOp .GtE) (rI0 fun i j => .bl (decide (j ≤ i))) := opB0 fun _ _ _ _ _ _ _ q => ge_int q
theorem nomark (b : Expr) {op : CmpOp} (h : op ≠ .In := by decide) (h2 : op ≠ .NotIn := by decide) : behindInMarks op b = false := by
  have e1 : (op == CmpOp.In) = false := by cases op <;> first | rfl | exact absurd rfl h
  have e2 : (op == CmpOp.NotIn) = false := by cases op <;> first | rfl | exact absurd rfl h2
  cases b <;> simp [behindInMarks, e1, e2]
theorem pe_cmpR {op : CmpOp} {r : R2} (ho : OpR X (compareOp op) r) (ha : PE X a ta) (hb : PE X b tb) (hm : behindInMarks op b = false) : PE X (.Compare a [op] [b] pos) (tOp r ta tb) := by
  intro pins s σ H Q I h
  exact wpAny_Compare1 (binT ha hb I h fun v u s2 x y H2 I2 rx ry q => ho pins s2 σ H2 x y v u Q I2 rx ry q) hm
def tTest (t : TE) : TT := fun σ H Q => t σ H fun x H' => ∃ k, x = .bl k ∧ Q k H'
theorem pt_cmpR {op : CmpOp} {r : R2} (ho : OpR X (compareOp op) r) (ha : PE X a ta) (hb : PE X b tb) (hm : behindInMarks op b = false) : PT X (.Compare a [op] [b] pos) (tTest (tOp r ta tb)) := by
  intro pins s σ H Q I h
  refine wpAny_isTrue_Compare1 (thn (ha pins s σ H _ I h) fun v s1 ⟨x, H1, I1, r1, q1⟩ => thn (hb pins s1 σ H1 _ I1 q1) fun u s2 ⟨y, H2, I2, r2, q2⟩ =>
    thn (ho pins s2 σ H2 x y v u _ I2 r1 r2 q2) fun c s3 ⟨z, H3, I3, r3, k, e, q3⟩ => ?_) hm
  subst e
  cases r3
  exact wpAny_truthy_bool ⟨H3, I3, q3⟩
def tChain (r r' : R2) (ta tb tc : TE) : TE := fun σ H Q => ta σ H fun x H1 => tb σ H1 fun y H2 => r x y H2 fun z H3 => ∃ k, z = .bl k ∧
  (if k = true then tc σ H3 fun w' H4 => r' y w' H4 Q else Q (.bl false) H3)
theorem line63 : (sizeLine : Nat) < 2 ^ 63 := by rw [sizeLine_eq]; decide
theorem vals1 {x : V} {us : List Value} (r : Vals [x] us) : ∃ u, us = [u] ∧ RelV x u := by
  cases r with
  | cons r1 r2 => cases r2; exact ⟨_, rfl, r1⟩
theorem vals2 {x y : V} {us : List Value} (r : Vals [x, y] us) : ∃ u w', us = [u, w'] ∧ RelV x u ∧ RelV y w' := by
  cases r with
  | cons r1 r2 =>
    cases r2 with
    | cons r3 r4 => cases r4; exact ⟨_, _, rfl, r1, r3⟩
theorem call_abs : CallR X (.builtin "abs") (fun xs H Q => ∃ i, xs = [.int i] ∧ Q (.int (if i < 0 then -i else i)) H) := by
  intro pins s σ H xs us Q I r h
  obtain ⟨i, rfl, q⟩ := h
  obtain ⟨u, rfl, t, rfl⟩ := vals1 r
  exact call_abs_int fun u tk => ⟨.int (if i < 0 then -i else i), H, I.tok _, ⟨_, rfl⟩, q⟩
theorem call_max2 (hc : X.calm = true) : CallR X (.builtin "max") (fun xs H Q => ∃ i j, xs = [.int i, .int j] ∧ Q (.int (if j > i then j else i)) H) := by
  intro pins s σ H xs us Q I r h
  obtain ⟨i, j, rfl, q⟩ := h
  obtain ⟨u, w', rfl, ⟨t, rfl⟩, ⟨t', rfl⟩⟩ := vals2 r
  refine max_two_ints (I.ok.hd hc) fun h' tk k => ⟨_, H, I.kept k, ?_, q⟩
  by_cases hj : j > i
  · rw [if_pos hj, if_pos hj]; exact ⟨_, rfl⟩
  · rw [if_neg hj, if_neg hj]; exact ⟨_, rfl⟩
theorem call_min2 (hc : X.calm = true) : CallR X (.builtin "min") (fun xs H Q => ∃ i j, xs = [.int i, .int j] ∧ Q (.int (if j < i then j else i)) H) := by
  intro pins s σ H xs us Q I r h
  obtain ⟨i, j, rfl, q⟩ := h
  obtain ⟨u, w', rfl, ⟨t, rfl⟩, ⟨t', rfl⟩⟩ := vals2 r
  refine min_two_ints (I.ok.hd hc) fun h' tk k => ⟨_, H, I.kept k, ?_, q⟩
  by_cases hj : j < i
  · rw [if_pos hj, if_pos hj]; exact ⟨_, rfl⟩
  · rw [if_neg hj, if_neg hj]; exact ⟨_, rfl⟩
end
end L2
namespace L2
open PySem PySem.Spec PyProof.Rows
structure ObjM (h : Heap) (x dx C : Addr) (mA : Str → Option Value) : Prop where
  obj : h.get? x = some (PySem.W.instObj C dx)
  ns : h.Ns1 dx mA
  ne : dx ≠ x
theorem lookIn_ns {h : Heap} {dx : Addr} {mA : Str → Option Value} (n : h.Ns1 dx mA) : ∃ od, h.get? dx = some od ∧ ∀ name, PySem.W.lookIn name od = some (mA name) := by
  obtain ⟨o, es, ep, ho, hd, hk, _, hm⟩ := n
  refine ⟨o, ho, fun name => ?_⟩
  have e := hm name
  unfold nsFind findBy at e
  rw [← Array.find?_toList] at e
  unfold PySem.W.lookIn
  rw [hd]
  dsimp only
  split
  · rename_i y q
    rw [q] at e
    exact congrArg some e
  · rename_i q
    rw [q] at e
    have a : es.toList.any (·.refKey) = false := by
      rw [List.any_eq_false]
      intro y hy
      obtain ⟨z, t, hkey⟩ := hk y (Array.mem_toList_iff.mp hy)
      simp [DictEntry.refKey, hkey]
    have a' : ¬ es.toList.any (·.refKey) = true := by rw [a]; exact Bool.false_ne_true
    rw [if_neg a']
    exact congrArg some e
theorem ObjM.look {h : Heap} {x dx C : Addr} {mA : Str → Option Value} (I : ObjM h x dx C mA) : ∃ od, PySem.W.InstAt h x (PySem.W.instObj C dx) C (some od) ∧ ∀ name, PySem.W.lookIn name od = some (mA name) :=
  let ⟨od, ho, hl⟩ := lookIn_ns I.ns
  ⟨od, ⟨I.obj, rfl, rfl, ho⟩, hl⟩
section
variable {prog : Program} {w : World} {A : Around} {E : Value → Shared → Prop} {s : Shared} {K : PySem.W.Frag} {x dx C f : Addr} {mA : Str → Option Value} {name : Str} {v : Value}
theorem get_map {expr : Bool} {Q : Value → Shared → Prop} (X : K.In s.heap) (I : ObjM s.heap x dx C mA) (hg : PySem.W.plainGet K C name = true) (hh : PySem.W.hasDictIn K C = true)
    (ha : PySem.W.findIn K (.ref C) name = some none) (hv : mA name = some v) (hv' : PySem.W.handedIn v = true) (h : Q v { s with toks := s.toks + 1 }) :
    wpAny (model prog w) A (getAttr (.ref x) name expr) Q E s := by
  obtain ⟨od, J, hl⟩ := I.look
  exact PySem.W.get_value X J (PySem.W.plainGet_of hg).1 (PySem.W.findObj_own hh ha rfl (by rw [hl, hv])) hv' h
theorem get_meth {pl : Sem Bool} {Q : Value × List Value → Shared → Prop} (X : K.In s.heap) (I : ObjM s.heap x dx C mA) (hg : PySem.W.plainGet K C name = true)
    (hf : PySem.W.findIn K (.ref C) name = some (some (.ref f))) (ht : PySem.W.isFn K (.ref f) = true) (hv : mA name = none) (h : Q (.ref f, [.ref x]) s) :
    wpAny (model prog w) A (getMethod (.ref x) name pl) Q E s := by
  obtain ⟨od, J, hl⟩ := I.look
  exact PySem.W.method_fn X J (PySem.W.plainGet_of hg).1 (PySem.W.plainGet_of hg).2 hf (beq_iff_eq.mp ht) (by show (PySem.W.lookIn name od).map (·.isSome) = some false; rw [hl, hv]; rfl) h
theorem set_map {ns : List Str} {Q : Unit → Shared → Prop} (X : K.In s.heap) (I : ObjM s.heap x dx C mA)
    (hs : PySem.W.findIn K (.ref C) "__setattr__" = some (some (.builtin "object.__setattr__"))) (hp : PySem.W.plainOver K C = true) (ht : PySem.W.takerIn K C name = some none) (hh : PySem.W.hasDictIn K C = true)
    (hw : PySem.Within mA ns) (hsz : ns.length ≤ sizeLine)
    (h : ∀ h', ObjM h' x dx C (fun y => if y = name then some v else mA y) → Heap.SameBut dx s.heap h' → Q () { s with heap := h', toks := s.toks + 2 }) :
    wpAny (model prog w) A (setAttr (.ref x) name v) Q E s := by
  obtain ⟨od, J, hl⟩ := I.look
  refine PySem.W.set_plain X J hs (PySem.W.osa_open (s := { s with toks := s.toks + 1 }) (r := none) X J hp ht fun b => ?_)
  obtain ⟨cd, hc, hd'⟩ := PySem.W.any_some hh
  have hx : s.heap.get? x = some ⟨.ref C, some dx, .plain, #[]⟩ := I.obj
  refine wpAny_bind (wpAny_pure (wpAny_bind (wpAny_bind (wpAny_loadPart hx (wpAny_bind (PySem.W.Looks.here (s := { s with toks := s.toks + 1 }) (PySem.W.looks_clsIn X hc) ?_))))))
  rw [hd']
  refine wpAny_pure (a := some dx) (wpAny_bind (wpAny_pure (wpAny_bind ?_)))
  refine wpAny_nsSet1 (s := { s with toks := s.toks + 1 }) I.ns fun h' hn2 hs2 => ?_
  obtain ⟨oD, esD, epD, hoD, hdD, hcD⟩ := hn2.count (PySem.Within.cons name v hw)
  refine wpAny_bind (wpAny_lookBehind hoD (by rw [hdD]; exact pastItsLine_dict (Nat.le_trans hcD (by rw [List.length_cons]; omega))) ?_)
  exact wpAny_pure (h _ ⟨(hs2.2 _ (Ne.symm I.ne)).trans I.obj, hn2, I.ne⟩ hs2)
theorem make_map {R : Result → Shared → Prop} {vs : List Value} {kw : List (Str × Value)} (X : K.In s.heap) (hm : PySem.W.makesIn K C = true)
    (hi : PySem.W.findIn K (.ref C) "__init__" = some (some (.ref f))) (hf : PySem.W.typeIn K (.ref f) = some (.type "function"))
    (h : codeAny (model prog w) (A.under (.builtin "type.__call__" ⟨.ref C :: vs, kw⟩)) (.call (.ref f) ⟨.ref (s.heap.objs.size + 1) :: vs, kw⟩) (PySem.W.InitBack (s.heap.objs.size + 1) R)
      { s with heap := (s.heap.push PySem.W.emptyDict).push (PySem.W.instObj C s.heap.objs.size) }) :
    codeAny (model prog w) A (.call (.ref C) ⟨vs, kw⟩) R s := by
  obtain ⟨hh, g, d, t, os⟩ := s
  exact PySem.W.make_core (PySem.W.makes_of X hm) (PySem.W.looks_findIn X hi) (fun self => PySem.W.bind_fn X self hf) (.inl rfl) h
end
def putF (f : Str) (v : V) : List (Str × V) → List (Str × V)
  | [] => [(f, v)]
  | (g, x) :: r => if g = f then (g, v) :: r else (g, x) :: putF f v r
theorem lookup_putF (f g : Str) (v : V) : ∀ fs : List (Str × V), (putF f v fs).lookup g = if g = f then some v else fs.lookup g
  | [] => by
    show List.lookup g [(f, v)] = _
    by_cases h : g = f
    · have hb : (g == f) = true := beq_iff_eq.mpr h
      simp only [List.lookup, hb, if_pos h]
    · have hb : (g == f) = false := beq_eq_false_iff_ne.mpr h
      simp only [List.lookup, hb, if_neg h]
  | (k, x) :: r => by
    have ih := lookup_putF f g v r
    rw [show putF f v ((k, x) :: r) = (if k = f then (k, v) :: r else (k, x) :: putF f v r) from rfl]
    by_cases hk : k = f
    · rw [if_pos hk]
      by_cases h : g = k
      · have hb : (g == k) = true := beq_iff_eq.mpr h
        simp only [List.lookup, hb, if_pos (h.trans hk)]
      · have hb : (g == k) = false := beq_eq_false_iff_ne.mpr h
        simp only [List.lookup, hb, if_neg (fun e : g = f => h (e.trans hk.symm))]
    · rw [if_neg hk]
      by_cases h : g = k
      · have hb : (g == k) = true := beq_iff_eq.mpr h
        simp only [List.lookup, hb, if_neg (fun e : g = f => hk (h.symm.trans e))]
      · have hb : (g == k) = false := beq_eq_false_iff_ne.mpr h
        simp only [List.lookup, hb]
        exact ih
theorem keys_putF (f : Str) (v : V) : ∀ fs : List (Str × V), f ∈ (putF f v fs).map (·.1) ∧ ∀ g, g ∈ fs.map (·.1) → g ∈ (putF f v fs).map (·.1)
  | [] => ⟨by simp [putF], fun g h => by simp at h⟩
  | (k, x) :: r => by
    obtain ⟨i1, i2⟩ := keys_putF f v r
    rw [show putF f v ((k, x) :: r) = (if k = f then (k, v) :: r else (k, x) :: putF f v r) from rfl]
    by_cases hk : k = f
    · rw [if_pos hk]
      subst hk
      exact ⟨by simp, fun g h => by simpa using h⟩
    · rw [if_neg hk]
      refine ⟨?_, fun g h => ?_⟩
      · rw [List.map_cons]
        exact List.mem_cons_of_mem _ i1
      · rw [List.map_cons] at h ⊢
        rcases List.mem_cons.mp h with e | e
        · exact List.mem_cons.mpr (.inl e)
        · exact List.mem_cons_of_mem _ (i2 g e)
theorem length_putF (f : Str) (v : V) : ∀ fs : List (Str × V), (putF f v fs).length ≤ fs.length + 1
  | [] => by simp [putF]
  | (k, x) :: r => by
    have ih := length_putF f v r
    rw [show putF f v ((k, x) :: r) = (if k = f then (k, v) :: r else (k, x) :: putF f v r) from rfl]
    by_cases hk : k = f
    · rw [if_pos hk, List.length_cons, List.length_cons]; omega
    · rw [if_neg hk, List.length_cons, List.length_cons]; omega
theorem RelO.some_of {v : V} {o : Option Value} (r : RelO (some v) o) : ∃ u, o = some u ∧ RelV v u := by
  cases o with
  | none => exact (show False from r).elim
  | some u => exact ⟨u, rfl, r⟩
theorem RelO.none_of {o : Option Value} (r : RelO none o) : o = none := by
  cases o with
  | none => rfl
  | some u => exact (show False from r).elim
theorem handed_of {v : V} {u : Value} (r : RelV v u) : PySem.W.handedIn u = true := by
  cases v with
  | non => cases (show u = Value.none from r); rfl
  | bl b => cases (show u = Value.bool b from r); rfl
  | int i => obtain ⟨t, e⟩ := (show ∃ t, u = Value.int i t from r); cases e; rfl
  | str x => obtain ⟨t, e⟩ := (show ∃ t, u = Value.str x t from r); cases e; rfl
  | byt b => obtain ⟨t, e⟩ := (show ∃ t, u = Value.bytes b t from r); cases e; rfl
  | flt b => obtain ⟨t, e⟩ := (show ∃ t, u = Value.float b t from r); cases e; rfl
  | ref a => cases (show u = Value.ref a from r); rfl
  | ty n => cases (show u = Value.type n from r); rfl
section
variable {P : Program} {w : World} {H H' : Hp} {h h' : Heap} {a C dx : Addr} {fs fs' : List (Str × V)}
theorem ins_get (hok : HOk P w H h) (e : H a = some (.ins C dx fs)) : ∃ mA, ObjM h a dx C mA ∧ (∀ f, RelO (fs.lookup f) (mA f)) ∧ PySem.Within mA (fs.map (·.1)) ∧ fs.length ≤ 1000 ∧ H dx = some (.own a) := by
  obtain ⟨d, z, ne, ob, mA, n, r, q⟩ := (show ObjOk P w H h a (.ins C dx fs) from hok a _ e)
  exact ⟨mA, ⟨ob, n, ne⟩, r, q, z, d⟩
end
structure Cls (K : PySem.W.Frag) (C : Addr) : Prop where
  pg : PySem.W.plainGet K C Str.empty = true
  hd : PySem.W.hasDictIn K C = true
  po : PySem.W.plainOver K C = true
  sa : PySem.W.findIn K (.ref C) "__setattr__" = some (some (.builtin "object.__setattr__"))
theorem Cls.get {K : PySem.W.Frag} {C : Addr} (c : Cls K C) (f : Str) : PySem.W.plainGet K C f = true := c.pg
def NoAttr (K : PySem.W.Frag) (C : Addr) (f : Str) : Prop := PySem.W.findIn K (.ref C) f = some none
theorem NoAttr.taker {K : PySem.W.Frag} {C : Addr} {f : Str} (n : NoAttr K C f) : PySem.W.takerIn K C f = some none := by
  unfold PySem.W.takerIn
  rw [show PySem.W.findIn K (.ref C) f = some none from n]
  rfl
structure Con (K : PySem.W.Frag) (C : Addr) (f : Str) (v : V) (u : Value) : Prop where
  at_ : PySem.W.findIn K (.ref C) f = some (some u)
  rel : RelV v u
  get : PySem.W.specialIn K u "__get__" = some none
  cp : PySem.W.copiedNames.contains f = false
structure Meth (K : PySem.W.Frag) (C : Addr) (m : Str) (f : Addr) : Prop where
  at_ : PySem.W.findIn K (.ref C) m = some (some (.ref f))
  fn : PySem.W.isFn K (.ref f) = true
  kp : PySem.W.keepIn K (.ref f) = true
section
variable {X : Cx} {pins : List (Addr × Obj)} {σ : St} {H : Hp} {s : Shared} {a C dx : Addr} {fs : List (Str × V)} {f : Str} {v : V} {A : Around} {E : Value → Shared → Prop}
theorem getattr_ok {b : Bool} {Q : Value → Shared → Prop} (I : Inv X pins σ H s) (e : H a = some (.ins C dx fs)) (c : Cls X.K C) (n : NoAttr X.K C f) (l : fs.lookup f = some v)
    (h : ∀ u s', Inv X pins σ H s' → RelV v u → Q u s') : wpAny (model X.prog X.w) A (getAttr (.ref a) f b) Q E s := by
  obtain ⟨mA, O, r, _, _, _⟩ := ins_get I.hok e
  obtain ⟨u, hu, ru⟩ := RelO.some_of (v := v) (o := mA f) (by rw [← l]; exact r f)
  exact get_map I.kIn O (c.get f) c.hd n hu (handed_of ru) (h u _ (I.tok _) ru)
theorem getmeth_ok {m : Str} {g : Addr} {pl : Sem Bool} {Q : Value × List Value → Shared → Prop} (I : Inv X pins σ H s) (e : H a = some (.ins C dx fs)) (c : Cls X.K C) (k : Meth X.K C m g) (l : fs.lookup m = none)
    (h : Q (.ref g, [.ref a]) s) : wpAny (model X.prog X.w) A (getMethod (.ref a) m pl) Q E s := by
  obtain ⟨mA, O, r, _, _, _⟩ := ins_get I.hok e
  have hn : mA m = none := RelO.none_of (by rw [← l]; exact r m)
  exact get_meth I.kIn O (c.get m) k.at_ k.fn hn h
theorem setattr_ok {y : V} {u : Value} {Q : Unit → Shared → Prop} (I : Inv X pins σ H s) (e : H a = some (.ins C dx fs)) (c : Cls X.K C) (n : NoAttr X.K C f) (hl : fs.length < 1000) (ry : RelV y u)
    (h : ∀ s', Inv X pins σ (upd H a (.ins C dx (putF f y fs))) s' → Q () s') : wpAny (model X.prog X.w) A (setAttr (.ref a) f u) Q E s := by
  obtain ⟨mA, O, r, wi, _, ho⟩ := ins_get I.hok e
  have hz : (fs.map (·.1)).length ≤ sizeLine := by rw [List.length_map, sizeLine_eq]; omega
  refine set_map I.kIn O c.sa c.po n.taker c.hd wi hz fun h' O' sb => h _ ?_
  have hd : ∃ o, h'.get? dx = some o := let ⟨o, _, _, e', _⟩ := O'.ns; ⟨o, e'⟩
  refine I.write (x := a) (e := dx) (by rw [e]; exact True.intro) (.inr ho) (fun b q hb z => (sb.2 b hb).trans z) hd ?_
  refine ⟨by rw [upd_ne O.ne]; exact ho, ?_, O.ne, O'.obj, _, O'.ns, fun g => ?_, fun g hg => ?_⟩
  · have := length_putF f y fs; omega
  · show RelO ((putF f y fs).lookup g) (if g = f then some u else mA g)
    rw [lookup_putF]
    by_cases q : g = f
    · rw [if_pos q, if_pos q]; exact ry
    · rw [if_neg q, if_neg q]; exact r g
  · by_cases q : g = f
    · rw [q]; exact (keys_putF f y fs).1
    · refine (keys_putF f y fs).2 g (wi g fun z => hg ?_)
      show (if g = f then some u else mA g) = none
      rw [if_neg q]; exact z
theorem Inv.made (I : Inv X pins σ H s) : Inv X pins σ (upd (upd H s.heap.objs.size (.own (s.heap.objs.size + 1))) (s.heap.objs.size + 1) (.ins C s.heap.objs.size []))
    { s with heap := (s.heap.push PySem.W.emptyDict).push (PySem.W.instObj C s.heap.objs.size) } := by
  have e1 : (s.heap.push PySem.W.emptyDict).get? s.heap.objs.size = some PySem.W.emptyDict := Heap.get?_push_size s.heap rfl
  have e2 : ((s.heap.push PySem.W.emptyDict).push (PySem.W.instObj C s.heap.objs.size)).get? (s.heap.objs.size + 1) = some (PySem.W.instObj C s.heap.objs.size) := by
    have := Heap.get?_push_size (s.heap.push PySem.W.emptyDict) (o := PySem.W.instObj C s.heap.objs.size) rfl
    rwa [Heap.size_push] at this
  have e3 : (s.heap.push PySem.W.emptyDict).Ns s.heap.objs.size (fun _ => none) := ⟨PySem.W.emptyDict, #[], _, e1, rfl, (fun e he => absurd he (by simp)), fun _ => rfl⟩
  have I1 := I.laid (a := s.heap.objs.size) (o := .own (s.heap.objs.size + 1)) (h' := s.heap.push PySem.W.emptyDict) (t' := s.toks) (fun b u q => Heap.get?_push_of_some _ q) (Nat.le_refl _) ⟨_, e1⟩
  refine I1.laid (a := s.heap.objs.size + 1) (o := .ins C s.heap.objs.size []) (t' := s.toks) (fun b u q => Heap.get?_push_of_some _ q) (Nat.le_of_eq (Heap.size_push _ _)) ?_
  have ne : s.heap.objs.size ≠ s.heap.objs.size + 1 := Nat.ne_of_lt (Nat.lt_succ_self _)
  refine ⟨by rw [upd_ne ne, upd_same], Nat.zero_le _, ne, e2, fun _ => none, (Heap.Ns1.of_empty e3).at fun o q => Heap.get?_push_of_some _ q, fun _ => True.intro, fun y hy => absurd rfl hy⟩
theorem attr_of {prog : Program} {w : World} {env : Env} {e : Expr} {f : Str} {pos : Pos} {s : Shared} {Q : Value → Shared → Prop} (hb : attributeBase e f env (eval e env) = eval e env)
    (h : wpAny (model prog w) A (eval e env) (fun o s₁ => wpAny (model prog w) A (getAttr o f true) Q E s₁) E s) : wpAny (model prog w) A (eval (.Attribute e f pos) env) Q E s :=
  Attribute_any_ h (by rw [arm_eval_Attribute, hb])
end
def tFld (K : PySem.W.Frag) (ta : TE) (f : Str) : TE := fun σ H Q => ta σ H fun x H1 => ∃ a C dx fs v, x = .ref a ∧ H1 a = some (.ins C dx fs) ∧ Cls K C ∧ NoAttr K C f ∧ fs.lookup f = some v ∧ Q v H1
def sFld (K : PySem.W.Frag) (ta tv : TE) (f : Str) : TS := fun D σ H => tv σ H fun y H1 => ta σ H1 fun x H2 => ∃ a C dx fs, x = .ref a ∧ H2 a = some (.ins C dx fs) ∧ Cls K C ∧ NoAttr K C f ∧ fs.length < 1000 ∧
  D.nx σ (upd H2 a (.ins C dx (putF f y fs)))
def InOp (X : Cx) (op : Operator) (rd : V → V → Hp → VK → Prop) : Prop :=
  ∀ (pins : List (Addr × Obj)) (s : Shared) (σ : St) (H : Hp) (x y : V) (u v : Value) (Q : VK), Inv X pins σ H s → RelV x u → RelV y v → rd x y H Q → wpAny (model X.prog X.w) X.A (inplaceOp op u v) (EP X pins σ Q) X.xe s
def sFldAug (K : PySem.W.Frag) (ta tv : TE) (rd : V → V → Hp → VK → Prop) (f : Str) : TS := fun D σ H => ta σ H fun x H1 => ∃ a C dx fs v, x = .ref a ∧ H1 a = some (.ins C dx fs) ∧ Cls K C ∧ NoAttr K C f ∧ fs.lookup f = some v ∧
  tv σ H1 fun y H2 => rd v y H2 fun z H3 => ∃ dx' fs', H3 a = some (.ins C dx' fs') ∧ fs'.length < 1000 ∧ D.nx σ (upd H3 a (.ins C dx' (putF f z fs')))
section
variable {X : Cx} {o e value : Expr} {f : Str} {pos pos' tpos : Pos} {ta tv : TE}
theorem pe_fld (he : PE X e ta) (hb : attributeBase e f X.env (eval e X.env) = eval e X.env) : PE X (.Attribute e f pos) (tFld X.K ta f) := by
  intro pins s σ H Q I h
  refine attr_of hb (thn (he pins s σ H _ I h) fun u s1 ⟨x, H1, I1, rx, a, C, dx, fs, v, ex, ea, c, n, l, q⟩ => ?_)
  subst ex
  obtain rfl : u = Value.ref a := rx
  exact getattr_ok I1 ea c n l fun u' s2 I2 ru => ⟨v, H1, I2, ru, q⟩
theorem ps_fld (ha : PE X o ta) (hv : PE X value tv) (hs : swapsWith value (some (.Attribute o f pos')) pos.line X.env = pure false) : PS X (.Assign [.Attribute o f pos'] value pos) (sFld X.K ta tv f) := by
  intro pins s σ H D I h
  refine plainObj_wpAny_Assign_Attribute (thn (hv pins s σ H _ I h) fun u s1 ⟨y, H1, I1, ry, q⟩ => thn (ha pins s1 σ H1 _ I1 q) fun ov s2 ⟨x, H2, I2, rx, a, C, dx, fs, ex, ea, c, n, l, q2⟩ => ?_) hs
  subst ex
  obtain rfl : ov = Value.ref a := rx
  exact setattr_ok I2 ea c n l ry fun s3 I3 => ⟨σ, _, I3, q2⟩
theorem ps_fldaug {op : Operator} {rd : V → V → Hp → VK → Prop} (ha : PE X o ta) (hv : PE X value tv) (hop : InOp X op rd) : PS X (.AugAssign (.Attribute o f tpos) op value pos) (sFldAug X.K ta tv rd f) := by
  intro pins s σ H D I h
  refine wpAny_AugAssign_AttributeAny (thn (ha pins s σ H _ I h) fun ov s1 ⟨x, H1, I1, rx, a, C, dx, fs, v, ex, ea, c, n, l, q⟩ => ?_)
  subst ex
  obtain rfl : ov = Value.ref a := rx
  refine getattr_ok I1 ea c n l fun u s2 I2 ru => thn (hv pins s2 σ H1 _ I2 q) fun w3 s3 ⟨y, H2, I3, ry, q3⟩ => thn (hop pins s3 σ H2 v y u w3 _ I3 ru ry q3) fun w4 s4 ⟨z, H3, I4, rz, dx', fs', ea', l', q4⟩ => ?_
  exact setattr_ok I4 ea' c n l' rz fun s5 I5 => ⟨σ, _, I5, q4⟩
def rAdd : V → V → Hp → VK → Prop := fun x y H Q => ∃ i j, x = .int i ∧ y = .int j ∧ Q (.int (i + j)) H
def rSub : V → V → Hp → VK → Prop := fun x y H Q => ∃ i j, x = .int i ∧ y = .int j ∧ Q (.int (i - j)) H
theorem in_add : InOp X .Add rAdd := by
  rintro pins s σ H x y u v Q I rx ry ⟨i, j, rfl, rfl, q⟩
  obtain ⟨t, rfl⟩ := (show ∃ t, u = Value.int i t from rx)
  obtain ⟨t', rfl⟩ := (show ∃ t', v = Value.int j t' from ry)
  exact PyProof.Rows.iadd_int ⟨.int (i + j), H, I.tok _, ⟨_, rfl⟩, q⟩
end
section
variable {X : Cx} {pins : List (Addr × Obj)} {σ : St} {H : Hp} {s : Shared} {A : Around} {E : Value → Shared → Prop} {Q : Value → Shared → Prop} {c : Value} {b : Bool}
inductive TyOf (K : PySem.W.Frag) (H : Hp) : V → Value → Prop where
  | non : TyOf K H .non (.type "NoneType")
  | bl (x : Bool) : TyOf K H (.bl x) (.type "bool")
  | int (i : Int) : TyOf K H (.int i) (.type "int")
  | str (x : Str) : TyOf K H (.str x) (.type "str")
  | flt (x : UInt64) : TyOf K H (.flt x) (.type "float")
  | lst {a : Addr} {xs : List V} (e : H a = some (.lst xs)) : TyOf K H (.ref a) (.type "list")
  | frz {a : Addr} {o : Obj} {xs : List V} (e : H a = some (.frz o (.lst xs))) : TyOf K H (.ref a) (.type "list")
  | tup {a : Addr} {xs : List V} (e : H a = some (.tup xs)) : TyOf K H (.ref a) (.type "tuple")
  | dK {a : Addr} {kvs : List (Key × V)} (e : H a = some (.dK kvs)) : TyOf K H (.ref a) (.type "dict")
  | dT {a : Addr} {kvs : List (List Key × V)} (e : H a = some (.dT kvs)) : TyOf K H (.ref a) (.type "dict")
  | ins {a C dx : Addr} {fs : List (Str × V)} (e : H a = some (.ins C dx fs)) (cl : Cls K C) (ha : PySem.W.findIn K (.ref C) "__class__" = some (some (.builtin "object.__class__")))
      (hn : PySem.W.specialIn K (.builtin "object.__class__") "__get__" = some (some (.builtin "getset_descriptor.__get__"))) (htk : PySem.W.takesIn K (.builtin "object.__class__") = some true)
      (hm : PySem.W.mroIn K C (.type "object") = some true) : TyOf K H (.ref a) (.ref C)
end
end L2
namespace L2
open PySem PySem.Spec PyProof.Rows
structure Room (k : Nat) (A : Around) : Prop where
  hd : A.handled = none
  dp : A.depth + 3 * k + 5 < recursionLimit
  un : A.units + 16 * k + 200 < cLine
theorem Room.mono {j k : Nat} {A : Around} (r : Room k A) (h : j ≤ k) : Room j A := ⟨r.hd, by have := r.dp; omega, by have := r.un; omega⟩
theorem Room.deeper {k : Nat} {A : Around} (r : Room (k + 1) A) (env : Env) : Room k (A.deeper env) :=
  ⟨r.hd, by have := r.dp; show A.depth + 1 + 3 * k + 5 < _; omega, by have := r.un; show A.units + 3 + 16 * k + 200 < _; omega⟩
theorem Room.in1 {k : Nat} {A : Around} (r : Room (k + 1) A) : Room k A.in1 :=
  ⟨r.hd, by have := r.dp; show A.depth + 3 * k + 5 < _; omega, by have := r.un; show A.units + 1 + 16 * k + 200 < _; omega⟩
theorem make_depth {A : Around} {C : Addr} {us : List Value} {kw : List (Str × Value)} : (A.under (.builtin "type.__call__" ⟨.ref C :: us, kw⟩)).depth = A.depth + 1 := by
  first | rfl | simp [Around.under, Code.weight, Code.isCreation, Code.isGuard, Code.isCaller, Code.frames, Code.isFrame, guardIds]
theorem make_units {A : Around} {C : Addr} {us : List Value} {kw : List (Str × Value)} : (A.under (.builtin "type.__call__" ⟨.ref C :: us, kw⟩)).units = A.units + 1 := by
  first | rfl | simp [Around.under, Code.cUnits, Code.frames, Code.isFrame]
theorem Room.make {k : Nat} {A : Around} (r : Room (k + 1) A) (C : Addr) (us : List Value) (kw : List (Str × Value)) : Room k (A.under (.builtin "type.__call__" ⟨.ref C :: us, kw⟩)) :=
  ⟨r.hd, by have := r.dp; rw [make_depth]; omega, by have := r.un; rw [make_units]; omega⟩
theorem Room.depth {k : Nat} {A : Around} (r : Room k A) : A.depth < recursionLimit := by have := r.dp; omega
theorem Room.units {k : Nat} {A : Around} (r : Room k A) : A.units + 64 < cLine := by have := r.un; omega
def tNil : TA := fun _ H Q => Q [] H
def tCons (ta : TE) (tr : TA) : TA := fun σ H Q => ta σ H fun x H1 => tr σ H1 fun xs H2 => Q (x :: xs) H2
section
variable {X : Cx} {e : Expr} {es : List Expr} {te : TE} {t : TA} {pos : Pos}
theorem pa_nil : PA X [] tNil := fun _ _ _ _ H Q I h => Calls.spliced_nil ⟨[], H, I, .nil, h⟩
theorem pa_cons (ha : PE X e te) (hr : PA X es t) (hs : starEach (e :: es) X.env = (false, eval e X.env) :: starEach es X.env := by rfl) : PA X (e :: es) (tCons te t) := by
  intro pos pins s σ H Q I h
  rw [hs]
  show wpAny _ _ (spliced ((false, eval e X.env) :: backTo pos (starEach es X.env))) _ _ s
  refine Calls.spliced_cons (thn (ha pins s σ H _ I h) fun u s1 ⟨x, H1, I1, r1, q1⟩ => ?_)
  exact thn (hr pos pins s1 σ H1 _ I1 q1) fun us s2 ⟨xs, H2, I2, r2, q2⟩ => ⟨x :: xs, H2, I2, .cons r1 r2, q2⟩
def tTup (t : TA) : TE := fun σ H Q => t σ H fun xs H1 => xs.length ≤ sizeLine ∧ ∀ p, H1 p = none → Q (.ref p) (upd H1 p (.tup xs))
def tLst (t : TA) : TE := fun σ H Q => t σ H fun xs H1 => xs.length ≤ sizeLine ∧ ∀ p, H1 p = none → Q (.ref p) (upd H1 p (.lst xs))
theorem pe_tup {x1} (h : PA X es t) : PE X (.Tuple es x1 pos) (tTup t) := by
  intro pins s σ H Q I hq
  refine wpAny_Tuple_spliced (thn (h pos pins s σ H _ I hq) fun us s1 ⟨xs, H1, I1, r, z, q⟩ => ⟨by rw [← r.length]; exact z, ?_⟩)
  have hf : H1 s1.heap.objs.size = none := I1.hok.fresh (Nat.le_refl _)
  refine ⟨.ref s1.heap.objs.size, upd H1 s1.heap.objs.size (.tup xs), I1.laid (t' := s1.toks) (fun b u e => Heap.get?_push_of_some _ e) (Nat.le_refl _) ?_, rfl, q _ hf⟩
  exact ⟨z, us, r, ⟨_, Heap.get?_push_size _ rfl, rfl, _, rfl⟩⟩
theorem pe_lst (h : PA X es t) : PE X (.List es pos) (tLst t) := by
  intro pins s σ H Q I hq
  refine wpAny_List_spliced (thn (h pos pins s σ H _ I hq) fun us s1 ⟨xs, H1, I1, r, z, q⟩ => ⟨by rw [← r.length]; exact z, ?_⟩)
  have hf : H1 s1.heap.objs.size = none := I1.hok.fresh (Nat.le_refl _)
  refine ⟨.ref s1.heap.objs.size, upd H1 s1.heap.objs.size (.lst xs), I1.laid (t' := s1.toks) (fun b u e => Heap.get?_push_of_some _ e) (Nat.le_refl _) ?_, rfl, q _ hf⟩
  exact ⟨z, us, 0, r, Heap.get?_push_size _ rfl⟩
end
abbrev Sp := List V → Hp → VK → XK → Prop
abbrev CXT := List Env → Hp → Shared → XK → Value → Shared → Prop
structure Env0 (P : Program) (w : World) (K : PySem.W.Frag) (mg : Str → Option Value) (base : Heap) (A : Around) (outer : List Env) (s : Shared) (H : Hp) : Prop where
  frames : A.frames = some outer
  mod : Mod K mg base
  bs : ∀ b o, base.get? b = some o → s.heap.get? b = some o ∧ H b = none
  bsz : base.objs.size ≤ s.heap.objs.size
  funs : s.heap.FunFrames base outer
  frf : ∀ b ∈ frs outer, H b = none
  hok : HOk P w H s.heap
  bare : AllBare s.gens
def CE (outer : List Env) (P : Program) (w : World) (H : Hp) (s : Shared) (Q : VK) (u : Value) (s' : Shared) : Prop :=
  ∃ v H', s'.os = s.os ∧ AllBare s'.gens ∧ Un (frs outer) [] H H' s.heap s'.heap ∧ HOk P w H' s'.heap ∧ RelV v u ∧ Q v H'
def CR (CX : CXT) (outer : List Env) (P : Program) (w : World) (H : Hp) (s : Shared) (Q : VK) (E : XK) (r : Result) (s' : Shared) : Prop :=
  match r with
  | .ok (.ret u) => CE outer P w H s Q u s'
  | .ok _ => False
  | .error e => CX outer H s E e s'
structure FnOk (P : Program) (w : World) (K : PySem.W.Frag) (mg : Str → Option Value) (base : Heap) (CX : CXT) (k : Nat) (f : Addr) (fd : FuncData) (ps : List Str) (sp : Sp) : Prop where
  len : ∀ vs H Q E, sp vs H Q E → vs.length = ps.length
  run : ∀ (A : Around) (outer : List Env) (s : Shared) (H : Hp) (args : Args) (us : List Value) (vs : List V) (Q : VK) (E : XK), Room k A → Env0 P w K mg base A outer s H → BindsTo s fd args (ps.zip us) → Vals vs us → sp vs H Q E →
    codeAny (model P w) A (.call (.ref f) args) (CR CX outer P w H s Q E) s
theorem FnOk.mono {P : Program} {w : World} {K : PySem.W.Frag} {mg : Str → Option Value} {base : Heap} {CX : CXT} {j k : Nat} {f : Addr} {fd : FuncData} {ps : List Str} {sp : Sp} (F : FnOk P w K mg base CX j f fd ps sp) (h : j ≤ k) :
    FnOk P w K mg base CX k f fd ps sp := ⟨F.len, fun A outer s H args us vs Q E hr => F.run A outer s H args us vs Q E (hr.mono h)⟩
theorem FnOk.imp {P : Program} {w : World} {K : PySem.W.Frag} {mg : Str → Option Value} {base : Heap} {CX : CXT} {k : Nat} {f : Addr} {fd : FuncData} {ps : List Str} {sp sp' : Sp} (F : FnOk P w K mg base CX k f fd ps sp)
    (h : ∀ vs H Q E, sp' vs H Q E → sp vs H Q E) : FnOk P w K mg base CX k f fd ps sp' :=
  ⟨fun vs H Q E q => F.len vs H Q E (h _ _ _ _ q), fun A outer s H args us vs Q E hr he hb hv hs => F.run A outer s H args us vs Q E hr he hb hv (h _ _ _ _ hs)⟩
theorem Env0.make {P : Program} {w : World} {K : PySem.W.Frag} {mg : Str → Option Value} {base : Heap} {A : Around} {outer : List Env} {s : Shared} {H : Hp} (e : Env0 P w K mg base A outer s H) (C : Addr) (us : List Value) (kw : List (Str × Value)) :
    Env0 P w K mg base (A.under (.builtin "type.__call__" ⟨.ref C :: us, kw⟩)) outer s H := ⟨by first | exact e.frames | (simpa [Around.under, Code.envs, Code.isFrame, pushEnvs] using e.frames), e.mod, e.bs, e.bsz, e.funs, e.frf, e.hok, e.bare⟩
theorem Env0.in1 {P : Program} {w : World} {K : PySem.W.Frag} {mg : Str → Option Value} {base : Heap} {A : Around} {outer : List Env} {s : Shared} {H : Hp} (e : Env0 P w K mg base A outer s H) :
    Env0 P w K mg base A.in1 outer s H := ⟨e.frames, e.mod, e.bs, e.bsz, e.funs, e.frf, e.hok, e.bare⟩
section
variable {X : Cx} {pins : List (Addr × Obj)} {σ : St} {H : Hp} {s s' : Shared}
theorem Inv.env0 (I : Inv X pins σ H s) : Env0 X.prog X.w X.K X.mg X.base X.A X.stack s H :=
  ⟨I.ok.frames, I.ok.mod, I.bs, Nat.le_trans I.ok.bsz I.sz, I.stack, I.stkFree, I.hok, I.bare⟩
theorem Inv.after {Q : VK} {u : Value} (I : Inv X pins σ H s) (h : CE X.stack X.prog X.w H s Q u s') : EP X pins σ Q u s' := by
  obtain ⟨v, H', os, bare, un, hok, r, q⟩ := h
  obtain ⟨hh, g, d, t, os'⟩ := s'
  obtain rfl : os' = s.os := os
  exact ⟨v, H', I.call (h' := hh) (g' := g) (d' := d) (t' := t) (ch := []) un hok bare (fun b z => absurd z (by simp)), r, q⟩
end
def tCall (sp : Sp) (dvs : List V) (E : XK) (t : TA) : TE := fun σ H Q => t σ H fun vs H1 => sp (vs ++ dvs) H1 Q E
def tMeth (C : Addr) (m : Str) (sp : Sp) (dvs : List V) (E : XK) (ta : TE) (t : TA) : TE := fun σ H Q => ta σ H fun x H1 => ∃ a dx fs, x = .ref a ∧ H1 a = some (.ins C dx fs) ∧ fs.lookup m = none ∧
  t σ H1 fun vs H2 => sp (x :: (vs ++ dvs)) H2 Q E
def tMake (C : Addr) (sp : Sp) (dvs : List V) (E : XK) (t : TA) : TE := fun σ H Q => t σ H fun vs H1 => ∀ x dx, H1 x = none → H1 dx = none → dx ≠ x →
  sp (.ref x :: (vs ++ dvs)) (upd (upd H1 dx (.own x)) x (.ins C dx [])) (fun v H2 => v = .non ∧ Q (.ref x) H2) E
def Binds (K : PySem.W.Frag) (fd : FuncData) (ps : List Str) (ds : List Value) : Prop :=
  ∀ (s : Shared) (us : List Value), K.In s.heap → (us ++ ds).length = ps.length → BindsTo s fd ⟨us, []⟩ (ps.zip (us ++ ds))
theorem Binds.all {K : PySem.W.Frag} {fd : FuncData} {ps : List Str} (h : ∀ us : List Value, us.length = ps.length → bindArgs fd ⟨us, []⟩ = pure (ps.zip us)) : Binds K fd ps [] := fun s us _ hl => by
  rw [List.append_nil] at hl ⊢
  exact .of_eq (h us hl)
def Passes (CX : CXT) (X : Cx) (E : XK) : Prop := ∀ (pins : List (Addr × Obj)) (σ : St) (H : Hp) (s : Shared) (e : Value) (s' : Shared), Inv X pins σ H s → CX X.stack H s E e s' → X.xe e s'
section
variable {X : Cx} {CX : CXT} {k : Nat} {f C : Addr} {fd : FuncData} {ps : List Str} {sp : Sp} {dvs : List V} {ds : List Value} {E : XK} {x m : Str} {p pos apos : Pos} {e o : Expr} {es : List Expr} {ta : TE} {t : TA}
theorem run_fn {pins : List (Addr × Obj)} {σ : St} {H : Hp} {s : Shared} {Q : VK} {us : List Value} {vs : List V} (F : FnOk X.prog X.w X.K X.mg X.base CX k f fd ps sp) (hr : Room k X.A) (hb : Binds X.K fd ps ds) (hd : Vals dvs ds) (hx : Passes CX X E)
    (I : Inv X pins σ H s) (r : Vals vs us) (h : sp (vs ++ dvs) H Q E) : wpAny (model X.prog X.w) X.A (call (.ref f) us) (EP X pins σ Q) X.xe s := by
  have r2 : Vals (vs ++ dvs) (us ++ ds) := r.append hd
  have hl : (us ++ ds).length = ps.length := by rw [← r2.length]; exact F.len _ _ _ _ h
  refine wpAny_call (codeAny_mono (F.run X.A X.stack s H ⟨us, []⟩ (us ++ ds) (vs ++ dvs) Q E hr I.env0 (hb s us I.kIn hl) r2 h) fun r s' hq => ?_)
  cases r with
  | error e => exact hx pins σ H s e s' I hq
  | ok fl =>
    cases fl with
    | ret u => exact I.after hq
    | next => exact False.elim hq
    | brk => exact False.elim hq
    | cont => exact False.elim hq
theorem pe_call (F : FnOk X.prog X.w X.K X.mg X.base CX k f fd ps sp) (hr : Room k X.A) (hg : Gl X x) (hm : X.mg x = some (.ref f)) (hk : PySem.W.keepIn X.K (.ref f) = true) (hb : Binds X.K fd ps ds) (hd : Vals dvs ds) (hx : Passes CX X E)
    (ha : PA X (e :: es) t) (hdb : (x == ("__debug__" : Str)) = false := by decide) (he : starEach (e :: es) X.env = (false, eval e X.env) :: starEach es X.env := by rfl) (hpl : (backTo pos (starEach es X.env)).any (·.1) = false := by rfl) :
    PE X (.Call (.Name x p) (e :: es) [] pos) (tCall sp dvs E t) := by
  intro pins s σ H Q I h
  refine wpAny_Call_Name_kw (ld_glob I hg hm ?_ hdb)
  refine PySem.W.callWith_K (h₀ := X.base) I.ok.mod.kin hk (thn (ha pos pins s σ H _ I h) fun us s1 ⟨vs, H1, I1, r, q⟩ => ⟨I1.kIn, ?_⟩) he hpl
  exact run_fn F hr hb hd hx I1 r q
theorem pe_meth {pl : Sem Bool} (he : PE X o ta) (c : Cls X.K C) (hm : Meth X.K C m f) (F : FnOk X.prog X.w X.K X.mg X.base CX k f fd ps sp) (hr : Room k X.A) (hb : Binds X.K fd ps ds) (hd : Vals dvs ds) (hx : Passes CX X E) (ha : PA X (e :: es) t)
    (hst : starEach (e :: es) X.env = (false, eval e X.env) :: starEach es X.env := by rfl) (hpl : (backTo pos (starEach es X.env)).any (·.1) = false := by rfl)
    (ht : eval (.Call (.Attribute o m apos) (e :: es) [] pos) X.env = (do
      let ov ← eval o X.env
      standAt apos.atName
      let (f, first) ← holding [ov] (getMethod ov m pl)
      callWith pos f first (backTo pos (starEach (e :: es) X.env)) (backToKw pos (keywordEach [] X.env))) := by rfl) :
    PE X (.Call (.Attribute o m apos) (e :: es) [] pos) (tMeth C m sp dvs E ta t) := by
  intro pins s σ H Q I h
  refine PySem.W.methodCall_KW (pl := pl) (thn (he pins s σ H _ I h) fun u s1 ⟨x, H1, I1, rx, a, dx, fs, ex, ea, l, q⟩ => ?_) ht
  subst ex
  obtain rfl : u = Value.ref a := rx
  refine getmeth_ok I1 ea c hm l ?_
  refine PySem.W.callWith_K (first := [.ref a]) (h₀ := X.base) I.ok.mod.kin hm.kp (thn (ha pos pins s1 σ H1 _ I1 q) fun us s2 ⟨vs, H2, I2, r, q2⟩ => ⟨I2.kIn, ?_⟩) hst hpl
  exact run_fn (us := .ref a :: us) (vs := .ref a :: vs) F hr hb hd hx I2 (.cons rfl r) q2
theorem pe_meth0 {pl : Sem Bool} (he : PE X o ta) (c : Cls X.K C) (hm : Meth X.K C m f) (F : FnOk X.prog X.w X.K X.mg X.base CX k f fd ps sp) (hr : Room k X.A) (hb : Binds X.K fd ps ds) (hd : Vals dvs ds) (hx : Passes CX X E)
    (ht : eval (.Call (.Attribute o m apos) [] [] pos) X.env = (do
      let ov ← eval o X.env
      standAt apos.atName
      let (f, first) ← holding [ov] (getMethod ov m pl)
      callWith pos f first (backTo pos (starEach [] X.env)) (backToKw pos (keywordEach [] X.env))) := by rfl) :
    PE X (.Call (.Attribute o m apos) [] [] pos) (tMeth C m sp dvs E ta tNil) := by
  intro pins s σ H Q I h
  refine PySem.W.methodCall_KW (pl := pl) (thn (he pins s σ H _ I h) fun u s1 ⟨x, H1, I1, rx, a, dx, fs, ex, ea, l, q⟩ => ?_) ht
  subst ex
  obtain rfl : u = Value.ref a := rx
  refine getmeth_ok I1 ea c hm l ?_
  exact PySem.W.callWith_K0 (first := [.ref a]) I1.kIn hm.kp (run_fn (us := [.ref a]) (vs := [.ref a]) F hr hb hd hx I1 (.cons rfl .nil) q)
structure Mk (K : PySem.W.Frag) (C f : Addr) : Prop where
  makes : PySem.W.makesIn K C = true
  init : PySem.W.findIn K (.ref C) "__init__" = some (some (.ref f))
  fn : PySem.W.isFn K (.ref f) = true
  kp : PySem.W.keepIn K (.ref C) = true
theorem run_make {pins : List (Addr × Obj)} {σ : St} {H : Hp} {s : Shared} {Q : VK} {us : List Value} {vs : List V} (M : Mk X.K C f) (F : FnOk X.prog X.w X.K X.mg X.base CX k f fd ps sp) (hr : Room (k + 1) X.A) (hb : Binds X.K fd ps ds) (hd : Vals dvs ds)
    (hx : Passes CX X E) (I : Inv X pins σ H s) (r : Vals vs us)
    (h : ∀ x dx, H x = none → H dx = none → dx ≠ x → sp (.ref x :: (vs ++ dvs)) (upd (upd H dx (.own x)) x (.ins C dx [])) (fun v H2 => v = .non ∧ Q (.ref x) H2) E) :
    wpAny (model X.prog X.w) X.A (call (.ref C) us) (EP X pins σ Q) X.xe s := by
  have hq := h (s.heap.objs.size + 1) s.heap.objs.size (I.hok.fresh (Nat.le_succ _)) (I.hok.fresh (Nat.le_refl _)) (Nat.ne_of_lt (Nat.lt_succ_self _))
  have I2 := Inv.made (C := C) I
  have r2 : Vals (V.ref (s.heap.objs.size + 1) :: (vs ++ dvs)) (Value.ref (s.heap.objs.size + 1) :: (us ++ ds)) := .cons rfl (r.append hd)
  have hl : (Value.ref (s.heap.objs.size + 1) :: us ++ ds).length = ps.length := by
    have e := r2.length
    rw [F.len _ _ _ _ hq] at e
    exact e.symm
  refine wpAny_call (make_map (f := f) I.kIn M.makes M.init (beq_iff_eq.mp M.fn) (codeAny_mono (F.run _ X.stack _ _ ⟨Value.ref (s.heap.objs.size + 1) :: us, []⟩ (Value.ref (s.heap.objs.size + 1) :: (us ++ ds)) _ _ E (hr.make C us [])
    (I2.env0.make C us []) (hb _ (Value.ref (s.heap.objs.size + 1) :: us) I2.kIn hl) r2 hq) fun r s' hq' => ?_))
  cases r with
  | error e => exact hx pins σ _ _ e s' I2 hq'
  | ok fl =>
    cases fl with
    | ret u =>
      obtain ⟨v, H', I3, rv, ev, q3⟩ := I2.after hq'
      subst ev
      exact ⟨rv, ⟨V.ref (s.heap.objs.size + 1), H', I3, rfl, q3⟩⟩
    | next => exact False.elim hq'
    | brk => exact False.elim hq'
    | cont => exact False.elim hq'
theorem pe_make (M : Mk X.K C f) (F : FnOk X.prog X.w X.K X.mg X.base CX k f fd ps sp) (hr : Room (k + 1) X.A) (hg : Gl X x) (hm : X.mg x = some (.ref C)) (hb : Binds X.K fd ps ds) (hd : Vals dvs ds) (hx : Passes CX X E)
    (ha : PA X (e :: es) t) (hdb : (x == ("__debug__" : Str)) = false := by decide) (he : starEach (e :: es) X.env = (false, eval e X.env) :: starEach es X.env := by rfl) (hpl : (backTo pos (starEach es X.env)).any (·.1) = false := by rfl) :
    PE X (.Call (.Name x p) (e :: es) [] pos) (tMake C sp dvs E t) := by
  intro pins s σ H Q I h
  refine wpAny_Call_Name_kw (ld_glob I hg hm ?_ hdb)
  refine PySem.W.callWith_K (h₀ := X.base) I.ok.mod.kin M.kp (thn (ha pos pins s σ H _ I h) fun us s1 ⟨vs, H1, I1, r, q⟩ => ⟨I1.kIn, ?_⟩) he hpl
  exact run_make M F hr hb hd hx I1 r q
theorem pe_make0 (M : Mk X.K C f) (F : FnOk X.prog X.w X.K X.mg X.base CX k f fd ps sp) (hr : Room (k + 1) X.A) (hg : Gl X x) (hm : X.mg x = some (.ref C)) (hb : Binds X.K fd ps ds) (hd : Vals dvs ds) (hx : Passes CX X E)
    (hdb : (x == ("__debug__" : Str)) = false := by decide) : PE X (.Call (.Name x p) [] [] pos) (tMake C sp dvs E tNil) := by
  intro pins s σ H Q I h
  refine wpAny_Call_Name_kw (ld_glob I hg hm ?_ hdb)
  exact PySem.W.callWith_K0 I.kIn M.kp (run_make (us := []) M F hr hb hd hx I .nil h)
end
section
variable {X : Cx} {CX : CXT} {k : Nat} {f C : Addr} {fd : FuncData} {ps ks : List Str} {sp : Sp} {E : XK} {x m : Str} {p pos apos kpos : Pos} {e o : Expr} {es : List Expr} {kws : List Keyword} {te ta : TE} {t tk : TA} {nm : Option Str}
structure KBinds (K : PySem.W.Frag) (fd : FuncData) (ps ks : List Str) (g : List Value → List Value → List Value) (gV : List V → List V → List V) : Prop where
  to : ∀ (s : Shared) (us ws : List Value), K.In s.heap → (g us ws).length = ps.length → BindsTo s fd ⟨us, ks.zip ws⟩ (ps.zip (g us ws))
  rel : ∀ {vs : List V} {us : List Value} {zs : List V} {ws : List Value}, Vals vs us → Vals zs ws → Vals (gV vs zs) (g us ws)
variable {g : List Value → List Value → List Value} {gV : List V → List V → List V}
end
structure FnScope (N P : List Str) (sc : Scope) : Prop where
  kind : sc.kind = .function
  co : sc.isCoroutine = false
  gen : sc.isGenerator = false
  nd : N.Nodup
  pre : N.take P.length = P
  par : ∀ x ∈ P, sc.names.lookup x = some .local ∨ sc.names.lookup x = some .cell
  nofree : ∀ y ∈ sc.names, y.2 ≠ .free
theorem bindL_out {kindOf : Str → Option NameKind} {x : Str} : ∀ {binds : List (Str × Value)} {m : Str → Option Value}, (∀ v, (x, v) ∉ binds) → bindL kindOf binds m x = m x
  | [], _, _ => rfl
  | (n, v) :: r, m, h => by
    unfold bindL
    rw [bindL_out fun w hw => h w (List.mem_cons_of_mem _ hw)]
    split
    · have : x ≠ n := by rintro rfl; exact h v List.mem_cons_self
      simp [this]
    · rfl
theorem bindC_out {kindOf : Str → Option NameKind} {x : Str} : ∀ {binds : List (Str × Value)} {m : Str → Option Value}, (∀ v, (x, v) ∉ binds) → bindC kindOf binds m x = m x
  | [], _, _ => rfl
  | (n, v) :: r, m, h => by
    unfold bindC
    rw [bindC_out fun w hw => h w (List.mem_cons_of_mem _ hw)]
    split
    · rfl
    · have : x ≠ n := by rintro rfl; exact h v List.mem_cons_self
      simp [this]
theorem bindL_get {kindOf : Str → Option NameKind} {x : Str} {v : Value} : ∀ {P : List Str} {vs : List Value} {i : Nat} {m : Str → Option Value}, P.Nodup → P[i]? = some x → vs[i]? = some v → kindOf x = some .local →
    bindL kindOf (P.zip vs) m x = some v
  | [], _, _, _, _, h, _, _ => by simp at h
  | _ :: _, [], _, _, _, _, h, _ => by simp at h
  | p :: P, w :: vs, 0, m, nd, h1, h2, hk => by
    simp at h1 h2; subst h1; subst h2
    show bindL kindOf ((p, w) :: P.zip vs) m p = _
    unfold bindL
    rw [bindL_out fun v hv => (List.nodup_cons.mp nd).1 (List.of_mem_zip hv).1, if_pos hk]
    simp
  | p :: P, w :: vs, i + 1, m, nd, h1, h2, hk => by
    show bindL kindOf ((p, w) :: P.zip vs) m x = _
    unfold bindL
    exact bindL_get (i := i) (List.nodup_cons.mp nd).2 (by simpa using h1) (by simpa using h2) hk
theorem bindC_get {kindOf : Str → Option NameKind} {x : Str} {v : Value} : ∀ {P : List Str} {vs : List Value} {i : Nat} {m : Str → Option Value}, P.Nodup → P[i]? = some x → vs[i]? = some v → kindOf x ≠ some .local →
    bindC kindOf (P.zip vs) m x = some v
  | [], _, _, _, _, h, _, _ => by simp at h
  | _ :: _, [], _, _, _, _, h, _ => by simp at h
  | p :: P, w :: vs, 0, m, nd, h1, h2, hk => by
    simp at h1 h2; subst h1; subst h2
    show bindC kindOf ((p, w) :: P.zip vs) m p = _
    unfold bindC
    rw [bindC_out fun v hv => (List.nodup_cons.mp nd).1 (List.of_mem_zip hv).1, if_neg hk]
    simp
  | p :: P, w :: vs, i + 1, m, nd, h1, h2, hk => by
    show bindC kindOf ((p, w) :: P.zip vs) m x = _
    unfold bindC
    exact bindC_get (i := i) (List.nodup_cons.mp nd).2 (by simpa using h1) (by simpa using h2) hk
def start (N : List Str) (vs : List V) : St := vs.map some ++ List.replicate (N.length - vs.length) none
def cxOf (CX : CXT) (P : Program) (w : World) (K : PySem.W.Frag) (mg : Str → Option Value) (base : Heap) (N : List Str) (qual : Str) (scope : Scope) (f : Addr) (cd : Value) (A : Around) (outer : List Env) (s : Shared) (H : Hp) (E : XK) : Cx where
  prog := P
  w := w
  K := K
  mg := mg
  base := base
  A := A.deeper (envOfC qual scope s.heap.objs.size f cd)
  N := N
  s_0 := s
  H_0 := H
  env := envOfC qual scope s.heap.objs.size f cd
  outer := outer
  stack := envOfC qual scope s.heap.objs.size f cd :: outer
  ex := []
  calm := true
  fn := fun _ => true
  pn := []
  xe := fun e s' => wpAny (model P w) (A.deeper (envOfC qual scope s.heap.objs.size f cd)) (leaving (envOfC qual scope s.heap.objs.size f cd) e) (fun _ s'' => CX outer H s E e s'') (fun e' s'' => CX outer H s E e' s'') s'
theorem cell_has {sc : Scope} {n : Nat} {x : Str} (h : sc.names.lookup x = some .cell) : ∃ c, (cellsFrom n sc.names []).lookup x = some c := by
  have q := PySem.W.cellsFrom_some sc.names n [] (.inl h)
  exact Option.isSome_iff_exists.mp q
theorem inv_start {CX : CXT} {P : Program} {w : World} {K : PySem.W.Frag} {mg : Str → Option Value} {base : Heap} {N ps : List Str} {qual : Str} {scope : Scope} {f : Addr} {cd : Value} {A : Around} {outer : List Env} {s s1 : Shared} {H : Hp} {E : XK} {us : List Value} {vs : List V}
    (S : FnScope N ps scope) (hd : A.handled = none) (e0 : Env0 P w K mg base A outer s H) (hl : vs.length = ps.length) (r : Vals vs us)
    (x : InCallC s s.heap.objs.size (bindL (envOfC qual scope s.heap.objs.size f cd).kindOf (ps.zip us) fun _ => none) (cellsFrom (s.heap.objs.size + 1) scope.names []) (bindC (envOfC qual scope s.heap.objs.size f cd).kindOf (ps.zip us) fun _ => none) s1) :
    Inv (cxOf CX P w K mg base N qual scope f cd A outer s H E) [] (start N vs) H s1 := by
  have hpl : ps.length ≤ N.length := by have := congrArg List.length S.pre; rw [List.length_take] at this; omega
  obtain ⟨h1, tk, rfl, hk⟩ := x.done
  have noA : ∀ b : Addr, b ∉ (cxOf CX P w K mg base N qual scope f cd A outer s H E).ex := fun b z => absurd (show b ∈ ([] : List Addr) from z) (by simp)
  refine ⟨⟨e0.mod, S.kind, rfl, rfl, Nat.le_refl _, fun y z c h1 h2 => ?_, fun y hy => ?_, fun y c _ h => ?_, fun _ => hd, Around.frames_deeper e0.frames, .inr ⟨rfl, rfl⟩, fun b z => absurd z (noA b), e0.bs, e0.bsz, fun b _ _ => noA b, fun b z => absurd z (noA b), e0.funs, e0.frf⟩,
    rfl, e0.bare, Un.kept hk, ⟨_, x.toInCall.ns, fun i y v h1 h2 h3 => ?_⟩, fun y c h => ⟨_, x.cell y c h⟩, e0.hok.fresh (Nat.le_refl _), fun y c h => ?_, fun p hp => absurd (show p ∈ ([] : List (Addr × Obj)) from hp) (by simp), e0.hok.kept hk, ?_⟩
  · exact name_of_addr x.apart (PySem.mem_of_lookup h1) (PySem.mem_of_lookup h2)
  · have hy : scope.names.lookup y = some .cell ∨ scope.names.lookup y = some .free := hy
    rcases hy with hy | hy
    · exact cell_has hy
    · exact absurd rfl (S.nofree _ (PySem.mem_of_lookup hy))
  · exact Nat.le_of_lt (x.above y c (PySem.mem_of_lookup h))
  · have hi : i < vs.length := by
      unfold start at h2
      by_cases hi : i < vs.length
      · exact hi
      · rw [List.getElem?_append_right (by simpa using hi)] at h2
        rw [List.getElem?_replicate] at h2
        split at h2 <;> cases h2
    have ha : vs[i]? = some v := by
      unfold start at h2
      rw [List.getElem?_append_left (by simpa using hi), List.getElem?_map] at h2
      cases e : vs[i]? with
      | none => rw [e] at h2; cases h2
      | some a => rw [e] at h2; cases h2; rfl
    obtain ⟨u, hu, rv⟩ := r.get ha
    have hp : ps[i]? = some y := by
      rw [← S.pre, List.getElem?_take_of_lt (by omega)]; exact h1
    have ndP : ps.Nodup := by rw [← S.pre]; exact S.nd.sublist (List.take_sublist _ _)
    refine ⟨u, rv, ?_⟩
    rcases S.par y (List.mem_of_getElem? hp) with k | k
    · exact .inl ⟨k, bindL_get ndP hp hu k⟩
    · obtain ⟨c, e⟩ := cell_has (n := s.heap.objs.size + 1) k
      refine .inr ⟨.inl k, c, e, ?_⟩
      have q := x.cell y c e
      rw [bindC_get ndP hp hu (by show scope.names.lookup y ≠ _; rw [k]; decide)] at q
      exact q
  · exact e0.hok.fresh (Nat.le_of_lt (x.above y c (PySem.mem_of_lookup h)))
  · unfold start
    show _ = N.length
    rw [List.length_append, List.length_map, List.length_replicate]
    omega
theorem fn_of {CX : CXT} {P : Program} {w : World} {K : PySem.W.Frag} {mg : Str → Option Value} {base : Heap} {k : Nat} {f : Addr} {name qual : Str} {params : Arguments} {body : List Stmt} {scope : Scope} {dV kV doc pm cdv ct oc : Value} {an od : Option Addr}
    {osl : Array (Option Value)} {N ps : List Str} {sp : Sp} (lk : K.lookup f = some ⟨oc, od, .func (PySem.W.fnOf name qual params body scope dV kV doc pm an cdv ct), osl⟩) (hcd : PySem.W.codeIn K cdv qual = true) (S : FnScope N ps scope)
    (len : ∀ vs H Q E, sp vs H Q E → vs.length = ps.length)
    (hbody : ∀ (A : Around) (outer : List Env) (s : Shared) (H : Hp) (vs : List V) (Q : VK) (E : XK), Room k (A.deeper (envOfC qual scope s.heap.objs.size f cdv)) → sp vs H Q E →
      ∃ t, PSs (cxOf CX P w K mg base N qual scope f cdv A outer s H E) body t ∧ t { nx := fun _ H' => Q .non H', rt := Q } (start N vs) H) :
    FnOk P w K mg base CX (k + 1) f (PySem.W.fnOf name qual params body scope dV kV doc pm an cdv ct) ps sp := by
  refine ⟨len, fun A outer s H args us vs Q E hr e0 hb r hsp => ?_⟩
  have hl := len _ _ _ _ hsp
  have KX : K.In s.heap := e0.mod.kin.keeps fun b o e => (e0.bs b o e).1
  have lim : s.heap.NoLimit := e0.mod.nolimit.keeps fun b o e => (e0.bs b o e).1
  have hkind : ∀ y ∈ ps.zip us, scope.names.lookup y.1 = some .local ∨ (scope.names.lookup y.1 = some .cell ∧ ((cellsFrom (s.heap.objs.size + 1) scope.names []).lookup y.1).isSome = true) := fun ⟨n, v⟩ hy => by
    rcases S.par n (List.of_mem_zip hy).1 with q | q
    · exact .inl q
    · exact .inr ⟨q, PySem.W.cellsFrom_some _ _ _ (.inl q)⟩
  refine codeAny_call_function hr.depth (KX _ _ lk) rfl S.co S.gen rfl (PySem.W.codeRec_of KX hcd) (hb _ _ _ _ ?_)
  refine wpAny_newFunctionEnv_cells S.kind hkind fun env he s1 x => ?_
  subst he
  refine ⟨lim.keeps x.toInCall.keep, codeAny_func ?_⟩
  obtain ⟨t, ht, hq⟩ := hbody A outer s H vs Q E (hr.deeper _) hsp
  have I : Inv (cxOf CX P w K mg base N qual scope f cdv A outer s H E) [] (start N vs) H s1 := inv_start S hr.hd e0 hl r x
  refine wpAny_mono (ht [] s1 (start N vs) H _ I hq) (fun fl s' hs => ?_) fun e s' hs => hs
  have fin : ∀ {σ' : St} {H' : Hp} {v : V} {u : Value}, Inv (cxOf CX P w K mg base N qual scope f cdv A outer s H E) [] σ' H' s' → RelV v u → Q v H' → CE outer P w H s Q u s' :=
    fun {σ' H' v u} J rv q => ⟨v, H', J.os, J.bare, J.base, J.hok, rv, q⟩
  cases fl with
  | ret u =>
    obtain ⟨v, σ', H', J, rv, q⟩ := hs
    exact fin J rv q
  | next =>
    obtain ⟨σ', H', J, q⟩ := hs
    exact fin (v := V.non) (u := Value.none) J rfl q
  | brk =>
    obtain ⟨_, _, _, q⟩ := hs
    exact False.elim q
  | cont =>
    obtain ⟨_, _, _, q⟩ := hs
    exact False.elim q
end L2
namespace L2
open PySem PySem.Spec PyProof.Rows
section
variable {X : Cx} {x : Str} {p pos : Pos} {e : Expr} {es : List Expr} {t : TA} {id T : String} {r : List V → Hp → VK → Prop}
def tCB (r : List V → Hp → VK → Prop) (t : TA) : TE := fun σ H Q => t σ H fun vs H1 => r vs H1 Q
theorem pe_callB (hc : CallR X (.builtin id) r) (hg : Gl X x) (hm : X.mg x = none) (hv : bootBuiltins x = some (.builtin id)) (ha : PA X (e :: es) t) (hn : x ≠ "__name__" := by decide) (hdb : (x == ("__debug__" : Str)) = false := by decide)
    (he : starEach (e :: es) X.env = (false, eval e X.env) :: starEach es X.env := by rfl) (hpl : (backTo pos (starEach es X.env)).any (·.1) = false := by rfl) : PE X (.Call (.Name x p) (e :: es) [] pos) (tCB r t) := by
  intro pins s σ H Q I h
  refine wpAny_Call_Name_kw (ld_blt I hg hm hv ?_ hn hdb)
  exact PyProof.Rows.callWith_builtin1 (thn (ha pos pins s σ H _ I h) fun us s1 ⟨vs, H1, I1, r1, q1⟩ => hc pins s1 σ H1 vs us Q I1 r1 q1) he hpl
end
end L2
namespace HT
open PySem PyProof.Rows
section
variable {prog : Program} {w : World} {A : Around} {E : Value → Shared → Prop} {s : Shared}
def sIx (n d : Nat) : Option Int → Nat
  | none => d
  | some v => if v < 0 then (v + (n : Int)).toNat else min v.toNat n
theorem sIx_none (n d : Nat) : sIx n d none = d := rfl
theorem sIx_nat (n d k : Nat) : sIx n d (some (k : Int)) = min k n := by
  show (if (k : Int) < 0 then ((k : Int) + (n : Int)).toNat else min (k : Int).toNat n) = min k n
  rw [if_neg (by omega), Int.toNat_natCast]
end
end HT
namespace L2
open PySem PySem.Spec PyProof.Rows
abbrev TO := St → Hp → (Option Int → Hp → Prop) → Prop
def PO (X : Cx) (e : Option Expr) (t : TO) : Prop :=
  ∀ (pins : List (Addr × Obj)) (s : Shared) (σ : St) (H : Hp) (Q : Option Int → Hp → Prop), Inv X pins σ H s → t σ H Q →
    wpAny (model X.prog X.w) X.A (evalPart e X.env) (fun u s' => ∃ o H', Inv X pins σ H' s' ∧ IsPart u o ∧ Q o H') X.xe s
def tNoPart : TO := fun _ H Q => Q none H
def tPart (t : TE) : TO := fun σ H Q => t σ H fun x H1 => ∃ i, x = .int i ∧ Q (some i) H1
section
variable {X : Cx} {e : Expr} {te : TE} {lo hi : Option Expr} {tl th : TO} {pos p2 : Pos}
theorem po_none : PO X none tNoPart := by
  intro pins s σ H Q I h
  rw [evalPart_none]
  exact wpAny_pure ⟨none, H, I, .none, h⟩
theorem po_some (h : PE X e te) : PO X (some e) (tPart te) := by
  intro pins s σ H Q I hw
  rw [evalPart_some]
  refine thn (h pins s σ H _ I hw) fun u s1 ⟨x, H1, I1, r1, q1⟩ => ?_
  obtain ⟨i, rfl, q⟩ := q1
  obtain ⟨t, rfl⟩ := r1
  exact ⟨some i, H1, I1, .int i t, q⟩
def SlR (X : Cx) (r : V → Option Int → Option Int → Hp → VK → Prop) : Prop :=
  ∀ (pins : List (Addr × Obj)) (s : Shared) (σ : St) (H : Hp) (x : V) (v vl vu : Value) (lo hi : Option Int) (sl : Addr) (Q : VK), Inv X pins σ H s → RelV x v → s.heap.IsSliceOf sl vl vu .none → IsPart vl lo → IsPart vu hi → r x lo hi H Q →
    ∃ T id, typeLookup (.type T) "__getitem__" = pure (some (.builtin id)) ∧ s.TypeIs v T ∧ wpAny (model X.prog X.w) X.A (getItem v (.ref sl)) (EP X pins σ Q) X.xe s
def tSl (r : V → Option Int → Option Int → Hp → VK → Prop) (te : TE) (tl th : TO) : TE := fun σ H Q => te σ H fun x H1 => tl σ H1 fun l H2 => th σ H2 fun u H3 => r x l u H3 Q
theorem pe_slice {r : V → Option Int → Option Int → Hp → VK → Prop} (hr : SlR X r) (he : PE X e te) (hl : PO X lo tl) (hu : PO X hi th) : PE X (.Subscript e (.Slice lo hi none p2) pos) (tSl r te tl th) := by
  intro pins s σ H Q I h
  refine Subscript_ (thn (he pins s σ H _ I h) fun v s1 ⟨x, H1, I1, r1, q1⟩ => ?_)
  refine wpAny_Slice (thn (hl pins s1 σ H1 _ I1 q1) fun vl s2 ⟨l, H2, I2, pl, q2⟩ => thn (hu pins s2 σ H2 _ I2 q2) fun vu s3 ⟨u, H3, I3, pu, q3⟩ => ?_)
  rw [evalPart_none]
  refine wpAny_pure ?_
  have I4 : Inv X pins σ H3 { s3 with heap := s3.heap.push { cls := .type "slice", data := .fields #[vl, vu, .none] } } := I3.kept (t' := s3.toks) fun b ob q => Heap.get?_push_of_some _ q
  obtain ⟨T, id, hT, ht, hg⟩ := hr pins { s3 with heap := s3.heap.push { cls := .type "slice", data := .fields #[vl, vu, .none] } } σ H3 x v vl vu l u s3.heap.objs.size Q I4 r1 (Heap.IsSliceOf.new ..) pl pu q3
  show wpAny (model X.prog X.w) X.A (subscriptTail e (.Slice lo hi none p2) v (.ref s3.heap.objs.size)) (EP X pins σ Q) X.xe { s3 with heap := s3.heap.push { cls := .type "slice", data := .fields #[vl, vu, .none] } }
  exact tail_any (ops := [.ref s3.heap.objs.size, v]) ht hT hg (by with_unfolding_all rfl)
def cutV (xs : List V) (lo hi : Option Int) : List V := (xs.drop (HT.sIx xs.length 0 lo)).take (HT.sIx xs.length xs.length hi - HT.sIx xs.length 0 lo)
theorem cutV_length (xs : List V) (lo hi : Option Int) : (cutV xs lo hi).length ≤ xs.length := by
  unfold cutV
  rw [List.length_take, List.length_drop]
  omega
end
end L2
namespace L2
open PySem PySem.Spec PyProof.Rows
def ixN (n : Nat) (i : Int) : Option Nat := if 0 ≤ i then (if i < n then some i.toNat else none) else if -(n : Int) ≤ i then some (i + n).toNat else none
def atI {α : Type} (xs : List α) (i : Int) : Option α := (ixN xs.length i).bind fun j => xs[j]?
theorem ixN_seq {n : Nat} {i : Int} {j : Nat} (h : ixN n i = some j) : seqIndex? i n = some j ∧ j < n ∧ -(n : Int) ≤ i ∧ i < n := by
  unfold ixN at h
  by_cases h0 : 0 ≤ i
  · rw [if_pos h0] at h
    by_cases h1 : i < n
    · rw [if_pos h1] at h
      have e : i.toNat = j := Option.some.inj h
      exact ⟨by rw [seqIndex_of h0 h1, e], by omega, by omega, h1⟩
    · rw [if_neg h1] at h; cases h
  · rw [if_neg h0] at h
    by_cases h1 : -(n : Int) ≤ i
    · rw [if_pos h1] at h
      have e : (i + n).toNat = j := Option.some.inj h
      exact ⟨by rw [seqIndex_neg (by omega) h1, e], by omega, h1, by omega⟩
    · rw [if_neg h1] at h; cases h
theorem atI_get {α : Type} {xs : List α} {i : Int} {v : α} (h : atI xs i = some v) : ∃ j, seqIndex? i xs.length = some j ∧ xs[j]? = some v ∧ j < xs.length ∧ -(xs.length : Int) ≤ i ∧ i < xs.length := by
  unfold atI at h
  cases e : ixN xs.length i with
  | none => rw [e] at h; cases h
  | some j =>
    rw [e] at h
    obtain ⟨h1, h2, h3, h4⟩ := ixN_seq e
    exact ⟨j, h1, h, h2, h3, h4⟩
theorem atI_nat {α : Type} {xs : List α} {j : Nat} {v : α} (h : xs[j]? = some v) : atI xs (j : Int) = some v := by
  have hj : j < xs.length := (List.getElem?_eq_some_iff.mp h).1
  have e : ixN xs.length (j : Int) = some j := by
    unfold ixN
    rw [if_pos (by omega), if_pos (by omega)]; simp
  unfold atI; rw [e]; exact h
def PlainIx (b : Expr) : Prop := ∀ o i, subscripted b false o i = operate [o, i] (getItem o i)
def IxR (X : Cx) (r : R2) : Prop :=
  ∀ (value slice : Expr) (pins : List (Addr × Obj)) (s : Shared) (σ : St) (H : Hp) (x y : V) (v u : Value) (Q : VK), Inv X pins σ H s → RelV x v → RelV y u → r x y H Q →
    subscripted slice false v u = operate [v, u] (getItem v u) → wpAny (model X.prog X.w) X.A (subscriptTail value slice v u) (EP X pins σ Q) X.xe s
def MtR (X : Cx) (id : String) (r : V → List V → Hp → VK → Prop) : Prop :=
  ∀ (pins : List (Addr × Obj)) (s : Shared) (σ : St) (H : Hp) (x : V) (xs : List V) (v : Value) (us : List Value) (Q : VK), Inv X pins σ H s → RelV x v → Vals xs us → r x xs H Q →
    wpAny (model X.prog X.w) X.A (call (.builtin id) (v :: us)) (EP X pins σ Q) X.xe s
section
variable {X : Cx} {a b : Expr} {ta tb : TE} {pos : Pos}
theorem pe_ix {r : R2} (hr : IxR X r) (ha : PE X a ta) (hb : PE X b tb) (hs : PlainIx b) : PE X (.Subscript a b pos) (tOp r ta tb) := by
  intro pins s σ H Q I h
  exact Subscript_ (binT ha hb I h fun v u s2 x y H2 I2 rx ry q => hr a b pins s2 σ H2 x y v u Q I2 rx ry q (hs _ _))
def rIxL (K : PySem.W.Frag) : R2 := fun x y H Q => ∃ p xs i v, x = .ref p ∧ y = .int i ∧ SqL K H p xs ∧ atI xs i = some v ∧ Q v H
def rIxT (K : PySem.W.Frag) : R2 := fun x y H Q => ∃ p xs i v, x = .ref p ∧ y = .int i ∧ SqT K H p xs ∧ atI xs i = some v ∧ Q v H
theorem ix_list : IxR X (rIxL X.K) := by
  intro value slice pins s σ H x y v u Q I rx ry h hs
  obtain ⟨p, xs, i, z, rfl, rfl, hq, he, q⟩ := h
  cases rx
  obtain ⟨t, rfl⟩ := ry
  obtain ⟨its, r, pl, hz⟩ := I.list hq
  obtain ⟨j, h1, h2, h3, h4, h5⟩ := atI_get he
  obtain ⟨w, ew, rw'⟩ := r.get h2
  have hl := r.length
  have hn := line63
  have fin : EP X pins σ Q w s := ⟨z, H, I, rw', q⟩
  by_cases h0 : 0 ≤ i
  · have hj : i.toNat = j := by
      rw [seqIndex_of h0 h5] at h1
      exact Option.some.inj h1
    exact item_listR pl.isList h0 (by omega) (by rw [hj]; simpa using ew) fin hs
  · have hj : (i + (its.toArray.size : Int)).toNat = j := by
      rw [seqIndex_neg (by omega) h4] at h1
      rw [List.size_toArray, ← hl]
      exact Option.some.inj h1
    exact subscriptTail_builtinR (x := w) pl.isList.typeIs slot_list_getitem.lookup
      (wpAny_getItem_list_neg (Q := fun r s' => r = w ∧ EP X pins σ Q r s') pl.isList (by omega) (by rw [List.size_toArray] <;> omega) (by omega) (by rw [hj]; simpa using ew) ⟨rfl, fin⟩) hs
theorem ix_tup : IxR X (rIxT X.K) := by
  intro value slice pins s σ H x y v u Q I rx ry h hs
  obtain ⟨p, xs, i, z, rfl, rfl, hq, he, q⟩ := h
  cases rx
  obtain ⟨t, rfl⟩ := ry
  obtain ⟨its, r, pl, hz⟩ := I.tuple hq
  obtain ⟨j, h1, h2, h3, h4, h5⟩ := atI_get he
  obtain ⟨w, ew, rw'⟩ := r.get h2
  have hl := r.length
  have hn := line63
  have fin : EP X pins σ Q w s := ⟨z, H, I, rw', q⟩
  exact subscriptTail_builtinR (x := w) pl.typeIs slot_tuple_getitem.lookup
    (getItem_tuple (j := j) (Q := fun r s' => r = w ∧ EP X pins σ Q r s') pl (by omega) (by omega) (by rw [List.size_toArray, ← hl]; exact h1) (by simpa using ew) ⟨rfl, fin⟩) hs
theorem Inv.lst {pins : List (Addr × Obj)} {σ : St} {H : Hp} {s : Shared} {p : Addr} {xs : List V} (I : Inv X pins σ H s) (h : H p = some (.lst xs)) :
    ∃ (its : List Value) (n : Nat), Vals xs its ∧ s.heap.get? p = some { cls := .type "list", data := .seq its.toArray n } ∧ xs.length ≤ sizeLine := by
  obtain ⟨z, its, n, r, e⟩ := I.hok p _ h
  exact ⟨its, n, r, e, z⟩
theorem slice_bounds (lo hi : Option Int) (n : Nat) : (sliceBounds lo hi none n).1 = ((HT.sIx n 0 lo : Nat) : Int) ∧ (sliceBounds lo hi none n).2.1 = ((HT.sIx n n hi : Nat) : Int) ∧ (sliceBounds lo hi none n).2.2 = 1 := by
  refine ⟨?_, ?_, rfl⟩
  · cases lo with
    | none => simp [sliceBounds, HT.sIx]
    | some i =>
      simp only [sliceBounds, HT.sIx, Option.getD_none, show (1 : Int) > 0 by decide, if_true]
      by_cases h : i < 0
      · simp only [h, if_true] <;> omega
      · simp only [h, if_false] <;> omega
  · cases hi with
    | none => simp [sliceBounds, HT.sIx]
    | some i =>
      simp only [sliceBounds, HT.sIx, Option.getD_none, show (1 : Int) > 0 by decide, if_true]
      by_cases h : i < 0
      · simp only [h, if_true] <;> omega
      · simp only [h, if_false] <;> omega
theorem slicePick_cut (its : List Value) (lo hi : Option Int) : slicePick its.toArray lo hi none = ((its.drop (HT.sIx its.length 0 lo)).take (HT.sIx its.length its.length hi - HT.sIx its.length 0 lo)).toArray := by
  obtain ⟨h1, h2, h3⟩ := slice_bounds lo hi its.toArray.size
  unfold slicePick
  rw [h1, h2, h3]
  simp only [sliceRange_one, pick_run, List.size_toArray] <;> rfl
def rSlL (K : PySem.W.Frag) : V → Option Int → Option Int → Hp → VK → Prop := fun x lo hi H Q => ∃ a xs, x = .ref a ∧ SqL K H a xs ∧ ∀ p, H p = none → Q (.ref p) (upd H p (.lst (cutV xs lo hi)))
theorem sl_list : SlR X (rSlL X.K) := by
  intro pins s σ H x v vl vu lo hi sl Q I rx hs pl pu h
  obtain ⟨a, xs, rfl, hx, q⟩ := h
  cases rx
  obtain ⟨its, r, ht, hz⟩ := I.list hx
  have hlen := r.length
  refine ⟨"list", _, slot_list_getitem.lookup, ht.isList.typeIs, ?_⟩
  refine wpAny_getItem_list_slice ht.isList hs pl pu .none (by simp) ?_ (by rw [List.size_toArray] <;> omega)
  rw [slicePick_cut, ← hlen]
  refine ⟨.ref s.heap.objs.size, _, I.laid (t' := s.toks) (o := .lst (cutV xs lo hi)) (fun b ob q => Heap.get?_push_of_some _ q) (Nat.le_refl _) ?_, rfl, q _ (I.hok.fresh (Nat.le_refl _))⟩
  exact ⟨Nat.le_trans (cutV_length xs lo hi) hz, _, 0, (r.drop (HT.sIx xs.length 0 lo)).take (HT.sIx xs.length xs.length hi - HT.sIx xs.length 0 lo), Heap.get?_push_size _ rfl⟩
def flatV : V → Bool
  | .non => true
  | .bl _ => true
  | .int _ => true
  | .str _ => true
  | _ => false
def eqV : V → V → Bool
  | .non, .non => true
  | .bl a, .bl b => a == b
  | .bl a, .int b => (if a then 1 else 0) == b
  | .int a, .bl b => a == (if b then 1 else 0)
  | .int a, .int b => a == b
  | .str a, .str b => a == b
  | _, _ => false
theorem eqAt_V {A : Around} {s : Shared} {y x : V} {u v : Value} (ry : RelV y u) (rx : RelV x v) (fy : flatV y = true) (fx : flatV x = true) : SeqAt.EqAt A s u v (eqV y x) := by
  cases y with
  | non =>
    cases ry
    cases x with
    | non => cases rx; exact SeqAt.EqAt.same _
    | bl b => cases rx; exact SeqAt.EqAt.none_bool b
    | int b => obtain ⟨t, rfl⟩ := rx; exact SeqAt.EqAt.none_int b t
    | str b => obtain ⟨t, rfl⟩ := rx; exact SeqAt.EqAt.none_str b t
    | _ => exact absurd (show false = true from fx) Bool.false_ne_true
  | bl a =>
    cases ry
    cases x with
    | non => cases rx; exact SeqAt.EqAt.bool_none a
    | bl b => cases rx; exact SeqAt.EqAt.bool_bool a b
    | int b => obtain ⟨t, rfl⟩ := rx; exact SeqAt.EqAt.bool_int a b t
    | str b => obtain ⟨t, rfl⟩ := rx; exact SeqAt.EqAt.bool_str a b t
    | _ => exact absurd (show false = true from fx) Bool.false_ne_true
  | int a =>
    obtain ⟨t', rfl⟩ := ry
    cases x with
    | non => cases rx; exact SeqAt.EqAt.int_none a t'
    | bl b => cases rx; exact SeqAt.EqAt.int_bool a t' b
    | int b => obtain ⟨t, rfl⟩ := rx; exact SeqAt.EqAt.int_int a t' b t
    | str b => obtain ⟨t, rfl⟩ := rx; exact SeqAt.EqAt.int_str a t' b t
    | _ => exact absurd (show false = true from fx) Bool.false_ne_true
  | str a =>
    obtain ⟨t', rfl⟩ := ry
    cases x with
    | non => cases rx; exact SeqAt.EqAt.str_none a t'
    | bl b => cases rx; exact SeqAt.EqAt.str_bool a t' b
    | int b => obtain ⟨t, rfl⟩ := rx; exact SeqAt.EqAt.str_int a t' b t
    | str b => obtain ⟨t, rfl⟩ := rx; exact SeqAt.EqAt.str_str a t' b t
    | _ => exact absurd (show false = true from fx) Bool.false_ne_true
  | _ => exact absurd (show false = true from fy) Bool.false_ne_true
def eqU (x : V) (u : Value) : Bool := match u with
  | .none => eqV .non x
  | .bool b => eqV (.bl b) x
  | .int i _ => eqV (.int i) x
  | .str z _ => eqV (.str z) x
  | _ => false
theorem eqU_of {x y : V} {u : Value} (r : RelV y u) (f : flatV y = true) : eqU x u = eqV y x := by
  cases y with
  | non => cases r; rfl
  | bl b => cases r; rfl
  | int i => obtain ⟨t, rfl⟩ := r; rfl
  | str z => obtain ⟨t, rfl⟩ := r; rfl
  | _ => exact absurd (show false = true from f) Bool.false_ne_true
theorem any_eqU {x : V} : ∀ {xs : List V} {us : List Value}, Vals xs us → xs.all flatV = true → us.any (eqU x) = xs.any fun y => eqV y x
  | _, _, .nil, _ => rfl
  | y :: xs, u :: us, .cons r t, f => by
    rw [List.all_cons, Bool.and_eq_true] at f
    rw [List.any_cons, List.any_cons, eqU_of r f.1, any_eqU t f.2]
theorem mem_eqAt {A : Around} {s : Shared} {x : V} {v : Value} (rx : RelV x v) (fx : flatV x = true) : ∀ {xs : List V} {us : List Value}, Vals xs us → xs.all flatV = true → ∀ u ∈ us, SeqAt.EqAt A s u v (eqU x u)
  | _, _, .nil, _ => fun u hu => by cases hu
  | y :: xs, u :: us, .cons r t, f => fun u' hu => by
    rw [List.all_cons, Bool.and_eq_true] at f
    rcases List.mem_cons.mp hu with rfl | hu
    · rw [eqU_of r f.1]; exact eqAt_V r rx f.1 fx
    · exact mem_eqAt rx fx t f.2 u' hu
def inV (x : V) (xs : List V) : Bool := xs.any fun y => eqV y x
def rIn (K : PySem.W.Frag) (neg : Bool) : R2 := fun x y H Q => ∃ p xs, y = .ref p ∧ (SqL K H p xs ∨ SqT K H p xs) ∧ flatV x = true ∧ xs.all flatV = true ∧ Q (.bl (if neg then !inV x xs else inV x xs)) H
theorem op_in_seq : OpR X (compareOp .In) (rIn X.K false) := by
  intro pins s σ H x y v u Q I rx ry h
  obtain ⟨p, xs, rfl, hq, fx, fs, q⟩ := h
  cases ry
  rcases hq with hq | hq
  · obtain ⟨its, r, pl, hz⟩ := I.list hq
    refine SeqAt.in_listAt (eqU x) pl.isList (fun w hw => mem_eqAt rx fx r fs w (by simpa using hw)) ⟨.bl _, H, I, rfl, ?_⟩
    rw [show its.toArray.any (eqU x) = its.any (eqU x) by simp, any_eqU r fs]
    exact q
  · obtain ⟨its, r, pl, hz⟩ := I.tuple hq
    refine SeqAt.in_tupleAt (eqU x) pl (fun w hw => mem_eqAt rx fx r fs w (by simpa using hw)) ⟨.bl _, H, I, rfl, ?_⟩
    rw [show its.toArray.any (eqU x) = its.any (eqU x) by simp, any_eqU r fs]
    exact q
theorem op_notIn_seq : OpR X (compareOp .NotIn) (rIn X.K true) := by
  intro pins s σ H x y v u Q I rx ry h
  obtain ⟨p, xs, rfl, hq, fx, fs, q⟩ := h
  cases ry
  rcases hq with hq | hq
  · obtain ⟨its, r, pl, hz⟩ := I.list hq
    refine SeqAt.notIn_listAt (eqU x) pl.isList (fun w hw => mem_eqAt rx fx r fs w (by simpa using hw)) ⟨.bl _, H, I, rfl, ?_⟩
    rw [show its.toArray.any (eqU x) = its.any (eqU x) by simp, any_eqU r fs]
    exact q
  · obtain ⟨its, r, pl, hz⟩ := I.tuple hq
    refine SeqAt.notIn_tupleAt (eqU x) pl (fun w hw => mem_eqAt rx fx r fs w (by simpa using hw)) ⟨.bl _, H, I, rfl, ?_⟩
    rw [show its.toArray.any (eqU x) = its.any (eqU x) by simp, any_eqU r fs]
    exact q
theorem call_len_seq : CallR X (.builtin "len") (fun xs H Q => ∃ p ys, xs = [.ref p] ∧ (SqL X.K H p ys ∨ SqT X.K H p ys) ∧ Q (.int ys.length) H) := by
  intro pins s σ H xs us Q I r h
  obtain ⟨p, ys, rfl, hq, q⟩ := h
  obtain ⟨u, rfl, rx⟩ := vals1 r
  cases rx
  have hn := line63
  rcases hq with hq | hq
  · obtain ⟨its, r', pl, hz⟩ := I.list hq
    have hlen := r'.length
    exact Calls.call_len_list pl.isList (by simp only [List.size_toArray] <;> omega) ⟨.int ys.length, H, I.tok _, ⟨s.toks + 1, by rw [List.size_toArray, hlen]⟩, q⟩
  · obtain ⟨its, r', pl, hz⟩ := I.tuple hq
    have hlen := r'.length
    exact len_tuple pl (by simp only [List.size_toArray] <;> omega) ⟨.int ys.length, H, I.tok _, ⟨s.toks + 1, by rw [List.size_toArray, hlen]⟩, q⟩
def tyV (K : PySem.W.Frag) (T : String) (x : V) (H : Hp) : Prop := match x with
  | .str _ => T = "str"
  | .int _ => T = "int"
  | .ref p => (T = "list" ∧ ∃ xs, SqL K H p xs) ∨ (T = "tuple" ∧ ∃ o, K.lookup p = some o ∧ o.cls = .type "tuple" ∧ o.dict = none) ∨
      (T = "dict" ∧ ((∃ kvs, H p = some (.dK kvs)) ∨ ∃ kvs, H p = some (.dT kvs))) ∨ (T = "set" ∧ ∃ S n, H p = some (.set S n))
  | _ => False
theorem tyV_is {pins : List (Addr × Obj)} {σ : St} {H : Hp} {s : Shared} {T : String} {x : V} {v : Value} (I : Inv X pins σ H s) (r : RelV x v) (ty : tyV X.K T x H) :
    s.TypeIs v T ∧ ∀ a, v = .ref a → ∃ ob, s.heap.get? a = some ob ∧ ob.dict = none := by
  cases x with
  | str z =>
    obtain ⟨t, rfl⟩ := r
    cases (show T = "str" from ty)
    exact ⟨typeIs_str s z t, fun _ e => nomatch e⟩
  | int i =>
    obtain ⟨t, rfl⟩ := r
    cases (show T = "int" from ty)
    exact ⟨typeIs_int s i t, fun _ e => nomatch e⟩
  | ref p =>
    cases r
    rcases ty with ⟨rfl, xs, hq⟩ | ⟨rfl, o, hk, hc, hd⟩ | ⟨rfl, hk⟩ | ⟨rfl, S, n, hk⟩
    · obtain ⟨its, _, pl, _⟩ := I.list hq
      refine ⟨pl.isList.typeIs, fun a e => ?_⟩
      cases e
      obtain ⟨o, n, e, c, hd, _⟩ := pl
      exact ⟨o, e, hd⟩
    · refine ⟨⟨o, I.kIn p o hk, hc⟩, fun a e => ?_⟩
      cases e
      exact ⟨o, I.kIn _ o hk, hd⟩
    · have z : ∃ o, s.heap.get? p = some o ∧ o.ExactDict := by
        rcases hk with ⟨kvs, hk⟩ | ⟨kvs, hk⟩
        · obtain ⟨_, _, _, _, o, _, _, e, ex, _⟩ := I.hok p _ hk
          exact ⟨o, e, ex⟩
        · obtain ⟨_, _, _, _, o, _, _, e, ex, _⟩ := I.hok p _ hk
          exact ⟨o, e, ex⟩
      obtain ⟨o, e, ex⟩ := z
      refine ⟨⟨o, e, ex.1⟩, fun a e2 => ?_⟩
      cases e2
      exact ⟨o, e, ex.2.1⟩
    · obtain ⟨o, _, _, _, e, ex, _⟩ := I.hok p _ hk
      refine ⟨⟨o, e, ex.1⟩, fun a e2 => ?_⟩
      cases e2
      exact ⟨o, e, ex.2.1⟩
  | _ => exact False.elim ty
variable {o e : Expr} {es : List Expr} {to : TE} {t : TA} {name : Str} {apos cpos : Pos} {T id : String} {r : V → List V → Hp → VK → Prop}
end
end L2
namespace L2
open PySem PySem.Spec PyProof.Rows
def MtM (X : Cx) (id : String) (r : V → List V → Hp → VK → Prop) : Prop :=
  ∀ (pins : List (Addr × Obj)) (s : Shared) (σ : St) (H : Hp) (x : V) (xs : List V) (v : Value) (us : List Value) (Q : VK), Inv X pins σ H s → RelV x v → Vals xs us → r x xs H Q →
    wpAny (model X.prog X.w) X.A (call (.builtin id) (v :: us)) (EP X pins σ Q) X.xe s
theorem Vals.one : ∀ {x : V} {us : List Value}, Vals [x] us → ∃ u, us = [u] ∧ RelV x u
  | _, _, .cons r .nil => ⟨_, rfl, r⟩
theorem Vals.zero : ∀ {us : List Value}, Vals [] us → us = []
  | _, .nil => rfl
theorem Vals.dropLast {xs : List V} {us : List Value} (h : Vals xs us) : Vals xs.dropLast us.dropLast := by
  induction h with
  | nil => exact .nil
  | cons r t ih =>
    cases t with
    | nil => exact .nil
    | cons q t' => exact .cons r ih
theorem Vals.reverse {xs : List V} {us : List Value} (h : Vals xs us) : Vals xs.reverse us.reverse := by
  induction h with
  | nil => exact .nil
  | cons r t ih => rw [List.reverse_cons, List.reverse_cons]; exact Vals.append ih (.cons r .nil)
section
variable {X : Cx} {pins : List (Addr × Obj)} {σ : St} {H : Hp} {s : Shared} {l b : Addr} {xs ys zs : List V}
theorem Inv.lset {its its' : List Value} {n : Nat} {f : Array Value → Array Value} {t' : Nat} (I : Inv X pins σ H s) (hH : H l = some (.lst xs))
    (e : s.heap.get? l = some { cls := .type "list", data := .seq its.toArray n }) (hf : f its.toArray = its'.toArray) (hv : Vals ys its') (hz : ys.length ≤ sizeLine) :
    Inv X pins σ (upd H l (.lst ys)) { s with heap := s.heap.update l (Obj.mapSeq f), toks := t' } := by
  have q := PySem.IsL.update e f
  rw [hf] at q
  refine I.write (x := l) (e := l) (by rw [hH]; exact trivial) (.inl rfl) (fun b' u hb hu => (Heap.get?_update_other s.heap (Obj.mapSeq f) (Ne.symm hb)).trans hu) ⟨_, q⟩ ?_
  exact ⟨hz, its', _, hv, q⟩
theorem Inv.lnew {its : List Value} {t' : Nat} (I : Inv X pins σ H s) (hv : Vals ys its) (hz : ys.length ≤ sizeLine) :
    Inv X pins σ (upd H s.heap.objs.size (.lst ys)) { s with heap := s.heap.push { cls := .type "list", data := .seq its.toArray }, toks := t' } :=
  I.laid (fun _ _ q => Heap.get?_push_of_some _ q) (Nat.le_refl _) ⟨hz, its, 0, hv, Heap.get?_push_size _ rfl⟩
theorem Inv.fresh (I : Inv X pins σ H s) : H s.heap.objs.size = none := I.hok.fresh (Nat.le_refl _)
theorem Inv.lstM (I : Inv X pins σ H s) (hH : H l = some (.lst xs)) : xs.length ≤ sizeLine ∧ ∃ (its : List Value) (n : Nat), Vals xs its ∧ xs.length = its.length ∧ s.heap.get? l = some { cls := .type "list", data := .seq its.toArray n } := by
  obtain ⟨z, its, n, r, e⟩ := I.hok l _ hH
  exact ⟨z, its, n, r, r.length, e⟩
theorem notLongL {n : Nat} (h : n ≤ sizeLine) : Builtin.List.listTooLong n = false := by
  unfold Builtin.List.listTooLong
  exact decide_eq_false (by omega)
end
section
variable {X : Cx}
def rAppend : V → List V → Hp → VK → Prop := fun x vs H Q => ∃ l xs y, x = .ref l ∧ vs = [y] ∧ H l = some (.lst xs) ∧ xs.length < sizeLine ∧ Q .non (upd H l (.lst (xs ++ [y])))
theorem mt_append : MtM X "list.append" rAppend := by
  intro pins s σ H x vs v us Q I rx rv h
  obtain ⟨l, xs, y, rfl, rfl, hH, hz, q⟩ := h
  cases rx
  obtain ⟨u, rfl, ru⟩ := rv.one
  obtain ⟨z, its, n, r, hl, e⟩ := I.lstM hH
  refine call_meets F.slot_list_append ⟨_, e, rfl⟩ F.entry_list_append (F.args_list_append_2 _ _) (PySem.list_append l its.toArray n u (by rw [List.size_toArray]; omega)) ⟨e, ?_⟩
  refine ⟨.non, _, I.lset (its' := its ++ [u]) hH e (by simp) (r.append (.cons ru .nil)) ?_, rfl, q⟩
  rw [List.length_append, List.length_singleton]
  omega
def rExtend : V → List V → Hp → VK → Prop := fun x vs H Q => ∃ l b xs zs, x = .ref l ∧ vs = [.ref b] ∧ H l = some (.lst xs) ∧ H b = some (.lst zs) ∧ xs.length + zs.length ≤ sizeLine ∧ Q .non (upd H l (.lst (xs ++ zs)))
theorem mt_extend : MtM X "list.extend" rExtend := by
  intro pins s σ H x vs v us Q I rx rv h
  obtain ⟨l, b, xs, zs, rfl, rfl, hH, hB, hz, q⟩ := h
  cases rx
  obtain ⟨u, rfl, ru⟩ := rv.one
  cases ru
  obtain ⟨z, its, n, r, hl, e⟩ := I.lstM hH
  obtain ⟨z2, its2, n2, r2, hl2, e2⟩ := I.lstM hB
  have hsz : its.toArray.size + its2.toArray.size ≤ sizeLine := by rw [List.size_toArray, List.size_toArray]; omega
  have hlong : ¬ (!its.toArray.isEmpty && Builtin.List.listTooLong (its.toArray.size + its2.toArray.size)) = true := by
    rw [notLongL hsz, Bool.and_false]
    exact Bool.false_ne_true
  refine call_meets F.slot_list_extend ⟨_, e, rfl⟩ F.entry_list_extend (F.args_list_extend_2 _ _)
    (AutoSeq1.list_extend_list_list_0 l its.toArray n b its2.toArray n2 hlong (by rw [List.size_toArray]; omega) (by omega)) ⟨e, e2, ?_⟩
  refine ⟨.non, _, I.lset (its' := its ++ its2) hH e (by simp) (r.append r2) ?_, rfl, q⟩
  rw [List.length_append]
  omega
def rCat : R2 := fun x y H Q => ∃ l b xs zs, x = .ref l ∧ y = .ref b ∧ H l = some (.lst xs) ∧ H b = some (.lst zs) ∧ xs.length + zs.length ≤ sizeLine ∧ ∀ p, H p = none → Q (.ref p) (upd H p (.lst (xs ++ zs)))
theorem op_cat : OpR X (binaryOp .Add) rCat := by
  intro pins s σ H x y v u Q I rx ry h
  obtain ⟨l, b, xs, zs, rfl, rfl, hH, hB, hz, q⟩ := h
  cases rx
  cases ry
  obtain ⟨z, its, n, r, hl, e⟩ := I.lstM hH
  obtain ⟨z2, its2, n2, r2, hl2, e2⟩ := I.lstM hB
  refine PySem.P.add_list e e2 ?_ (by rw [List.size_toArray, List.size_toArray]; omega)
  have ea : its.toArray ++ its2.toArray = (its ++ its2).toArray := by simp
  rw [ea]
  exact ⟨.ref _, _, I.lnew (t' := s.toks) (r.append r2) (by rw [List.length_append]; omega), rfl, q _ I.fresh⟩
end
end L2
namespace L2
open PySem PySem.Spec PyProof.Rows
theorem Vals.ints : ∀ {ns : List Int} {us : List Value}, Vals (ns.map V.int) us → IntsAre us ns
  | [], us, h => by
    rw [List.map_nil] at h
    cases h
    exact IntsAre.nil
  | n :: ns, us, h => by
    rw [List.map_cons] at h
    cases h with
    | cons r t =>
      obtain ⟨k, rfl⟩ := r
      exact IntsAre.cons n k (Vals.ints t)
theorem Vals.strs : ∀ {xs : List Str} {us : List Value}, Vals (xs.map V.str) us → StrsAre us xs
  | [], us, h => by
    rw [List.map_nil] at h
    cases h
    exact StrsAre.nil
  | x :: xs, us, h => by
    rw [List.map_cons] at h
    cases h with
    | cons r t =>
      obtain ⟨k, rfl⟩ := r
      exact StrsAre.cons x k (Vals.strs t)
theorem Vals.bls : ∀ {bs : List Bool} {us : List Value}, Vals (bs.map V.bl) us → us = bs.map Value.bool
  | [], us, h => by
    rw [List.map_nil] at h
    cases h
    rfl
  | b :: bs, us, h => by
    rw [List.map_cons] at h
    cases h with
    | cons r t =>
      cases r
      rw [Vals.bls t, List.map_cons]
theorem Vals.ref1 {a : Addr} {us : List Value} (r : Vals [V.ref a] us) : us = [Value.ref a] := by
  cases r with
  | cons r t =>
    cases t
    cases r
    rfl
section
variable {prog : Program} {w : World} {A : Around} {E : Value → Shared → Prop} {s : Shared} {l : Addr} {its : List Value} {ns : List Int} {Q : Value → Shared → Prop}
theorem sum_raw (hh : A.handled = none) (hl : s.heap.IsList l its.toArray) (hi : IntsAre its ns)
    (h : ∀ h' tk t', (∀ b o, s.heap.get? b = some o → h'.get? b = some o) → Q (.int ns.sum t') { s with heap := h', toks := tk }) : wpAny (model prog w) A (call (.builtin "sum") [.ref l]) Q E s := by
  obtain ⟨xs, e⟩ := hi.allInts.items
  have hn : numsOf (intItems xs).toList = ns := by rw [← e]; exact hi.numsOf
  rw [nums_intItems] at hn
  rw [e] at hl
  refine PySem.sum_intListG hh hl fun h' tk t' hk => ?_
  have := h h' tk t' hk
  rw [preSum_eq, List.take_of_length_le (by simp), hn]; exact this
theorem max_raw (hh : A.handled = none) (hl : s.heap.IsList l its.toArray) (hi : IntsAre its ns) (hne : 0 < ns.length)
    (h : ∀ h' tk M t', (∀ b o, s.heap.get? b = some o → h'.get? b = some o) → M ∈ ns → (∀ a, a ∈ ns → a ≤ M) → Q (.int M t') { s with heap := h', toks := tk }) : wpAny (model prog w) A (call (.builtin "max") [.ref l]) Q E s := by
  obtain ⟨xs, e⟩ := hi.allInts.items
  have hn : numsOf (intItems xs).toList = ns := by rw [← e]; exact hi.numsOf
  rw [nums_intItems] at hn
  subst hn
  rw [e] at hl
  have hsz : 0 < xs.size := by simpa using hne
  refine PySem.max_intList hh hl hsz fun v h' tk hv hk => ?_
  obtain ⟨t, rfl⟩ := intItems_at hv
  obtain ⟨h1, h2⟩ := argBest_gt (numAt xs) (xs.size - 1)
  refine h h' tk _ t hk ?_ fun a ha => ?_
  · rw [numAt_eq]; exact PySem.getD_mem (by rw [List.length_map, Array.length_toList]; omega)
  · obtain ⟨j, hj, rfl⟩ := mem_getD ha
    rw [List.length_map, Array.length_toList] at hj
    rw [← numAt_eq]; exact h2 j (by omega)
theorem min_raw (hh : A.handled = none) (hl : s.heap.IsList l its.toArray) (hi : IntsAre its ns) (hne : 0 < ns.length)
    (h : ∀ h' tk M t', (∀ b o, s.heap.get? b = some o → h'.get? b = some o) → M ∈ ns → (∀ a, a ∈ ns → M ≤ a) → Q (.int M t') { s with heap := h', toks := tk }) : wpAny (model prog w) A (call (.builtin "min") [.ref l]) Q E s := by
  obtain ⟨xs, e⟩ := hi.allInts.items
  have hn : numsOf (intItems xs).toList = ns := by rw [← e]; exact hi.numsOf
  rw [nums_intItems] at hn
  subst hn
  rw [e] at hl
  have hsz : 0 < xs.size := by simpa using hne
  refine PySem.min_intList hh hl hsz fun v h' tk hv hk => ?_
  obtain ⟨t, rfl⟩ := intItems_at hv
  obtain ⟨h1, h2⟩ := argBest_lt (numAt xs) (xs.size - 1)
  refine h h' tk _ t hk ?_ fun a ha => ?_
  · rw [numAt_eq]; exact PySem.getD_mem (by rw [List.length_map, Array.length_toList]; omega)
  · obtain ⟨j, hj, rfl⟩ := mem_getD ha
    rw [List.length_map, Array.length_toList] at hj
    rw [← numAt_eq]; exact h2 j (by omega)
end
section
variable {X : Cx}
def rSum (K : PySem.W.Frag) : List V → Hp → VK → Prop := fun vs H Q => ∃ (a : Addr) (ns : List Int), vs = [V.ref a] ∧ SqL K H a (ns.map V.int) ∧ Q (.int ns.sum) H
def rMax (K : PySem.W.Frag) : List V → Hp → VK → Prop := fun vs H Q => ∃ (a : Addr) (ns : List Int), vs = [V.ref a] ∧ SqL K H a (ns.map V.int) ∧ 0 < ns.length ∧ ∀ m, m ∈ ns → (∀ y, y ∈ ns → y ≤ m) → Q (.int m) H
def rMin (K : PySem.W.Frag) : List V → Hp → VK → Prop := fun vs H Q => ∃ (a : Addr) (ns : List Int), vs = [V.ref a] ∧ SqL K H a (ns.map V.int) ∧ 0 < ns.length ∧ ∀ m, m ∈ ns → (∀ y, y ∈ ns → m ≤ y) → Q (.int m) H
theorem cr_sum (hc : X.calm = true) : CallR X (.builtin "sum") (rSum X.K) := by
  intro pins s σ H vs us Q I r h
  obtain ⟨a, ns, rfl, hs, q⟩ := h
  obtain ⟨its, rv, hl, _⟩ := I.list hs
  rw [Vals.ref1 r]
  exact sum_raw (I.ok.hd hc) hl.isList rv.ints fun h' tk t' hk => ⟨.int _, H, I.kept hk, ⟨_, rfl⟩, q⟩
theorem cr_max (hc : X.calm = true) : CallR X (.builtin "max") (rMax X.K) := by
  intro pins s σ H vs us Q I r h
  obtain ⟨a, ns, rfl, hs, hne, q⟩ := h
  obtain ⟨its, rv, hl, _⟩ := I.list hs
  rw [Vals.ref1 r]
  exact max_raw (I.ok.hd hc) hl.isList rv.ints hne fun h' tk m t' hk h1 h2 => ⟨.int _, H, I.kept hk, ⟨_, rfl⟩, q m h1 h2⟩
theorem cr_min (hc : X.calm = true) : CallR X (.builtin "min") (rMin X.K) := by
  intro pins s σ H vs us Q I r h
  obtain ⟨a, ns, rfl, hs, hne, q⟩ := h
  obtain ⟨its, rv, hl, _⟩ := I.list hs
  rw [Vals.ref1 r]
  exact min_raw (I.ok.hd hc) hl.isList rv.ints hne fun h' tk m t' hk h1 h2 => ⟨.int _, H, I.kept hk, ⟨_, rfl⟩, q m h1 h2⟩
end
section
variable {X : Cx}
def rIndex (K : PySem.W.Frag) : V → List V → Hp → VK → Prop := fun x xs H Q => ∃ (a : Addr) (ys : List V) (y : V) (j : Nat) (z : V), x = V.ref a ∧ xs = [y] ∧ SqL K H a ys ∧ flatV y = true ∧ ys.all flatV = true ∧ ys[j]? = some z ∧ eqV z y = true ∧
  (∀ (m : Nat) (z' : V), m < j → ys[m]? = some z' → eqV z' y = false) ∧ Q (.int (j : Nat)) H
theorem flat_at {ys : List V} (f : ys.all flatV = true) {j : Nat} {z : V} (h : ys[j]? = some z) : flatV z = true := List.all_eq_true.mp f z (List.mem_of_getElem? h)
theorem mt_index : MtR X "list.index" (rIndex X.K) := by
  intro pins s σ H x xs v us Q I rx rxs h
  obtain ⟨a, ys, y, j, z, rfl, rfl, hs, fy, fys, hz, hzj, hno, q⟩ := h
  cases rx
  cases rxs with
  | cons ry rt =>
    rename_i uy ut
    cases rt
    obtain ⟨its, rv, ⟨⟨cls, dd, data, sl⟩, n, ho, hc, hdn, hd⟩, hlen⟩ := I.list hs
    simp only at hc hd
    subst hc hd
    obtain ⟨u, hu, ru⟩ := rv.get hz
    obtain ⟨hjl, hje⟩ := List.getElem?_eq_some_iff.mp hu
    have hvl := rv.length
    have hj : j < its.toArray.size := by simpa using hjl
    have hsl := sizeLine_eq
    refine call_meets PySem.F.slot_list_index ⟨_, ho, rfl⟩ PySem.F.entry_list_index (PySem.F.args_list_index_2 _ _)
      (SeqAt.list_indexAt a its.toArray n dd sl uy (eqU y) j hj (by omega) ?_ ?_) ⟨ho, fun u' hu' => mem_eqAt ry fy rv fys u' (by simpa using hu'), ?_⟩
    · have e1 : its.toArray[j] = u := by simpa using hje
      rw [e1, eqU_of ru (flat_at fys hz)]
      exact hzj
    · intro m hm hmj
      have hml : m < its.length := by simpa using hm
      have hmy : m < ys.length := by omega
      have hy' : ys[m]? = some ys[m] := List.getElem?_eq_getElem hmy
      obtain ⟨u2, hu2, ru2⟩ := rv.get hy'
      obtain ⟨_, hme⟩ := List.getElem?_eq_some_iff.mp hu2
      have e1 : its.toArray[m] = u2 := by simpa using hme
      rw [e1, eqU_of ru2 (flat_at fys hy')]
      exact hno m _ hmj hy'
    · exact ⟨.int (j : Nat), H, I.tok _, ⟨_, rfl⟩, q⟩
end
theorem iter_any {prog : Program} {w : World} {A : Around} {E : Value → Shared → Prop} {s : Shared} {l : Addr} {items : Array Value} {Q : Value → Shared → Prop} (hl : s.heap.IsList l items)
    (h : ∀ s₂ : Shared, s₂ = { s with heap := s.heap.push { cls := .type "list_iterator", data := .fields #[.ref l, .int 0 0] } } →
      (s₂.heap.IsListIter s.heap.objs.size l 0 ∧ s₂.heap.IsList l items) → l ≠ s.heap.objs.size → Q (.ref s.heap.objs.size) s₂) : wpAny (model prog w) A (pyIter (.ref l)) Q E s := by
  have hlt : l < s.heap.objs.size := by obtain ⟨_, e, _⟩ := hl; exact Heap.lt_size e
  exact wpAny_pyIter_list hl (h _ rfl ⟨⟨_, Heap.get?_push_size _ rfl, rfl, rfl⟩, hl.push _⟩ (Nat.ne_of_lt hlt))
theorem truth_bools {prog : Program} {w : World} {A : Around} {bs : List Bool} {its : List Value} (e : its = bs.map Value.bool) :
    TruthOf prog w A (fun i v => its.toArray[i]? = some v) (fun i => bs.getD i false) := fun i v s Q E hv hq => by
  have hv' : its[i]? = some v := by simpa using hv
  rw [e, List.getElem?_map] at hv'
  obtain ⟨b, hb, rfl⟩ := Option.map_eq_some_iff.mp hv'
  have hg : bs.getD i false = b := by rw [List.getD_eq_getElem?_getD, hb] <;> rfl
  have hq' : Q (bs.getD i false) s := hq
  rw [hg] at hq'
  exact wpAny_truthy_bool hq'
theorem all_range : ∀ bs : List Bool, (List.range bs.length).all (fun i => bs.getD i false) = bs.all id
  | [] => rfl
  | b :: bs => by
    rw [List.length_cons, List.range_succ_eq_map, List.all_cons, List.all_map, List.all_cons, ← all_range bs]
    all_goals rfl
section
variable {X : Cx}
def rAll (K : PySem.W.Frag) : List V → Hp → VK → Prop := fun vs H Q => ∃ (a : Addr) (bs : List Bool), vs = [V.ref a] ∧ SqL K H a (bs.map V.bl) ∧ Q (.bl (bs.all id)) H
theorem cr_all (hc : X.calm = true) : CallR X (.builtin "all") (rAll X.K) := by
  intro pins s σ H vs us Q I r h
  obtain ⟨a, bs, rfl, hs, q⟩ := h
  obtain ⟨its, rv, hl, _⟩ := I.list hs
  rw [Vals.ref1 r]
  have hb := rv.bls
  refine call_all_walk (iter_any hl.isList fun s₂ e2 st hne => ?_)
  subst e2
  refine ⟨_, _, _, _, _, _, _, rfl, Walks.list (A := X.A.in1) (I.ok.hd hc) _ a hne its.toArray, st, truth_bools hb, fun h' tk hk => ?_⟩
  refine ⟨.bl _, H, I.kept fun b o eo => hk b o (fun hmem => ?_) (Heap.get?_push_of_some _ eo), ?_, q⟩
  · rcases List.mem_cons.mp hmem with e1 | hmem
    · exact absurd (e1 ▸ Heap.lt_size eo) (Nat.lt_irrefl _)
    · cases hmem
  · show Value.bool _ = Value.bool _
    rw [← all_range, hb, List.size_toArray, List.length_map]
end
mutual
inductive Dp (K : PySem.W.Frag) (H : Hp) : V → PyData → Prop
  | non : Dp K H .non .none
  | bl (b : Bool) : Dp K H (.bl b) (.bool b)
  | int (i : Int) : Dp K H (.int i) (.int i)
  | str (x : Str) : Dp K H (.str x) (.str x)
  | lst {a : Addr} {xs : List V} {ds : List PyData} : SqL K H a xs → DpAll K H xs ds → Dp K H (.ref a) (.list ds)
  | tup {a : Addr} {xs : List V} {ds : List PyData} : SqT K H a xs → DpAll K H xs ds → Dp K H (.ref a) (.tuple ds)
inductive DpAll (K : PySem.W.Frag) (H : Hp) : List V → List PyData → Prop
  | nil : DpAll K H [] []
  | cons {v : V} {vs : List V} {d : PyData} {ds : List PyData} : Dp K H v d → DpAll K H vs ds → DpAll K H (v :: vs) (d :: ds)
end
section
variable {X : Cx} {pins : List (Addr × Obj)} {σ : St} {H : Hp} {s : Shared}
mutual
theorem Dp.reads (I : Inv X pins σ H s) : ∀ (d : PyData) (v : V) (u : Value), Dp X.K H v d → RelV v u → ∃ as, Reads s.heap u d as
  | .none, _, _, h, r => by
    cases h
    cases r
    exact ⟨_, Reads.none⟩
  | .bool b, _, _, h, r => by
    cases h
    cases r
    exact ⟨_, Reads.bool b⟩
  | .int i, _, _, h, r => by
    cases h
    obtain ⟨t, rfl⟩ := r
    exact ⟨_, Reads.int i t⟩
  | .str x, _, _, h, r => by
    cases h
    obtain ⟨t, rfl⟩ := r
    exact ⟨_, Reads.str x t⟩
  | .list ds, _, _, h, r => by
    cases h with
    | lst hs ha =>
      cases r
      obtain ⟨its, rv, ⟨o, n, ho, hc, _, hd⟩, _⟩ := I.list hs
      obtain ⟨as, hr⟩ := Dp.readsAll I ds _ its ha rv
      exact ⟨_, Reads.list ho hc hd hr⟩
  | .tuple ds, _, _, h, r => by
    cases h with
    | tup hs ha =>
      cases r
      obtain ⟨its, rv, ⟨o, ho, hc, n, hd⟩, _⟩ := I.tuple hs
      obtain ⟨as, hr⟩ := Dp.readsAll I ds _ its ha rv
      exact ⟨_, Reads.tuple ho hc hd hr⟩
  | .dict _, _, _, h, _ => by cases h
theorem Dp.readsAll (I : Inv X pins σ H s) : ∀ (ds : List PyData) (vs : List V) (us : List Value), DpAll X.K H vs ds → Vals vs us → ∃ as, ReadsAll s.heap us ds as
  | [], _, _, h, r => by
    cases h
    cases r
    exact ⟨_, ReadsAll.nil⟩
  | d :: ds, _, _, h, r => by
    cases h with
    | cons h1 h2 =>
      cases r with
      | cons r1 r2 =>
        obtain ⟨as, q1⟩ := Dp.reads I d _ _ h1 r1
        obtain ⟨bs, q2⟩ := Dp.readsAll I ds _ _ h2 r2
        exact ⟨_, ReadsAll.cons q1 q2⟩
end
end
section
variable {X : Cx}
def rNeD (K : PySem.W.Frag) : R2 := fun x y H Q => ∃ d e, Dp K H x d ∧ Dp K H y e ∧ SeqAt.shaped d = true ∧ SeqAt.shaped e = true ∧ Q (.bl (!PyData.eqv d e)) H
theorem op_neD (hu : X.A.units + 64 < cLine) : OpR X (compareOp .NotEq) (rNeD X.K) := by
  intro pins s σ H x y v u Q I rx ry h
  obtain ⟨d, e, hd, he, sd, se, q⟩ := h
  obtain ⟨as, r1⟩ := Dp.reads I d x v hd rx
  obtain ⟨bs, r2⟩ := Dp.reads I e y u he ry
  exact SeqAt.compareNe_shaped r1 r2 sd se hu ⟨.bl _, H, I, rfl, q⟩
end
end L2
namespace L2
open PySem PySem.Spec PyProof.Rows
abbrev CellAt (h : Heap) (c : Addr) (v : Option Value) : Prop := h.IsCell c v
def relS (scope sc : Scope) : Scope :=
  { scope with names := scope.names.map fun (n, k) => if (k == .free && sc.kind == .function && sc.names.lookup n == some .cell) then (n, .cell) else (n, k) }
def cloFrom (cells : List (Str × Addr)) : List (Str × NameKind) → List (Str × Addr) → List (Str × Addr)
  | [], acc => acc
  | (n, k) :: r, acc => if k == .free then cloFrom cells r ((n, (cells.lookup n).getD 0) :: acc) else cloFrom cells r acc
theorem closure_loop (env : Env) (f : Str × NameKind → List (Str × Addr) → Sem (ForInStep (List (Str × Addr))))
    (hf : ∀ n k c, f (n, k) c = if k == .free then (do let a ← cellOf env n; pure (.yield ((n, a) :: c))) else pure (.yield c)) :
    ∀ (names : List (Str × NameKind)) (acc : List (Str × Addr)), (∀ y ∈ names, y.2 = .free → ∃ c, env.cells.lookup y.1 = some c) → forIn names acc f = pure (cloFrom env.cells names acc)
  | [], acc, _ => by rw [List.forIn_nil]; rfl
  | (n, k) :: r, acc, h => by
    rw [List.forIn_cons, hf]
    have ih := fun acc => closure_loop env f hf r acc fun y hy => h y (List.mem_cons_of_mem _ hy)
    unfold cloFrom
    by_cases hk : (k == NameKind.free) = true
    · rw [if_pos hk, if_pos hk]
      obtain ⟨c, hc⟩ := h (n, k) List.mem_cons_self (by simpa using hk)
      have e : cellOf env n = pure c := by unfold cellOf; rw [hc]
      rw [e]
      have e2 : (env.cells.lookup n).getD 0 = c := by rw [hc]; rfl
      rw [e2]
      exact ih _
    · rw [if_neg hk, if_neg hk]
      exact ih _
theorem closure_ok {scope : Scope} {env : Env} (h : ∀ y ∈ scope.names, y.2 = .free → ∃ c, env.cells.lookup y.1 = some c) : closureFor scope env = pure (cloFrom env.cells scope.names []) := by
  simp only [closureFor]
  rw [closure_loop env _ (fun n k c => rfl) scope.names [] h]
  rfl
theorem mem_lookup {α : Type} : ∀ {l : List (Str × α)} {n : Str} {c : α}, (n, c) ∈ l → ∃ c', l.lookup n = some c'
  | (k, v) :: r, n, c, h => by
    rw [List.lookup_cons]
    cases hb : n == k with
    | true => exact ⟨_, rfl⟩
    | false =>
      rcases List.mem_cons.mp h with e | h
      · cases e; simp at hb
      · exact mem_lookup h
theorem cloFrom_mem {cells : List (Str × Addr)} : ∀ {names : List (Str × NameKind)} {acc : List (Str × Addr)} {n : Str} {c : Addr}, (n, c) ∈ cloFrom cells names acc → (n, c) ∈ acc ∨ ((n, .free) ∈ names ∧ c = (cells.lookup n).getD 0)
  | [], _, _, _, h => .inl h
  | (m, k) :: r, acc, n, c, h => by
    unfold cloFrom at h
    split at h
    · rename_i hk
      have hk : k = .free := by simpa using hk
      rcases cloFrom_mem h with h | ⟨h1, h2⟩
      · rcases List.mem_cons.mp h with e | h
        · cases e; exact .inr ⟨hk ▸ List.mem_cons_self, rfl⟩
        · exact .inl h
      · exact .inr ⟨List.mem_cons_of_mem _ h1, h2⟩
    · rcases cloFrom_mem h with h | ⟨h1, h2⟩
      · exact .inl h
      · exact .inr ⟨List.mem_cons_of_mem _ h1, h2⟩
theorem cloFrom_acc {cells : List (Str × Addr)} : ∀ {names : List (Str × NameKind)} {acc : List (Str × Addr)} {p : Str × Addr}, p ∈ acc → p ∈ cloFrom cells names acc
  | [], _, _, h => h
  | (m, k) :: r, acc, p, h => by
    unfold cloFrom
    split
    · exact cloFrom_acc (List.mem_cons_of_mem _ h)
    · exact cloFrom_acc h
theorem cloFrom_has {cells : List (Str × Addr)} : ∀ {names : List (Str × NameKind)} {acc : List (Str × Addr)} {n : Str}, (n, .free) ∈ names → (n, (cells.lookup n).getD 0) ∈ cloFrom cells names acc
  | (m, k) :: r, acc, n, h => by
    unfold cloFrom
    rcases List.mem_cons.mp h with e | h
    · cases e
      exact cloFrom_acc List.mem_cons_self
    · split
      · exact cloFrom_has h
      · exact cloFrom_has h
theorem cells_mem : ∀ {names : List (Str × NameKind)} {h : Heap} {acc : List (Str × Addr)} {x : Str} {c : Addr}, (x, c) ∈ cellsFrom h.objs.size names acc →
    (x, c) ∈ acc ∨ ((x, .cell) ∈ names ∧ h.objs.size ≤ c ∧ CellAt (pushCells h names) c none)
  | [], _, _, _, _, h => .inl h
  | (n, k) :: r, h, acc, x, c, hm => by
    unfold cellsFrom at hm
    unfold pushCells
    split at hm
    · rename_i hk
      rw [if_pos hk]
      have hk : k = .cell := by simpa using hk
      rw [← Heap.size_push h { cls := .type "cell", data := .cell none }] at hm
      rcases cells_mem hm with hm | ⟨h1, h2, h3⟩
      · rcases List.mem_cons.mp hm with e | hm
        · cases e
          exact .inr ⟨hk ▸ List.mem_cons_self, Nat.le_refl _, _, pushCells_keeps r _ _ _ (Heap.get?_push_size _ rfl), rfl⟩
        · exact .inl hm
      · rw [Heap.size_push] at h2
        exact .inr ⟨List.mem_cons_of_mem _ h1, Nat.le_of_succ_le h2, h3⟩
    · rename_i hk
      rw [if_neg hk]
      rcases cells_mem hm with hm | ⟨h1, h2, h3⟩
      · exact .inl hm
      · exact .inr ⟨List.mem_cons_of_mem _ h1, h2, h3⟩
theorem cells_acc : ∀ {names : List (Str × NameKind)} {n : Nat} {acc : List (Str × Addr)} {p : Str × Addr}, p ∈ acc → p ∈ cellsFrom n names acc
  | [], _, _, _, h => h
  | (m, k) :: r, n, acc, p, h => by
    unfold cellsFrom
    split
    · exact cells_acc (List.mem_cons_of_mem _ h)
    · exact cells_acc h
theorem cells_has : ∀ {names : List (Str × NameKind)} {n : Nat} {acc : List (Str × Addr)} {x : Str}, (x, .cell) ∈ names → ∃ c, (x, c) ∈ cellsFrom n names acc
  | (m, k) :: r, n, acc, x, h => by
    unfold cellsFrom
    rcases List.mem_cons.mp h with e | h
    · cases e
      exact ⟨n, cells_acc List.mem_cons_self⟩
    · split
      · exact cells_has h
      · exact cells_has h
theorem cells_inj : ∀ {names : List (Str × NameKind)} {h : Heap} {acc : List (Str × Addr)} {x y : Str} {c : Addr}, (∀ p ∈ acc, p.2 < h.objs.size) → (∀ x y c, (x, c) ∈ acc → (y, c) ∈ acc → x = y) →
    (x, c) ∈ cellsFrom h.objs.size names acc → (y, c) ∈ cellsFrom h.objs.size names acc → x = y
  | [], _, _, _, _, _, _, hi, h1, h2 => hi _ _ _ h1 h2
  | (n, k) :: r, h, acc, x, y, c, hl, hi, h1, h2 => by
    unfold cellsFrom at h1 h2
    split at h1
    · rename_i hk
      rw [if_pos hk] at h2
      rw [← Heap.size_push h { cls := .type "cell", data := .cell none }] at h1 h2
      refine cells_inj (h := h.push _) (fun p hp => ?_) (fun x y c a b => ?_) h1 h2
      · rw [Heap.size_push]
        rcases List.mem_cons.mp hp with rfl | hp
        · exact Nat.lt_succ_self _
        · exact Nat.lt_succ_of_lt (hl p hp)
      · rcases List.mem_cons.mp a with e | a <;> rcases List.mem_cons.mp b with e' | b
        · cases e; cases e'; rfl
        · cases e; exact absurd (hl _ b) (Nat.lt_irrefl _)
        · cases e'; exact absurd (hl _ a) (Nat.lt_irrefl _)
        · exact hi _ _ _ a b
    · rename_i hk
      rw [if_neg hk] at h2
      exact cells_inj hl hi h1 h2
theorem newEnv_comp {M : Model} {A : Around} {E : Value → Shared → Prop} {s : Shared} {scope : Scope} {globals : Addr} {closure : List (Str × Addr)} {qual : Str} {func : Option Addr} {code : Value} {around : Env} {builtins : Addr} {Q : Env → Shared → Prop}
    (h : Q (newEnv scope s.heap.objs.size globals (cellsFrom (s.heap.objs.size + 1) scope.names closure) qual func code (some around) builtins)
      { s with heap := pushCells (s.heap.push { cls := .type "dict", data := .dict #[] }) scope.names }) :
    wpAny M A (newFunctionEnv scope globals closure [] qual func code (some around) builtins) Q E s := by
  simp only [newFunctionEnv, Option.isSome_some, if_true]
  refine wpAny_bind (wpAny_alloc ?_)
  refine wpAny_bind (wpAny_layCells _ (fun n k c => rfl) scope.names closure _ _ ?_)
  rw [show ({ s with heap := s.heap.push { cls := .type "dict", data := .dict #[] } } : Shared).heap.objs.size = s.heap.objs.size + 1 from Heap.size_push ..]
  rw [List.forIn_nil]
  exact wpAny_bind (wpAny_pure (wpAny_pure h))
theorem lookup_relS {sc : Scope} : ∀ {names : List (Str × NameKind)} {x : Str} {k : NameKind},
    (names.map fun (n, k) => if (k == NameKind.free && sc.kind == .function && sc.names.lookup n == some .cell) then (n, NameKind.cell) else (n, k)).lookup x = some k →
    ∃ k', names.lookup x = some k' ∧ (k = k' ∨ (k' = .free ∧ k = .cell))
  | [], _, _, h => by simp at h
  | (n, k₀) :: r, x, k, h => by
    have ih := @lookup_relS sc r x k
    have h' : List.lookup x ((if (k₀ == NameKind.free && sc.kind == .function && sc.names.lookup n == some .cell) = true then (n, NameKind.cell) else (n, k₀)) :: (r.map _)) = some k := h
    cases hx : x == n with
    | true =>
      simp only [List.lookup_cons, hx]
      by_cases hc : (k₀ == NameKind.free && sc.kind == .function && sc.names.lookup n == some .cell) = true
      · rw [if_pos hc] at h'
        simp only [List.lookup_cons, hx] at h'
        cases h'
        simp only [Bool.and_eq_true, beq_iff_eq] at hc
        exact ⟨k₀, rfl, .inr ⟨hc.1.1, rfl⟩⟩
      · rw [if_neg hc] at h'
        simp only [List.lookup_cons, hx] at h'
        cases h'
        exact ⟨_, rfl, .inl rfl⟩
    | false =>
      simp only [List.lookup_cons, hx]
      by_cases hc : (k₀ == NameKind.free && sc.kind == .function && sc.names.lookup n == some .cell) = true
      · rw [if_pos hc] at h'
        simp only [List.lookup_cons, hx] at h'
        exact ih h'
      · rw [if_neg hc] at h'
        simp only [List.lookup_cons, hx] at h'
        exact ih h'
structure BlkOk (N : List Str) (sc scope : Scope) (own : List (Str × Nat)) : Prop where
  kind : scope.kind = .function
  uniq : ∀ y ∈ scope.names, scope.names.lookup y.1 = some y.2
  ix : ∀ p ∈ own, N[p.2]? = some p.1
  free : ∀ y ∈ scope.names, y.2 = .free → sc.names.lookup y.1 = some .cell ∨ sc.names.lookup y.1 = some .free
  own : ∀ y ∈ scope.names, y.2 = .local ∨ y.2 = .cell → y.1 ∈ own.map (·.1) ∨ y.1 ∉ N
def wipe (σ : St) : List Nat → St
  | [] => σ
  | v :: vs => (wipe σ vs).set v none
theorem wipe_length (σ : St) : ∀ vs : List Nat, (wipe σ vs).length = σ.length
  | [] => rfl
  | v :: vs => by unfold wipe; rw [List.length_set, wipe_length σ vs]
theorem wipe_some {σ : St} {i : Nat} {x : V} : ∀ {vs : List Nat}, (wipe σ vs)[i]? = some (some x) → σ[i]? = some (some x) ∧ i ∉ vs
  | [], h => ⟨h, by simp⟩
  | v :: vs, h => by
    unfold wipe at h
    by_cases hi : v = i
    · subst hi
      by_cases hv : v < (wipe σ vs).length
      · rw [List.getElem?_set_self hv] at h; cases h
      · rw [List.getElem?_eq_none (by simpa using hv)] at h; cases h
    · rw [List.getElem?_set_ne hi] at h
      obtain ⟨h1, h2⟩ := wipe_some h
      exact ⟨h1, by simp only [List.mem_cons, not_or]; exact ⟨fun e => hi e.symm, h2⟩⟩
abbrev Cx.blk (X : Cx) (s : Shared) (H : Hp) (scope : Scope) (cenv : Env) (fp : List Addr) : Cx := { X with s_0 := s, H_0 := H, env := cenv, outer := X.stack, ex := fp, fn := fun x => scope.names.lookup x == some .cell, pn := [], xe := fun _ _ => False }
section
variable {X : Cx} {pins : List (Addr × Obj)} {σ : St} {H : Hp} {s : Shared}
theorem block_start {scope : Scope} {own : List (Str × Nat)} {fp : List Addr} (I : Inv X pins σ H s) (ok : BlkOk X.N X.env.scope scope own) (hN : X.N.Nodup) (hfp : ∀ b ∈ fp, FpOk X pins H b ∧ b < s.heap.objs.size) :
    Inv (X.blk s H scope (compEnvC scope (cellsFrom (s.heap.objs.size + 1) scope.names (cloFrom X.env.cells scope.names [])) s.heap.objs.size X.env) fp) [] (wipe σ (own.map (·.2))) H { s with heap := pushCells (s.heap.push { cls := .type "dict", data := .dict #[] }) scope.names } := by
  have hfree : ∀ y ∈ scope.names, y.2 = .free → ∃ c, X.env.cells.lookup y.1 = some c := fun y hy e => by
    rcases ok.free y hy e with k | k
    · exact I.ok.has _ (.inl k)
    · exact I.ok.has _ (.inr k)
  generalize hcenv : compEnvC scope (cellsFrom (s.heap.objs.size + 1) scope.names (cloFrom X.env.cells scope.names [])) s.heap.objs.size X.env = cenv
  have kp : ∀ b o, s.heap.get? b = some o → (pushCells (s.heap.push { cls := .type "dict", data := .dict #[] }) scope.names).get? b = some o := fun b o e => pushCells_keeps _ _ _ _ (Heap.get?_push_of_some _ e)
  have hL : cenv.locals = s.heap.objs.size := by rw [← hcenv]; rfl
  have hcl : cenv.cells = cellsFrom (s.heap.objs.size + 1) scope.names (cloFrom X.env.cells scope.names []) := by rw [← hcenv]; rfl
  have hsc : cenv.scope = relS scope X.env.scope := by rw [← hcenv]; rfl
  rw [← Heap.size_push s.heap { cls := .type "dict", data := .dict #[] }] at hcl
  have cm : ∀ {y c}, (y, c) ∈ cloFrom X.env.cells scope.names [] → X.env.cells.lookup y = some c ∧ c < s.heap.objs.size := fun {y c} hm => by
    rcases cloFrom_mem hm with hm | ⟨h1, rfl⟩
    · cases hm
    · obtain ⟨c, hc⟩ := hfree _ h1 rfl
      rw [hc]
      obtain ⟨w, z⟩ := I.cell _ _ hc
      exact ⟨rfl, z.lt⟩
  have mem : ∀ {y c}, cenv.cells.lookup y = some c → (X.env.cells.lookup y = some c ∧ c < s.heap.objs.size) ∨ (s.heap.objs.size + 1 ≤ c ∧ CellAt (pushCells (s.heap.push { cls := .type "dict", data := .dict #[] }) scope.names) c none) := fun {y c} e => by
    rw [hcl] at e
    rcases cells_mem (PySem.mem_of_lookup e) with hm | ⟨_, h2, h3⟩
    · exact .inl (cm hm)
    · rw [Heap.size_push] at h2; exact .inr ⟨h2, h3⟩
  have look : ∀ {y}, scope.names.lookup y = some .free → ∃ c, cenv.cells.lookup y = some c ∧ X.env.cells.lookup y = some c := fun {y} hl => by
    have hy : (y, NameKind.free) ∈ scope.names := PySem.mem_of_lookup hl
    obtain ⟨c', e'⟩ := mem_lookup (cells_acc (names := scope.names) (n := (s.heap.push { cls := .type "dict", data := .dict #[] }).objs.size) (cloFrom_has (cells := X.env.cells) (acc := []) hy))
    rw [← hcl] at e'
    refine ⟨c', e', ?_⟩
    rw [hcl] at e'
    rcases cells_mem (PySem.mem_of_lookup e') with hm | ⟨h1, _, _⟩
    · exact (cm hm).1
    · have := ok.uniq _ h1
      rw [hl] at this; cases this
  have okB : (X.blk s H scope cenv fp).Ok := by
    refine ⟨I.ok.mod, by show cenv.scope.kind = _; rw [hsc]; exact ok.kind, by show cenv.globals = _; rw [← hcenv]; exact I.ok.glob, by show cenv.builtins = _; rw [← hcenv]; exact I.ok.blt, by show s.heap.objs.size ≤ cenv.locals; rw [hL]; exact Nat.le_refl _,
      fun y z c e1 e2 => ?_, fun y hy => ?_, fun y c z e => ?_, I.ok.hd, I.ok.frames, .inl rfl, fun b hb => ⟨?_, fun y c e z => ?_⟩, I.bs, Nat.le_trans I.ok.bsz I.sz, fun b o e hb => ?_, fun b hb z => ?_, I.stack, I.stkFree⟩
    · have e1 : cenv.cells.lookup y = some c := e1
      have e2 : cenv.cells.lookup z = some c := e2
      rw [hcl] at e1 e2
      refine cells_inj (fun p hp => ?_) (fun y z c a b => I.ok.inj y z c (cm a).1 (cm b).1) (PySem.mem_of_lookup e1) (PySem.mem_of_lookup e2)
      rw [Heap.size_push]
      exact Nat.lt_succ_of_lt (cm (y := p.1) (c := p.2) hp).2
    · show ∃ c, cenv.cells.lookup y = some c
      have key : ∀ k, cenv.kindOf y = some k → (k = .cell ∨ k = .free) → ∃ c, cenv.cells.lookup y = some c := fun k hk hk' => by
        unfold Env.kindOf at hk
        rw [hsc] at hk
        obtain ⟨k', e, r⟩ := lookup_relS hk
        have : k' = .cell ∨ k' = .free := by
          rcases r with rfl | ⟨rfl, _⟩
          · exact hk'
          · exact .inr rfl
        rcases this with rfl | rfl
        · obtain ⟨c, hm⟩ := cells_has (n := (s.heap.push { cls := .type "dict", data := .dict #[] }).objs.size) (acc := cloFrom X.env.cells scope.names []) (PySem.mem_of_lookup e)
          obtain ⟨c', e'⟩ := mem_lookup hm
          exact ⟨c', by rw [hcl]; exact e'⟩
        · obtain ⟨c, h1, _⟩ := look e
          exact ⟨c, h1⟩
      rcases hy with hy | hy
      · exact key _ hy (.inl rfl)
      · exact key _ hy (.inr rfl)
    · have z : (scope.names.lookup y == some NameKind.cell) = true := z
      have z : scope.names.lookup y = some .cell := by simpa using z
      have e : cenv.cells.lookup y = some c := e
      rw [hcl] at e
      rcases cells_mem (PySem.mem_of_lookup e) with hm | ⟨_, h2, _⟩
      · rcases cloFrom_mem hm with hm | ⟨h1, _⟩
        · cases hm
        · have q := ok.uniq _ h1
          rw [z] at q; cases q
      · rw [Heap.size_push] at h2
        exact Nat.le_of_succ_le h2
    · show b ≠ cenv.locals
      rw [hL]; exact Nat.ne_of_lt (hfp b hb).2
    · have e : cenv.cells.lookup y = some c := e
      rcases mem e with ⟨h1, _⟩ | ⟨h1, _⟩
      · exact (hfp b hb).1.2.2.2.2.1 y c h1 z
      · have h2 : s.heap.objs.size + 1 ≤ b := by rw [← z]; exact h1
        exact absurd (Nat.lt_of_lt_of_le (hfp b hb).2 (Nat.le_of_succ_le h2)) (Nat.lt_irrefl _)
    · rcases (hfp b hb).1.2.2.2.1 with z | z
      · exact I.ok.noex b o e z
      · exact absurd (Nat.lt_of_lt_of_le (Heap.lt_size e) (Nat.le_trans I.ok.bsz z)) (Nat.lt_irrefl _)
    · rcases List.mem_cons.mp (I.stkSub b z) with z | z
      · exact (hfp b hb).1.2.1 z
      · exact (hfp b hb).1.2.2.1 z
  refine ⟨okB, rfl, I.bare, Un.kept kp, ⟨fun _ => none, ?_, fun i y av e1 e2 e3 => ?_⟩, fun y c e => ?_, ?_, fun y c e => ?_, fun p hp => ?_, I.hok.kept kp, by rw [wipe_length]; exact I.len⟩
  · show Heap.Ns _ cenv.locals _
    rw [hL]
    exact Heap.Ns.keeps (Heap.Ns.new ..) fun b o e => pushCells_keeps _ _ _ _ e
  · obtain ⟨e2, hne⟩ := wipe_some e2
    have hfr : scope.names.lookup y = some .free ∧ (cenv.kindOf y = some .cell ∨ cenv.kindOf y = some .free) := by
      have key : ∀ k, cenv.scope.names.lookup y = some k → k = .local ∨ k = .cell ∨ k = .free → scope.names.lookup y = some .free ∧ (cenv.kindOf y = some .cell ∨ cenv.kindOf y = some .free) := fun k hk hk' => by
        have hk0 := hk
        rw [hsc] at hk
        obtain ⟨k', e, r⟩ := lookup_relS hk
        have no : ¬ (k' = .local ∨ k' = .cell) := fun hh => by
          rcases ok.own _ (PySem.mem_of_lookup e) hh with e' | e'
          · obtain ⟨p, hp, hpy⟩ := List.mem_map.mp e'
            have e3 := ok.ix p hp
            have : p.1 = y := hpy
            rw [this] at e3
            exact hne (List.mem_map.mpr ⟨p, hp, nodup_ix hN e3 e1⟩)
          · exact e' (List.mem_of_getElem? e1)
        rcases r with rfl | ⟨rfl, rfl⟩
        · rcases hk' with rfl | rfl | rfl
          · exact absurd (.inl rfl) no
          · exact absurd (.inr rfl) no
          · exact ⟨e, .inr hk0⟩
        · exact ⟨e, .inl hk0⟩
      have e3 : Vis cenv.scope y := e3
      rcases e3 with e3 | e3 | e3
      · exact key _ e3 (.inl rfl)
      · exact key _ e3 (.inr (.inl rfl))
      · exact key _ e3 (.inr (.inr rfl))
    obtain ⟨m, hn, hl⟩ := I.loc
    have hvis : Vis X.env.scope y := (ok.free _ (PySem.mem_of_lookup hfr.1) rfl).elim (fun k => .inr (.inl k)) (fun k => .inr (.inr k))
    obtain ⟨w, r, q⟩ := hl i y av e1 e2 hvis
    refine ⟨w, r, .inr ⟨hfr.2, ?_⟩⟩
    obtain ⟨c, h1, h2⟩ := look hfr.1
    rcases q with ⟨k, _⟩ | ⟨_, c', e', z⟩
    · have k : X.env.scope.names.lookup y = some .local := k
      rcases ok.free _ (PySem.mem_of_lookup hfr.1) rfl with k' | k' <;> rw [show X.env.scope.names.lookup y = _ from k'] at k <;> cases k
    · rw [h2] at e'; cases e'
      exact ⟨c, h1, z.keeps kp⟩
  · have e : cenv.cells.lookup y = some c := e
    rcases mem e with ⟨h1, _⟩ | ⟨_, z⟩
    · obtain ⟨w, z⟩ := I.cell y c h1
      exact ⟨w, z.keeps kp⟩
    · exact ⟨_, z⟩
  · show H cenv.locals = none
    rw [hL]; exact I.hok.fresh (Nat.le_refl _)
  · have e : cenv.cells.lookup y = some c := e
    rcases mem e with ⟨h1, _⟩ | ⟨h1, _⟩
    · exact I.freeC y c h1
    · exact I.hok.fresh (Nat.le_of_succ_le h1)
  · exact absurd (show p ∈ ([] : List (Addr × Obj)) ++ [] from hp) (by simp)
theorem app_ok {E : Value → Shared → Prop} {D : Addr} {xs : List V} {y : V} {v : Value} {Q : Value → Shared → Prop} (I : Inv X pins σ H s) (hD : H D = some (.lst xs)) (hz : xs.length < sizeLine) (r : RelV y v)
    (h : ∀ s', Inv X pins σ (upd H D (.lst (xs ++ [y]))) s' → Q .none s') : wpAny (model X.prog X.w) X.A (call (.builtin "list.append") [.ref D, v]) Q E s := by
  obtain ⟨hz', its, n, ri, e⟩ := I.hok D _ hD
  have hl := ri.length
  refine append_at (hsz := by rw [List.size_toArray]; omega) e fun h' sb ho' => ?_
  refine h { s with heap := h' } (I.write (t' := s.toks) (by rw [hD]; trivial) (.inl rfl) (fun b u hb q => (sb.2 b hb).trans q) ⟨_, ho'⟩ ⟨by rw [List.length_append]; exact hz, its ++ [v], n + 1, ri.append (.cons r .nil), ?_⟩)
  rw [ho']
  simp
def PTs (X : Cx) (ifs : List Expr) (t : TT) : Prop :=
  ∀ (pins : List (Addr × Obj)) (s : Shared) (σ : St) (H : Hp) (Q : Bool → Hp → Prop), Inv X pins σ H s → t σ H Q →
    wpAny (model X.prog X.w) X.A (forIn ifs true fun c r => if r = true then do let ok ← isTrue c X.env (eval c X.env); pure (ForInStep.yield ok) else pure (ForInStep.yield r)) (TP X pins σ Q) X.xe s
def tYes : TT := fun _ H Q => Q true H
theorem pts_nil : PTs X [] tYes := fun _ _ _ H _ I h => wpAny_tests_nil ⟨H, I, h⟩
theorem pts_one {c : Expr} {t : TT} (h : PT X c t) : PTs X [c] t := fun pins s σ H Q I hw => wpAny_tests_one (h pins s σ H Q I hw)
end
theorem thnF {α : Type} {t : Sem α} {Q Q' : α → Shared → Prop} {M : Model} {A : Around} {E : Value → Shared → Prop} {s : Shared} (h : wpAny M A t Q (fun _ _ => False) s) (hQ : ∀ a s, Q a s → Q' a s) : wpAny M A t Q' E s := wpAny_mono h hQ fun _ _ z => False.elim z
theorem compLoop_any {prog : Program} {w : World} {A : Around} {R : Result → Shared → Prop} {s : Shared} {elt target iter : Expr} {ifs : List Expr} {scope : Scope} {pos : Pos} {it acc : Value} {env : Env} (I : Nat → Shared → Prop)
    (turn : ∀ n s, I n s → wpAny (model prog w) A (pyNext it) (fun r s₁ => match r with
      | none => R (.ok .next) s₁
      | some v => wpAny (model prog w) A (letOwnedTupleGo target it v) (fun _ s₁' => wpAny (model prog w) A (assign target env v) (fun _ s₂ =>
          wpAny (model prog w) A (forIn ifs true fun c r => if r = true then do let ok ← isTrue c env (eval c env); pure (ForInStep.yield ok) else pure (ForInStep.yield r)) (fun ok s₃ =>
            if ok = true then wpAny (model prog w) A (eval elt env) (fun x s₄ =>
              wpAny (model prog w) A (call (.builtin "list.append") [acc, x]) (fun _ s₅ => ∃ m, m < n ∧ I m s₅) (notedBy (model prog w) A env fun e s' => R (.error e) s') s₄) (notedBy (model prog w) A env fun e s' => R (.error e) s') s₃
            else ∃ m, m < n ∧ I m s₃) (notedBy (model prog w) A env fun e s' => R (.error e) s') s₂) (notedBy (model prog w) A env fun e s' => R (.error e) s') s₁') (notedBy (model prog w) A env fun e s' => R (.error e) s') s₁) (notedBy (model prog w) A env fun e s' => R (.error e) s') s)
    (n : Nat) (h : I n s) :
    codeAny (model prog w) A (.compLoop (.ListComp elt [⟨target, iter, ifs, 0⟩] scope pos) 0 it acc env) R s := by
  refine codeAny_loop rfl I (fun n s hI => ?_) n h
  show wpAny _ A ((compTurn (.ListComp elt [⟨target, iter, ifs, 0⟩] scope pos) 0 it acc env).onRaise (fun x => do noteFrame x env; theTreesLotGoes x)) _ _ s
  refine wpAny_noted ?_
  rw [compTurn_list]
  refine wpAny_bind (wpAny_standAt (wpAny_bind (wpAny_mono (turn n s hI) (fun r s₁ h₁ => ?_) fun _ _ h' => h')))
  cases r with
  | none => exact wpAny_pure h₁
  | some v =>
    refine wpAny_bind (wpAny_mono h₁ (fun _ s₁' h₁' => ?_) fun _ _ h' => h')
    refine wpAny_bind (wpAny_mono h₁' (fun _ s₂ h₂ => wpAny_bind (wpAny_mono h₂ (fun ok s₃ h₃ => ?_) fun _ _ h' => h')) fun _ _ h' => h')
    cases ok with
    | false => exact wpAny_pure ⟨rfl, h₃⟩
    | true =>
      exact wpAny_bind (wpAny_bind (wpAny_mono h₃ (fun x s₄ h₄ => wpAny_bind (wpAny_mono h₄ (fun _ s₅ h₅ => wpAny_pure (wpAny_pure ⟨rfl, h₅⟩)) fun _ _ h' => h')) fun _ _ h' => h'))
section
variable {X : Cx}
def tLc (wi : TI) (g : TG) (tt : TT) (te : TE) (vs : List Nat) : TE := fun σ H Q => wi σ H fun J H1 => ∀ D, H1 D = none → ∃ W : Nat → Nat → Hp → Prop, (∃ m, W 0 m (upd H1 D (.lst []))) ∧ ∀ i m H, W i m H →
  (J.stop i H ∧ Q (.ref D) H) ∨ (J.go i H ∧ ∃ Nx : Hp → Prop, (∀ H', Nx H' → ∃ m', m' < m ∧ W (i + 1) m' H') ∧ ∀ x H', J.yld i H x H' → g x (wipe σ vs) H' fun σ2 H2 => wipe σ2 vs = wipe σ vs ∧ tt σ2 H2 fun b H3 =>
    if b = true then te σ2 H3 fun y H4 => ∃ acc, H4 D = some (.lst acc) ∧ acc.length < sizeLine ∧ Nx (upd H4 D (.lst (acc ++ [y]))) else Nx H3)
theorem lc_core {pins : List (Addr × Obj)} {s : Shared} {σ : St} {H : Hp} {Q : VK} {elt tg iter : Expr} {ifs : List Expr} {scope : Scope} {own : List (Str × Nat)} {pos pos' : Pos} {wi : TI} {g : TG} {tt : TT} {te : TE} {use : Option (Value → Sem Unit)} {Qf : Value → Shared → Prop}
    (hc : X.calm = true) (hN : X.N.Nodup) (I : Inv X pins σ H s) (hi : PI X tg iter wi) (ok : BlkOk X.N X.env.scope scope own)
    (hg : ∀ (s : Shared) (H : Hp) (C : Addr) (cl : List (Str × Addr)) (fp : List Addr), PG (X.blk s H scope (compEnvC scope cl C X.env) fp) tg g) (ht : ∀ (s : Shared) (H : Hp) (C : Addr) (cl : List (Str × Addr)) (fp : List Addr), PTs (X.blk s H scope (compEnvC scope cl C X.env) fp) ifs tt)
    (he : ∀ (s : Shared) (H : Hp) (C : Addr) (cl : List (Str × Addr)) (fp : List Addr), PE (X.blk s H scope (compEnvC scope cl C X.env) fp) elt te) (hs : ∀ x, foldedSetIterable iter X.env x = pure x)
    (h : tLc wi g tt te (own.map (·.2)) σ H Q)
    (hRR : ∀ D C s' m H', Inv X pins σ H' s' → Q (.ref D) H' → s'.heap.Ns C m → FpOk X pins H' C → compPost (model X.prog X.w) X.A X.xe use Qf (.ref D) C (.ok .next) s') :
    wpAny (model X.prog X.w) X.A (comprehension (.ListComp elt [⟨tg, iter, ifs, 0⟩] scope pos) scope X.env pos' (newList []) false (eval iter X.env) use) Qf X.xe s := by
  have hfree : ∀ y ∈ scope.names, y.2 = .free → ∃ c, X.env.cells.lookup y.1 = some c := fun y hy e => by
    rcases ok.free y hy e with k | k
    · exact I.ok.has _ (.inl k)
    · exact I.ok.has _ (.inr k)
  refine wpAny_comprehension_free (use := use) rfl hs (closure_ok hfree) ok.kind (fun y hy e => by rw [ok.uniq y hy, e])
    (thn (hi pins s σ H _ I h) fun xv s1 hx => thn hx fun itv s2 h2 => ?_)
  obtain ⟨it, fp, tn, J, H2, e, I2, T, st2, f2, q⟩ := h2
  subst e
  refine wpAny_newObj_type (newEnv_comp ?_) (by show 0 ≤ sizeLine; decide)
  generalize hD : s2.heap.objs.size = D
  have hDn : H2 D = none := I2.hok.fresh (Nat.le_of_eq hD)
  obtain ⟨W, ⟨m0, w0⟩, turn⟩ := q D hDn
  generalize hs3 : ({ s2 with heap := s2.heap.push { cls := .type "list", data := .seq ([] : List Value).toArray } } : Shared) = s3
  have I3 : Inv X pins σ (upd H2 D (.lst [])) s3 := by
    rw [← hs3]
    refine I2.laid (t' := s2.toks) (fun b o e => Heap.get?_push_of_some _ e) (Nat.le_of_eq hD) ⟨Nat.zero_le _, [], 0, .nil, ?_⟩
    rw [← hD]
    exact Heap.get?_push_size _ rfl
  have h3 : s3.heap = s2.heap.push { cls := .type "list", data := .seq ([] : List Value).toArray } := by rw [← hs3]
  have sz : ∀ b ∈ fp, b < s2.heap.objs.size := fun b hb => by
    obtain ⟨o, e, _⟩ := T.obj _ _ st2 b hb
    exact Heap.lt_size e
  have f3 : ∀ b ∈ fp, FpOk X pins (upd H2 D (.lst [])) b ∧ b < s3.heap.objs.size := fun b hb => by
    have hlt := sz b hb
    refine ⟨⟨?_, (f2 b hb).2⟩, by rw [h3, Heap.size_push]; exact Nat.lt_succ_of_lt hlt⟩
    rw [upd_ne (by rw [← hD]; exact Nat.ne_of_lt hlt)]
    exact (f2 b hb).1
  have st3 : tn 0 s3.heap := T.keep _ _ _ st2 fun b _ o e => by rw [h3]; exact Heap.get?_push_of_some _ e
  have I4 := block_start I3 ok hN f3
  have pg := hg s3 (upd H2 D (.lst [])) s3.heap.objs.size (cellsFrom (s3.heap.objs.size + 1) scope.names (cloFrom X.env.cells scope.names [])) fp
  have pt := ht s3 (upd H2 D (.lst [])) s3.heap.objs.size (cellsFrom (s3.heap.objs.size + 1) scope.names (cloFrom X.env.cells scope.names [])) fp
  have pe := he s3 (upd H2 D (.lst [])) s3.heap.objs.size (cellsFrom (s3.heap.objs.size + 1) scope.names (cloFrom X.env.cells scope.names [])) fp
  show codeAny _ _ (.compStart (.ListComp elt [⟨tg, iter, ifs, 0⟩] scope pos) 0 (.ref it) (.ref D) (compEnvC scope (cellsFrom (s3.heap.objs.size + 1) scope.names (cloFrom X.env.cells scope.names [])) s3.heap.objs.size X.env)) (compPost (model X.prog X.w) X.A X.xe use Qf (.ref D) s3.heap.objs.size) { s3 with heap := pushCells (s3.heap.push { cls := .type "dict", data := .dict #[] }) scope.names }
  have nfp : ∀ b ∈ fp, (upd H2 D (.lst [])) b = none := fun b hb => (f3 b hb).1.1
  generalize hce : compEnvC scope (cellsFrom (s3.heap.objs.size + 1) scope.names (cloFrom X.env.cells scope.names [])) s3.heap.objs.size X.env = ce at I4 pg pt pe ⊢
  have cL : ce.locals = s3.heap.objs.size := by subst hce; rfl
  generalize hH3 : upd H2 D (.lst []) = H3 at I3 I4 pg pt pe w0 nfp f3
  generalize hs4 : ({ s3 with heap := pushCells (s3.heap.push { cls := .type "dict", data := .dict #[] }) scope.names } : Shared) = s4 at I4 ⊢
  have st4 : tn 0 s4.heap := T.keep _ _ _ st3 fun b _ o e => by rw [← hs4]; exact pushCells_keeps _ _ _ _ (Heap.get?_push_of_some _ e)
  have stat : ∀ {σ' : St} {H' : Hp} {s' : Shared}, Inv (X.blk s3 H3 scope ce fp) [] σ' H' s' → (∀ b ∈ fp, H' b = none) → ∀ b ∈ fp, FpOk (X.blk s3 H3 scope ce fp) [] H' b := fun {σ' H' s'} I' hn b hb =>
    ⟨hn b hb, (I'.ok.exf b hb).1, I'.ok.exfs b hb, .inl hb, fun x c e => (I'.ok.exf b hb).2 x c e, fun p hp => absurd (show p ∈ ([] : List (Addr × Obj)) ++ [] from hp) (by simp)⟩
  have loop : codeAny (model X.prog X.w) X.A (.compLoop (.ListComp elt [⟨tg, iter, ifs, 0⟩] scope pos) 0 (.ref it) (.ref D) ce) (compPost (model X.prog X.w) X.A X.xe use Qf (.ref D) s3.heap.objs.size) s4 := by
    refine compLoop_any (fun n s' => ∃ i H', Inv (X.blk s3 H3 scope ce fp) [] (wipe σ (own.map (·.2))) H' s' ∧ tn i s'.heap ∧ (∀ b ∈ fp, H' b = none) ∧ W i n H') ?_ m0 ⟨0, H3, I4, st4, nfp, w0⟩
    rintro n s5 ⟨i, H5, I5, st5, n5, w5⟩
    rcases turn i n H5 w5 with ⟨stop, qq⟩ | ⟨go, Nx, hNx, step⟩
    · have td := T.done (X.blk s3 H3 scope ce fp) rfl rfl rfl hc i [] s5 _ H5 (fun _ _ => False) I5 (stat I5 n5) st5 stop
      refine thnF td fun r s6 ⟨hr, I6⟩ => ?_
      subst hr
      have I7 : Inv X pins σ H5 s6 := I3.call' (ch := fp) I6.os I6.base I6.hok I6.bare fun b hb => ⟨(f3 b hb).1.2.2.2.1, (f3 b hb).1.2.1, (f3 b hb).1.2.2.2.2.1, (f3 b hb).1.2.2.2.2.2⟩
      have nC : H5 s3.heap.objs.size = none := by
        have z : H5 ce.locals = none := I6.free
        rw [cL] at z
        exact z
      obtain ⟨m, hn, _⟩ := I6.loc
      have hn : s6.heap.Ns ce.locals m := hn
      rw [cL] at hn
      exact hRR D s3.heap.objs.size s6 m H5 I7 qq hn (I3.fpOk (Nat.le_refl _) nC)
    · have ti := T.item (X.blk s3 H3 scope ce fp) rfl rfl rfl hc i [] s5 _ H5 (fun _ _ => False) I5 (stat I5 n5) st5 go
      refine thnF ti fun r s6 ⟨u, hr, h6⟩ => ?_
      subst hr
      refine thnF h6 fun _ s7 ⟨x, H7, I7, r7, y7, st7, n7⟩ => ?_
      have I7' := I7.pinned (stat I7 n7) (T.obj _ _ st7)
      refine thnF (pg _ s7 _ H7 x u _ I7' r7 (step x H7 y7)) fun _ s8 ⟨σ8, H8, I8, hw8, q8⟩ => ?_
      refine thnF (pt _ s8 σ8 H8 _ I8 q8) fun b s9 ⟨H9, I9, q9⟩ => ?_
      have fin : ∀ {s' : Shared} {H' : Hp}, Inv (X.blk s3 H3 scope ce fp) ([] ++ pinsAt fp s7.heap) σ8 H' s' → Nx H' → ∃ m, m < n ∧ ∃ i H', Inv (X.blk s3 H3 scope ce fp) [] (wipe σ (own.map (·.2))) H' s' ∧ tn i s'.heap ∧ (∀ b ∈ fp, H' b = none) ∧ W i m H' := fun {s' H'} I' nx => by
        obtain ⟨m', hm, w'⟩ := hNx H' nx
        have pin' : ∀ b ∈ fp, ∀ o, s7.heap.get? b = some o → s'.heap.get? b = some o ∧ H' b = none := fun b hb o e =>
          let z := I'.pin (b, o) (List.mem_append_right _ (List.mem_append_right _ (mem_pinsAt hb e)))
          ⟨z.1, z.2.1⟩
        have hl : (wipe σ (own.map (·.2))).length = σ8.length := by rw [← hw8, wipe_length]
        refine ⟨m', hm, i + 1, H', (I'.unpinned (pins := [])).weak hl (fun j v e => ?_), T.keep _ _ _ st7 fun b hb o e => (pin' b hb o e).1, fun b hb => ?_, w'⟩
        · rw [← hw8] at e
          exact (wipe_some e).1
        · obtain ⟨o, e, _⟩ := T.obj _ _ st7 b hb
          exact (pin' b hb o e).2
      cases b with
      | false =>
        simp only [Bool.false_eq_true, if_false] at q9 ⊢
        exact fin I9 q9
      | true =>
        simp only [if_true] at q9 ⊢
        refine thnF (pe _ s9 σ8 H9 _ I9 q9) fun z s10 ⟨yv, H10, I10, r10, acc, hD10, hz10, nx⟩ => ?_
        exact app_ok (X := X.blk s3 H3 scope ce fp) I10 hD10 hz10 r10 fun s11 I11 => fin I11 nx
  exact codeAny_compStart_list loop (T.self X.A 0 _ _ _ st4 loop)
theorem pe_lc {elt tg iter : Expr} {ifs : List Expr} {scope : Scope} {own : List (Str × Nat)} {pos : Pos} {wi : TI} {g : TG} {tt : TT} {te : TE} (hc : X.calm = true) (hN : X.N.Nodup) (hi : PI X tg iter wi) (ok : BlkOk X.N X.env.scope scope own)
    (hg : ∀ (s : Shared) (H : Hp) (C : Addr) (cl : List (Str × Addr)) (fp : List Addr), PG (X.blk s H scope (compEnvC scope cl C X.env) fp) tg g) (ht : ∀ (s : Shared) (H : Hp) (C : Addr) (cl : List (Str × Addr)) (fp : List Addr), PTs (X.blk s H scope (compEnvC scope cl C X.env) fp) ifs tt)
    (he : ∀ (s : Shared) (H : Hp) (C : Addr) (cl : List (Str × Addr)) (fp : List Addr), PE (X.blk s H scope (compEnvC scope cl C X.env) fp) elt te) (hs : ∀ x, foldedSetIterable iter X.env x = pure x := by intro _; rfl) :
    PE X (.ListComp elt [⟨tg, iter, ifs, 0⟩] scope pos) (tLc wi g tt te (own.map (·.2))) := by
  intro pins s σ H Q I h
  rw [eval_ListComp]
  refine lc_core hc hN I hi ok hg ht he hs h fun D C s' m H' I' q hn f => ⟨m, hn, fun h'' sb => ?_⟩
  obtain ⟨f0, f1, f2, f3, f4, f5⟩ := f
  exact ⟨.ref D, H', I'.turned (t' := s'.toks) (fun b o hb e => (sb.2 b hb).trans e) f0 f1 f3 f4 f5, rfl, q⟩
theorem ps_setLc {i : Nat} {y : Str} {py : Pos} {elt tg iter : Expr} {ifs : List Expr} {scope : Scope} {own : List (Str × Nat)} {pos spos : Pos} {wi : TI} {g : TG} {tt : TT} {te : TE} (hc : X.calm = true) (hN : X.N.Nodup) (hy : X.N[i]? = some y) (hyl : X.env.scope.names.lookup y = some .local)
    (hsw : swapsWith (.ListComp elt [⟨tg, iter, ifs, 0⟩] scope pos) (some (.Name y py)) spos.line X.env = pure true) (hi : PI X tg iter wi) (ok : BlkOk X.N X.env.scope scope own)
    (hg : ∀ (s : Shared) (H : Hp) (C : Addr) (cl : List (Str × Addr)) (fp : List Addr), PG (X.blk s H scope (compEnvC scope cl C X.env) fp) tg g) (ht : ∀ (s : Shared) (H : Hp) (C : Addr) (cl : List (Str × Addr)) (fp : List Addr), PTs (X.blk s H scope (compEnvC scope cl C X.env) fp) ifs tt)
    (he : ∀ (s : Shared) (H : Hp) (C : Addr) (cl : List (Str × Addr)) (fp : List Addr), PE (X.blk s H scope (compEnvC scope cl C X.env) fp) elt te) (hs : ∀ x, foldedSetIterable iter X.env x = pure x := by intro _; rfl) :
    PS X (.Assign [.Name y py] (.ListComp elt [⟨tg, iter, ifs, 0⟩] scope pos) spos) (tAsg (tLc wi g tt te (own.map (·.2))) (gName i)) := by
  intro pins s σ H D I h
  rw [exec_Assign_Name_used _ _ _ _ hsw]
  refine wpAny_bind (wpAny_standAt (wpAny_bind ?_))
  show wpAny _ X.A (do let _ ← comprehension (.ListComp elt [⟨tg, iter, ifs, 0⟩] scope pos) scope X.env (firstIterPos [⟨tg, iter, ifs, 0⟩] pos) (newList []) false (eval iter X.env) (some (assign (.Name y py) X.env))) _ _ s
  have h : tLc wi g tt te (own.map (·.2)) σ H (fun x H1 => gName i x σ H1 D.nx) := h
  refine wpAny_bind (thn (lc_core (Qf := fun _ s' => SP X pins D .next s') hc hN I hi ok hg ht he hs h fun L C s' m H' I' q hn f => ?_) fun _ s' hq => wpAny_pure (wpAny_pure hq))
  show wpAny _ _ (assign (.Name y py) X.env (.ref L)) _ _ _
  refine wpAny_assign_Name (store_ok2 (v := V.ref L) I' hN hy (.inl hyl) rfl (fun s2 I2 ⟨a, sb, ha⟩ => ?_) (.inr hyl))
  obtain ⟨f0, f1, f2, f3, f4, f5⟩ := f
  have haC : C ≠ a := by
    rcases ha with z | z
    · rw [z]; exact f1
    · exact fun e => f4 y a z e.symm
  refine ⟨m, hn.sameBut sb haC, fun h3 sb3 => ?_⟩
  exact ⟨_, H', I2.turned (t' := s2.toks) (fun b o hb e => (sb3.2 b hb).trans e) f0 f1 f3 f4 f5, q⟩
end
theorem lc_list {K : PySem.W.Frag} {a : Addr} {xs : List V} {g : TG} {tt : TT} {te : TE} {vs : List Nat} {σ : St} {H1 : Hp} {D : Addr} {Qd : Hp → Prop} (Pv : Nat → Hp → Prop) (h0 : Pv 0 (upd H1 D (.lst []))) (hl : ∀ i H, i ≤ xs.length → Pv i H → SqL K H a xs)
    (hs : ∀ i x H, xs[i]? = some x → Pv i H → g x (wipe σ vs) H fun σ2 H2 => wipe σ2 vs = wipe σ vs ∧ tt σ2 H2 fun b H3 =>
      if b = true then te σ2 H3 fun y H4 => ∃ acc, H4 D = some (.lst acc) ∧ acc.length < sizeLine ∧ Pv (i + 1) (upd H4 D (.lst (acc ++ [y]))) else Pv (i + 1) H3) (hd : ∀ H, Pv xs.length H → Qd H) :
    ∃ W : Nat → Nat → Hp → Prop, (∃ m, W 0 m (upd H1 D (.lst []))) ∧ ∀ i m H, W i m H →
      ((Itl K a).stop i H ∧ Qd H) ∨ ((Itl K a).go i H ∧ ∃ Nx : Hp → Prop, (∀ H', Nx H' → ∃ m', m' < m ∧ W (i + 1) m' H') ∧ ∀ x H', (Itl K a).yld i H x H' → g x (wipe σ vs) H' fun σ2 H2 => wipe σ2 vs = wipe σ vs ∧ tt σ2 H2 fun b H3 =>
        if b = true then te σ2 H3 fun y H4 => ∃ acc, H4 D = some (.lst acc) ∧ acc.length < sizeLine ∧ Nx (upd H4 D (.lst (acc ++ [y]))) else Nx H3) := by
  refine ⟨fun i m H => m = xs.length - i ∧ i ≤ xs.length ∧ Pv i H, ⟨xs.length, by simp, Nat.zero_le _, h0⟩, ?_⟩
  rintro i m H ⟨rfl, hi, p⟩
  have q := hl i H hi p
  by_cases hlt : i < xs.length
  · refine .inr ⟨⟨xs, xs[i], q, by simp [hlt]⟩, Pv (i + 1), fun H' p' => ⟨xs.length - (i + 1), by omega, rfl, hlt, p'⟩, fun x H' y => ?_⟩
    obtain ⟨e, y⟩ := y
    subst e
    exact hs i x _ (y xs q) p
  · have e : i = xs.length := by omega
    subst e
    exact .inl ⟨⟨xs, q, Nat.le_refl _⟩, hd H p⟩
def blkC (N : List Str) (sc scope : Scope) (own : List (Str × Nat)) : Bool :=
  (match scope.kind with | .function => true | _ => false) && (scope.names.all fun y => decide (scope.names.lookup y.1 = some y.2)) && (own.all fun p => decide (N[p.2]? = some p.1)) &&
    (scope.names.all fun y => match y.2 with
      | .free => (match sc.names.lookup y.1 with | some .cell => true | some .free => true | _ => false)
      | .local => decide (y.1 ∈ own.map (·.1)) || decide (y.1 ∉ N)
      | .cell => decide (y.1 ∈ own.map (·.1)) || decide (y.1 ∉ N)
      | _ => true)
theorem blkOk_by {N : List Str} {sc scope : Scope} {own : List (Str × Nat)} (h : blkC N sc scope own = true) : BlkOk N sc scope own := by
  unfold blkC at h
  simp only [Bool.and_eq_true, List.all_eq_true, decide_eq_true_eq] at h
  obtain ⟨⟨⟨h1, h2⟩, h3⟩, h4⟩ := h
  refine ⟨?_, h2, h3, fun y hy e => ?_, fun y hy e => ?_⟩
  · split at h1
    · assumption
    · cases h1
  · have q := h4 y hy
    simp only [e] at q
    split at q <;> first | exact .inl (by assumption) | exact .inr (by assumption) | cases q
  · have q := h4 y hy
    rcases e with e | e <;> (simp only [e, Bool.or_eq_true, decide_eq_true_eq] at q; exact q)
end L2
namespace L2
open PySem PySem.Spec PyProof.Rows
section
variable {κ : Type} [DecidableEq κ]
def valV (kvs : List (κ × V)) (k : κ) : Option V := (kvs.find? fun kv => decide (kv.1 = k)).map (·.2)
def putK (kvs : List (κ × V)) (k : κ) (v : V) : List (κ × V) :=
  if (kvs.any fun kv => decide (kv.1 = k)) = true then kvs.map (fun kv => if kv.1 = k then (kv.1, v) else kv) else kvs ++ [(k, v)]
def dropK (kvs : List (κ × V)) (k : κ) : List (κ × V) := kvs.filter fun kv => decide (kv.1 ≠ k)
theorem valV_pos {p : κ × V} {r : List (κ × V)} {k : κ} (e : p.1 = k) : valV (p :: r) k = some p.2 := by simp [valV, List.find?_cons, e]
theorem valV_neg {p : κ × V} {r : List (κ × V)} {k : κ} (e : ¬ p.1 = k) : valV (p :: r) k = valV r k := by simp [valV, List.find?_cons, e]
theorem valV_any (k : κ) : ∀ kvs : List (κ × V), (kvs.any fun kv => decide (kv.1 = k)) = (valV kvs k).isSome
  | [] => rfl
  | p :: r => by
    rw [List.any_cons]
    by_cases e : p.1 = k
    · simp only [valV_pos e, decide_eq_true e, Bool.true_or, Option.isSome_some]
    · rw [valV_neg e, decide_eq_false e, Bool.false_or]; exact valV_any k r
theorem length_putK (kvs : List (κ × V)) (k : κ) (v : V) : (putK kvs k v).length ≤ kvs.length + 1 := by
  unfold putK
  split
  · rw [List.length_map]; omega
  · rw [List.length_append, List.length_cons, List.length_nil]; omega
theorem putK_new {kvs : List (κ × V)} {k : κ} (v : V) (h : valV kvs k = none) : putK kvs k v = kvs ++ [(k, v)] := by
  unfold putK
  rw [valV_any, h]
  exact if_neg (by decide)
theorem RelO.isSome_eq {o : Option V} {u : Option Value} (r : RelO o u) : o.isSome = u.isSome := by
  cases o with
  | none => cases u with
    | none => rfl
    | some _ => exact (show False from r).elim
  | some _ => cases u with
    | none => exact (show False from r).elim
    | some _ => rfl
theorem RelO.getD {o : Option V} {u : Option Value} {d : V} {d' : Value} (r : RelO o u) (rd : RelV d d') : RelV (o.getD d) (u.getD d') := by
  cases o with
  | none => cases u with
    | none => exact rd
    | some _ => exact (show False from r).elim
  | some _ => cases u with
    | none => exact (show False from r).elim
    | some _ => exact r
theorem KV.val {kvs : List (κ × V)} {vs : List (κ × Value)} (r : KV kvs vs) (k : κ) : RelO (valV kvs k) (valueAt vs k) := by
  unfold KV at r
  induction r with
  | nil => exact True.intro
  | @cons p q ps qs h t ih =>
    obtain ⟨h1, h2⟩ := h
    by_cases e : p.1 = k
    · have e' : q.1 = k := h1.symm.trans e
      have b : valueAt (q :: qs) k = some q.2 := by simp [valueAt, List.find?_cons, e']
      rw [valV_pos e, b]; exact h2
    · have e' : ¬ q.1 = k := fun z => e (h1.trans z)
      have b : valueAt (q :: qs) k = valueAt qs k := by simp [valueAt, List.find?_cons, e']
      rw [valV_neg e, b]; exact ih
theorem KV.any {kvs : List (κ × V)} {vs : List (κ × Value)} (r : KV kvs vs) (k : κ) : (kvs.any fun kv => decide (kv.1 = k)) = vs.any fun kv => decide (kv.1 = k) := by
  unfold KV at r
  induction r with
  | nil => rfl
  | cons h t ih => rw [List.any_cons, List.any_cons, ih, h.1]
theorem KV.repl {kvs : List (κ × V)} {vs : List (κ × Value)} (r : KV kvs vs) (k : κ) {y : V} {u : Value} (ry : RelV y u) :
    KV (kvs.map fun kv => if kv.1 = k then (kv.1, y) else kv) (vs.map fun kv => if kv.1 = k then (kv.1, u) else kv) := by
  unfold KV at r ⊢
  induction r with
  | nil => exact .nil
  | @cons p q ps qs h t ih =>
    rw [List.map_cons, List.map_cons]
    refine .cons ?_ ih
    obtain ⟨h1, h2⟩ := h
    by_cases e : p.1 = k
    · rw [if_pos e, if_pos (h1.symm.trans e)]; exact ⟨h1, ry⟩
    · rw [if_neg e, if_neg (fun z => e (h1.trans z))]; exact ⟨h1, h2⟩
theorem KV.put {kvs : List (κ × V)} {vs : List (κ × Value)} (r : KV kvs vs) (k : κ) {y : V} {u : Value} (ry : RelV y u) : KV (putK kvs k y) (stored vs k u) := by
  unfold putK stored
  rw [r.any k]
  by_cases e : (vs.any fun kv => decide (kv.1 = k)) = true
  · rw [if_pos e, if_pos e]; exact r.repl k ry
  · rw [if_neg e, if_neg e]; exact Paired.snoc r ⟨rfl, ry⟩
theorem KV.drop {kvs : List (κ × V)} {vs : List (κ × Value)} (r : KV kvs vs) (k : κ) : KV (dropK kvs k) (without vs k) := by
  unfold KV at r ⊢
  unfold dropK without
  induction r with
  | nil => exact .nil
  | @cons p q ps qs h t ih =>
    obtain ⟨h1, h2⟩ := h
    rw [List.filter_cons, List.filter_cons]
    by_cases e : p.1 = k
    · have a : ¬ decide (p.1 ≠ k) = true := by simp [e]
      have b : ¬ decide (q.1 ≠ k) = true := by simp [h1.symm.trans e]
      rw [if_neg a, if_neg b]; exact ih
    · have e' : ¬ q.1 = k := fun z => e (h1.trans z)
      have a : decide (p.1 ≠ k) = true := by simp [e]
      have b : decide (q.1 ≠ k) = true := by simp [e']
      rw [if_pos a, if_pos b]; exact .cons ⟨h1, h2⟩ ih
theorem KV.length {kvs : List (κ × V)} {vs : List (κ × Value)} (r : KV kvs vs) : kvs.length = vs.length := Paired.length r
end
theorem kV_is {P : Program} {w : World} {k : Key} {u : Value} (r : RelV (kV k) u) : (mixKind P w).is k u = true := by
  cases k with
  | inl i => obtain ⟨t, e⟩ := (show ∃ t, u = Value.int i t from r); subst e; exact mixKind_int P w i t
  | inr x => obtain ⟨t, e⟩ := (show ∃ t, u = Value.str x t from r); subst e; exact mixKind_str P w x t
theorem items_are {P : Program} {w : World} : ∀ {ks : List Key} {us : List Value}, Vals (ks.map kV) us → ItemsAre (mixKind P w) ks us
  | [], _, r => by rw [List.map_nil] at r; cases r; exact .nil
  | k :: ks, _, r => by
    rw [List.map_cons] at r
    cases r with
    | cons h t => exact .cons (kV_is h) (items_are t)
abbrev KT (H : Hp) : List (List Key × V) → List (List Key × Addr × Value) → Prop := Paired fun p q => p.1 = q.1 ∧ H q.2.1 = some (.tup (p.1.map kV)) ∧ RelV p.2 q.2.2
theorem KT.val {H : Hp} {kvs : List (List Key × V)} {xs : List (List Key × Addr × Value)} (r : KT H kvs xs) (k : List Key) : RelO (valV kvs k) ((atKey xs k).map (·.2)) := by
  induction r with
  | nil => exact True.intro
  | @cons p q ps qs h t ih =>
    obtain ⟨h1, _, h2⟩ := h
    by_cases e : p.1 = k
    · have e' : q.1 = k := h1.symm.trans e
      have b : atKey (q :: qs) k = some q.2 := by simp [atKey, List.find?_cons, e']
      rw [valV_pos e, b]; exact h2
    · have e' : ¬ q.1 = k := fun z => e (h1.trans z)
      have b : atKey (q :: qs) k = atKey qs k := by simp [atKey, List.find?_cons, e']
      rw [valV_neg e, b]; exact ih
theorem KT.repl {H : Hp} {kvs : List (List Key × V)} {xs : List (List Key × Addr × Value)} (r : KT H kvs xs) (k : List Key) {y : V} {u : Value} (ry : RelV y u) :
    KT H (kvs.map fun kv => if kv.1 = k then (kv.1, y) else kv) (xs.map (putAt k u)) := by
  induction r with
  | nil => exact .nil
  | @cons p q ps qs h t ih =>
    rw [List.map_cons, List.map_cons]
    refine .cons ?_ ih
    obtain ⟨h1, h2, h3⟩ := h
    unfold putAt
    by_cases e : p.1 = k
    · rw [if_pos e, if_pos (h1.symm.trans e)]; exact ⟨h1, h2, ry⟩
    · rw [if_neg e, if_neg (fun z => e (h1.trans z))]; exact ⟨h1, h2, h3⟩
theorem KT.put {H : Hp} {kvs : List (List Key × V)} {xs : List (List Key × Addr × Value)} (r : KT H kvs xs) (k : List Key) {b : Addr} {y : V} {u : Value} (hb : H b = some (.tup (k.map kV))) (ry : RelV y u) :
    KT H (putK kvs k y) (storedH xs k b u) := by
  have e : (kvs.any fun kv => decide (kv.1 = k)) = (atKey xs k).isSome := by
    rw [valV_any, (r.val k).isSome_eq, Option.isSome_map]
  unfold putK storedH
  rw [e]
  by_cases q : (atKey xs k).isSome = true
  · rw [if_pos q, if_pos q]; exact r.repl k ry
  · rw [if_neg q, if_neg q]; exact Paired.snoc r ⟨rfl, hb, ry⟩
theorem KT.keeps {H H' : Hp} {kvs : List (List Key × V)} {xs : List (List Key × Addr × Value)} (r : KT H kvs xs) (ht : ∀ b ys, H b = some (.tup ys) → H' b = some (.tup ys)) : KT H' kvs xs :=
  Paired.mapP r fun _ _ z => ⟨z.1, ht _ _ z.2.1, z.2.2⟩
section
variable {P : Program} {w : World} {H : Hp} {h : Heap} {a : Addr}
theorem rd_of {u : HO} (ok : HOk P w H h) (e : Rd H a u) : ObjOk P w H h a u := e.ok ok
theorem dk_rd {kvs : List (Key × V)} (ok : HOk P w H h) (e : Rd H a (.dK kvs)) : kvs.length ≤ sizeLine ∧ (a == sysModules) = false ∧ ∃ vs, KV kvs vs ∧ h.DictOf (mixKind P w) a vs :=
  show ObjOk P w H h a (.dK kvs) from rd_of ok e
theorem dk_of {kvs : List (Key × V)} (ok : HOk P w H h) (e : H a = some (.dK kvs)) : kvs.length ≤ sizeLine ∧ (a == sysModules) = false ∧ ∃ vs, KV kvs vs ∧ h.DictOf (mixKind P w) a vs := dk_rd ok (.inl e)
theorem key_of {ks : List Key} (ok : HOk P w H h) (e : H a = some (.tup (ks.map kV))) : (tupleKind (mixKind P w)).is h ks a := by
  obtain ⟨_, its, r, o, h1, h2, n, h3⟩ := (show ObjOk P w H h a (.tup (ks.map kV)) from ok a _ e)
  exact ⟨o, its.toArray, n, h1, h2, h3, by simpa using items_are r⟩
theorem dt_rd {kvs : List (List Key × V)} (ok : HOk P w H h) (e : Rd H a (.dT kvs)) : kvs.length ≤ sizeLine ∧ (a == sysModules) = false ∧
    ∃ xs, KT H kvs xs ∧ h.DictOfH (tupleKind (mixKind P w)) a xs := by
  obtain ⟨z, y, xs, r, o, es, ep, h1, h2, h3, h4, h5⟩ := (show ObjOk P w H h a (.dT kvs) from rd_of ok e)
  refine ⟨z, y, xs, r, o, es, ep, h1, h2, h3, h4, fun x hx => ?_, h5⟩
  have all : ∀ {l : List (List Key × V)} {m : List (List Key × Addr × Value)}, KT H l m → ∀ x ∈ m, (tupleKind (mixKind P w)).is h x.1 x.2.1 := by
    intro l m q
    induction q with
    | nil => intro x hx; exact nomatch hx
    | @cons p q ps qs hq t ih =>
      intro x hx
      rcases List.mem_cons.mp hx with e | hx
      · subst e
        exact key_of ok (by rw [← hq.1]; exact hq.2.1)
      · exact ih x hx
  exact all r x hx
theorem dt_of {kvs : List (List Key × V)} (ok : HOk P w H h) (e : H a = some (.dT kvs)) : kvs.length ≤ sizeLine ∧ (a == sysModules) = false ∧
    ∃ xs, KT H kvs xs ∧ h.DictOfH (tupleKind (mixKind P w)) a xs := dt_rd ok (.inl e)
end
def DGet (H : Hp) (a : Addr) (y : V) (r : Option V) : Prop :=
  (∃ kvs k, Rd H a (.dK kvs) ∧ y = kV k ∧ r = valV kvs k) ∨ ∃ kvs k b, Rd H a (.dT kvs) ∧ y = .ref b ∧ H b = some (.tup (k.map kV)) ∧ r = valV kvs k
def DPut (H : Hp) (a : Addr) (y v : V) (H' : Hp) : Prop :=
  (∃ kvs k, H a = some (.dK kvs) ∧ y = kV k ∧ kvs.length < sizeLine ∧ H' = upd H a (.dK (putK kvs k v))) ∨
  ∃ kvs k b, H a = some (.dT kvs) ∧ y = .ref b ∧ H b = some (.tup (k.map kV)) ∧ kvs.length < sizeLine ∧ H' = upd H a (.dT (putK kvs k v))
theorem DGet.k {H : Hp} {a : Addr} {kvs : List (Key × V)} {k : Key} (e : H a = some (.dK kvs)) : DGet H a (kV k) (valV kvs k) := .inl ⟨kvs, k, .inl e, rfl, rfl⟩
theorem DGet.t {H : Hp} {a b : Addr} {kvs : List (List Key × V)} {k : List Key} (e : H a = some (.dT kvs)) (eb : H b = some (.tup (k.map kV))) : DGet H a (.ref b) (valV kvs k) := .inr ⟨kvs, k, b, .inl e, rfl, eb, rfl⟩
theorem DPut.k {H : Hp} {a : Addr} {kvs : List (Key × V)} {k : Key} {v : V} (e : H a = some (.dK kvs)) (hl : kvs.length < sizeLine) : DPut H a (kV k) v (upd H a (.dK (putK kvs k v))) := .inl ⟨kvs, k, e, rfl, hl, rfl⟩
theorem DPut.t {H : Hp} {a b : Addr} {kvs : List (List Key × V)} {k : List Key} {v : V} (e : H a = some (.dT kvs)) (eb : H b = some (.tup (k.map kV))) (hl : kvs.length < sizeLine) :
    DPut H a (.ref b) v (upd H a (.dT (putK kvs k v))) := .inr ⟨kvs, k, b, e, rfl, eb, hl, rfl⟩
section
variable {X : Cx} {pins : List (Addr × Obj)} {σ : St} {H : Hp} {s : Shared} {a : Addr} {y v : V} {u r : Value} {o : Option V} {A : Around} {E : Value → Shared → Prop}
theorem Inv.big (I : Inv X pins σ H s) : sysModules < s.heap.objs.size := by
  have h : mainGlobals < s.heap.objs.size := (I.mod.glob.keeps I.bk).lt
  exact Nat.lt_trans (by decide) h
theorem d_getItem {Q : Value → Shared → Prop} (hu : A.units + 1 < cLine) (I : Inv X pins σ H s) (g : DGet H a y (some v)) (ry : RelV y u) (h : ∀ w' s', Inv X pins σ H s' → RelV v w' → Q w' s') :
    wpAny (model X.prog X.w) A (getItem (.ref a) u) Q E s := by
  rcases g with ⟨kvs, k, e, ey, l⟩ | ⟨kvs, k, b, e, ey, eb, l⟩
  · subst ey
    obtain ⟨z, hd, vs, rel, dd⟩ := dk_rd I.hok e
    obtain ⟨w', hw, rw'⟩ := RelO.some_of (v := v) (o := valueAt vs k) (by rw [l]; exact rel.val k)
    exact wpAny_getItem_of (kV_is ry) dd.mapOf hw (h w' _ (I.tok _) rw')
  · subst ey
    cases (show u = Value.ref b from ry)
    obtain ⟨z, hd, xs, rel, dd⟩ := dt_rd I.hok e
    obtain ⟨w', hw, rw'⟩ := RelO.some_of (v := v) (o := (atKey xs k).map (·.2)) (by rw [l]; exact rel.val k)
    obtain ⟨p, hp, hp2⟩ := Option.map_eq_some_iff.mp hw
    refine wpAny_getItem_heap (tupleKind_room_in1 hu) (key_of I.hok eb) dd hp ?_
    rw [hp2]
    exact h w' _ (I.tok _) rw'
theorem d_in {Q : Value → Shared → Prop} (hu : A.units + 1 < cLine) (I : Inv X pins σ H s) (g : DGet H a y o) (ry : RelV y u) (h : ∀ s', Inv X pins σ H s' → Q (.bool o.isSome) s') :
    wpAny (model X.prog X.w) A (compareOp .In u (.ref a)) Q E s := by
  rcases g with ⟨kvs, k, e, ey, l⟩ | ⟨kvs, k, b, e, ey, eb, l⟩
  · subst ey
    obtain ⟨z, hd, vs, rel, dd⟩ := dk_rd I.hok e
    refine wpAny_in_of (kV_is ry) hd dd.mapOf ?_
    rw [← (rel.val k).isSome_eq, ← l]
    exact h _ (I.tok _)
  · subst ey
    cases (show u = Value.ref b from ry)
    obtain ⟨z, hd, xs, rel, dd⟩ := dt_rd I.hok e
    refine wpAny_in_heap (tupleKind_room_in1 hu) (key_of I.hok eb) hd dd ?_
    have q := (rel.val k).isSome_eq
    rw [Option.isSome_map] at q
    rw [← q, ← l]
    exact h _ (I.tok _)
theorem d_write {h' : Heap} {t' : Nat} {ob : HO} (I : Inv X pins σ H s) (mu : Mut (H a)) (hs : Heap.SameBut a s.heap h') (he : ∃ q, h'.get? a = some q) (new : ObjOk X.prog X.w (upd H a ob) h' a ob) :
    Inv X pins σ (upd H a ob) { s with heap := h', toks := t' } :=
  I.write (x := a) (e := a) mu (.inl rfl) (fun b q hb z => (hs.2 b hb).trans z) he new
theorem dk_new {P : Program} {w : World} {H' : Hp} {h' : Heap} {kvs : List (Key × V)} {vs : List (Key × Value)} (z : kvs.length ≤ sizeLine) (hd : (a == sysModules) = false) (rel : KV kvs vs) (dd : h'.DictOf (mixKind P w) a vs) :
    ObjOk P w H' h' a (.dK kvs) := ⟨z, hd, vs, rel, dd⟩
theorem d_setItem {H' : Hp} {Q : Unit → Shared → Prop} (hu : A.units + 1 < cLine) (I : Inv X pins σ H s) (g : DPut H a y v H') (ry : RelV y u) (rv : RelV v r) (h : ∀ s', Inv X pins σ H' s' → Q () s') :
    wpAny (model X.prog X.w) A (setItem (.ref a) u r) Q E s := by
  rcases g with ⟨kvs, k, e, ey, l, eH⟩ | ⟨kvs, k, b, e, ey, eb, l, eH⟩
  · subst ey eH
    obtain ⟨z, hd, vs, rel, dd⟩ := dk_of I.hok e
    have hz : vs.length ≤ sizeLine := by rw [← rel.length]; exact z
    have hl : (putK kvs k v).length ≤ sizeLine := by have := length_putK kvs k v; omega
    refine wpAny_setItem_pairs (hsz := hz) (kV_is ry) dd fun h' dd' hs => h _ ?_
    have he : ∃ q, h'.get? a = some q := let ⟨q, _, _, hq, _⟩ := dd'; ⟨q, hq⟩
    exact d_write I (by rw [e]; exact True.intro) hs he (dk_new hl hd (rel.put k rv) dd')
  · subst ey eH
    cases (show u = Value.ref b from ry)
    obtain ⟨z, hd, xs, rel, dd⟩ := dt_of I.hok e
    have hz : xs.length ≤ sizeLine := by rw [← Paired.length rel]; exact z
    have hl : (putK kvs k v).length ≤ sizeLine := by have := length_putK kvs k v; omega
    refine wpAny_setItem_heap (hsz := hz) (tupleKind_room_in1 hu) (key_of I.hok eb) dd fun h' dd' hs => h _ ?_
    obtain ⟨q, es, ep, hq, h2, h3, h4, _, h5⟩ := dd'
    refine d_write I (by rw [e]; exact True.intro) hs ⟨q, hq⟩ ⟨hl, hd, _, (rel.put k eb rv).keeps fun c ys ec => ?_, q, es, ep, hq, h2, h3, h4, h5⟩
    rw [upd_ne (ne_of ec e (fun z => nomatch z))]
    exact ec
end
def NoSl (i : Expr) : Prop := ∀ ov iv, subscripted i false ov iv = operate [ov, iv] (getItem ov iv)
theorem subD_of {prog : Program} {w : World} {A : Around} {E : Value → Shared → Prop} {s : Shared} {env : Env} {value slice : Expr} {pos : Pos} {T id : String} {Q : Value → Shared → Prop}
    (hl : typeLookup (.type T) "__getitem__" = pure (some (.builtin id))) (hs : NoSl slice)
    (h : wpAny (model prog w) A (eval value env) (fun o s₁ => wpAny (model prog w) A (eval slice env) (fun i s₂ => s₂.TypeIs o T ∧ wpAny (model prog w) A (getItem o i) Q E s₂) E s₁) E s) :
    wpAny (model prog w) A (eval (.Subscript value slice pos) env) Q E s := by
  refine Subscript_ (wpAny_mono h (fun o s₁ h₁ => wpAny_mono h₁ (fun i s₂ h₂ => ?_) fun _ _ x => x) fun _ _ x => x)
  obtain ⟨hT, h₂⟩ := h₂
  unfold subscriptTail
  refine wpAny_bind ?_
  rw [getitemInPython_of_ne hT.not_modules]
  refine wpAny_bind (wpAny_specialOf hT hl ?_)
  have fin : wpAny (model prog w) A (subscripted slice false o i) (fun r s₃ => wpAny (model prog w) A (letTemporaryGo value o r >>= fun _ => pure r) Q E s₃) E s₂ := by
    rw [hs o i]
    exact wpAny_operating (wpAny_mono h₂ (fun r s₃ h₃ => wpAny_bind (wpAny_letTemporaryGo (wpAny_pure h₃))) fun _ _ x => x)
  first
    | exact wpAny_pure (wpAny_bind fin)
    | exact wpAny_bind (wpAny_pure (wpAny_bind fin))
    | exact wpAny_bind fin
theorem dict_typeIs {X : Cx} {pins : List (Addr × Obj)} {σ : St} {H : Hp} {s : Shared} {a : Addr} {y : V} {o : Option V} (I : Inv X pins σ H s) (g : DGet H a y o) : s.TypeIs (.ref a) "dict" := by
  rcases g with ⟨kvs, k, e, _, _⟩ | ⟨kvs, k, b, e, _, _, _⟩
  · obtain ⟨_, _, vs, _, dd⟩ := dk_rd I.hok e
    exact dd.typeIs
  · obtain ⟨_, _, xs, _, dd⟩ := dt_rd I.hok e
    exact dd.typeIs
def tDGet (td ty : TE) : TE := fun σ H Q => td σ H fun x H1 => ty σ H1 fun y H2 => ∃ a v, x = .ref a ∧ DGet H2 a y (some v) ∧ Q v H2
def tDIn (ty td : TE) : TE := fun σ H Q => ty σ H fun y H1 => td σ H1 fun x H2 => ∃ a o, x = .ref a ∧ DGet H2 a y o ∧ Q (.bl o.isSome) H2
def sDPut (td ty tv : TE) : TS := fun D σ H => tv σ H fun v H1 => td σ H1 fun x H2 => ty σ H2 fun y H3 => ∃ a H4, x = .ref a ∧ DPut H3 a y v H4 ∧ D.nx σ H4
section
variable {X : Cx} {o i e value : Expr} {pos pos' tpos : Pos} {td ty tv : TE}
theorem pe_dget (hu : X.A.units + 1 < cLine) (ho : PE X o td) (hi : PE X i ty) (hs : NoSl i) : PE X (.Subscript o i pos) (tDGet td ty) := by
  intro pins s σ H Q I h
  refine subD_of PySem.F.slot_dict_getitem.lookup hs (thn (ho pins s σ H _ I h) fun u s1 ⟨x, H1, I1, rx, q1⟩ => thn (hi pins s1 σ H1 _ I1 q1) fun iv s2 ⟨y, H2, I2, ry, a, v, ex, g, q2⟩ => ?_)
  subst ex
  obtain rfl : u = Value.ref a := rx
  exact ⟨dict_typeIs I2 g, d_getItem hu I2 g ry fun w' s3 I3 rw' => ⟨v, H2, I3, rw', q2⟩⟩
theorem pc_din (hu : X.A.units + 1 < cLine) (hi : PE X i ty) (ho : PE X o td) : PC X .In i o (tDIn ty td) := by
  intro pins s σ H Q I h
  refine thn (hi pins s σ H _ I h) fun iv s1 ⟨y, H1, I1, ry, q1⟩ => thn (ho pins s1 σ H1 _ I1 q1) fun u s2 ⟨x, H2, I2, rx, a, ov, ex, g, q2⟩ => ?_
  subst ex
  obtain rfl : u = Value.ref a := rx
  exact d_in hu I2 g ry fun s3 I3 => ⟨.bl ov.isSome, H2, I3, rfl, q2⟩
theorem ps_dput (hu : X.A.units + 1 < cLine) (ho : PE X o td) (hi : PE X i ty) (hv : PE X value tv) (hs : swapsWith value (some (.Subscript o i pos')) pos.line X.env = pure false) :
    PS X (.Assign [.Subscript o i pos'] value pos) (sDPut td ty tv) := by
  intro pins s σ H D I h
  refine wpAny_Assign_Subscript (thn (hv pins s σ H _ I h) fun r s1 ⟨v, H1, I1, rv, q1⟩ => thn (ho pins s1 σ H1 _ I1 q1) fun u s2 ⟨x, H2, I2, rx, q2⟩ => thn (hi pins s2 σ H2 _ I2 q2) fun iv s3 ⟨y, H3, I3, ry, a, H4, ex, g, q3⟩ => ?_) hs
  subst ex
  obtain rfl : u = Value.ref a := rx
  exact d_setItem hu I3 g ry rv fun s4 I4 => ⟨σ, H4, I4, q3⟩
end
theorem dk_empty {P : Program} {w : World} {H : Hp} (h : Heap) (hb : sysModules < h.objs.size) : ObjOk P w H (h.push { cls := .type "dict", data := .dict #[] }) h.objs.size (.dK []) :=
  ⟨Nat.zero_le _, beq_eq_false_iff_ne.mpr (Ne.symm (Nat.ne_of_lt hb)), [], .nil, Heap.DictOf.new h⟩
def tDNewK : TE := fun _ H Q => ∀ p, H p = none → Q (.ref p) (upd H p (.dK []))
section
variable {X : Cx} {pos : Pos}
theorem pe_dnewK : PE X (.Dict [] [] pos) tDNewK := fun pins s σ H Q I h =>
  wpAny_Dict_empty ⟨.ref s.heap.objs.size, _, I.laid (a := s.heap.objs.size) (o := .dK []) (t' := s.toks) (fun _ _ q => Heap.get?_push_of_some _ q) (Nat.le_refl _) (dk_empty s.heap I.big), rfl, h _ (I.hok.fresh (Nat.le_refl _))⟩
end
structure M1 (X : Cx) (o : Expr) (m : Str) (apos : Pos) (e : Expr) (cpos : Pos) : Prop where
  base : attributeBase o m X.env (eval o X.env) = eval o X.env
  few : ((backTo cpos (starEach [e] X.env)).all (fun x => !x.1) && (backToKw cpos (keywordEach [] X.env)).all (fun x => x.1.isSome)
    && decide (([e] : List Expr).length + ([] : List Keyword).length + (if ([] : List Keyword).isEmpty then 0 else 1) < 30)) = true
  line : (apos.endLine == cpos.line) = true
  trees : backTo cpos (starEach [e] X.env) = [(false, eval e X.env)]
structure M2 (X : Cx) (o : Expr) (m : Str) (apos : Pos) (e f : Expr) (cpos : Pos) : Prop where
  base : attributeBase o m X.env (eval o X.env) = eval o X.env
  few : ((backTo cpos (starEach [e, f] X.env)).all (fun x => !x.1) && (backToKw cpos (keywordEach [] X.env)).all (fun x => x.1.isSome)
    && decide (([e, f] : List Expr).length + ([] : List Keyword).length + (if ([] : List Keyword).isEmpty then 0 else 1) < 30)) = true
  line : (apos.endLine == cpos.line) = true
  trees : backTo cpos (starEach [e, f] X.env) = [(false, eval e X.env), (false, eval f X.env)]
end L2
namespace L2
open PySem PySem.Spec PyProof.Rows
section
variable {X : Cx} {pins : List (Addr × Obj)} {σ : St} {H : Hp} {s : Shared} {h' : Heap}
theorem Inv.turnedNew {t' : Nat} {ch : List Addr} {T : Addr} {ob : HO} (I : Inv X pins σ H s) (k : ∀ b o, b ∉ ch → s.heap.get? b = some o → h'.get? b = some o) (hf : ∀ b ∈ ch, FpOk X pins H b) (hT : s.heap.objs.size ≤ T)
    (new : ObjOk X.prog X.w (upd H T ob) h' T ob) : Inv X pins σ (upd H T ob) { s with heap := h', toks := t' } := by
  have hn : H T = none := I.hok.fresh hT
  have nit : ∀ b u, H b = some u → b ∉ ch := fun b u e z => by
    have q := (hf b z).1
    rw [q] at e; cases e
  refine I.step (g' := s.gens) (d' := s.drawn) (ch := ch) (fun b hb => ⟨(hf b hb).2.2.2.1, (hf b hb).2.1, (hf b hb).2.2.2.2.1, (hf b hb).2.2.2.2.2⟩) (fun b o _ _ hc e _ => k b o hc e) (fun b o _ _ hc e _ => ⟨o.slots, k b o hc e⟩)
    (fun b o _ e n => ?_) (fun b o hc e => ⟨o, k b o hc e⟩) (fun b xs e => ?_) (fun b o u e => ?_) (fun b ps e => ⟨#[], ?_⟩) (fun m hm => ?_) (fun b u e => ?_) I.bare
  · rw [upd_ne (Nat.ne_of_lt (Nat.lt_of_lt_of_le (Heap.lt_size e) hT))]; exact n
  · rw [upd_ne (ne_of_none e hn)]; exact e
  · rw [upd_ne (ne_of_none e hn)]; exact e
  · rw [upd_ne (ne_of_none e hn), e]; simp
  · obtain ⟨o, es, ep, ho, r⟩ := hm
    exact ⟨o, es, ep, k _ o (fun z => (hf _ z).2.1 rfl) ho, r⟩
  · by_cases hb : b = T
    · subst hb
      rw [upd_same] at e
      cases e
      exact new
    · rw [upd_ne hb] at e
      refine (I.hok b u e).stay (fun c v hc q => k c v ?_ q) (fun c q => by rw [upd_ne (ne_of_none q hn)]; exact q) fun c xs q => by rw [upd_ne (ne_of_none q hn)]; exact q
      rcases hc with z | z
      · rw [z]; exact nit b u e
      · exact nit c _ z
theorem Inv.lock {d : Addr} {u : HO} (I : Inv X pins σ H s) (h : H d = some u) (mu : Mut (some u)) : ∃ od, Inv X pins σ (upd H d (.frz od u)) s := by
  have x := I.hok d u h
  have ex : ∃ od, s.heap.get? d = some od := by
    cases u with
    | lst xs => obtain ⟨_, _, _, _, e⟩ := x; exact ⟨_, e⟩
    | dK kvs => obtain ⟨_, _, _, _, o, _, _, e, _⟩ := x; exact ⟨o, e⟩
    | dT kvs => obtain ⟨_, _, _, _, o, _, _, e, _⟩ := x; exact ⟨o, e⟩
    | set S n => obtain ⟨o, _, _, _, e, _⟩ := x; exact ⟨o, e⟩
    | ins C dx fs => obtain ⟨_, _, _, e, _⟩ := x; exact ⟨_, e⟩
    | ext φ => obtain ⟨_, ⟨_, e⟩, _⟩ := x; exact ⟨_, e⟩
    | _ => exact False.elim mu
  obtain ⟨od, e⟩ := ex
  have new : ObjOk X.prog X.w (upd H d (.frz od u)) s.heap d (.frz od u) := by
    refine ⟨e, x.stay (fun b v _ q => q) (fun b q => ?_) fun b xs q => ?_⟩
    · rw [upd_ne (fun z => by rw [z, h] at q; cases q; exact mu)]; exact q
    · rw [upd_ne (fun z => by rw [z, h] at q; cases q; exact mu)]; exact q
  exact ⟨od, I.write (x := d) (e := d) (t' := s.toks) (h' := s.heap) (by rw [h]; exact mu) (.inl rfl) (fun b v _ q => q) ⟨od, e⟩ new⟩
end
section
variable {X : Cx}
theorem pi_one {tg : Expr} {pins : List (Addr × Obj)} {σ : St} {H : Hp} {s : Shared} {R : It → Hp → Prop} {J : It} {tn : Nat → Heap → Prop} {tk : Nat} (I : Inv X pins σ H s) (o : Obj)
    (T : Turn X.prog X.w X.K tg J [s.heap.objs.size] s.heap.objs.size tn) (st : tn 0 (s.heap.push o)) (q : R J H) : PIE X pins σ tg R (.ref s.heap.objs.size) { s with heap := s.heap.push o, toks := tk } := by
  refine ⟨s.heap.objs.size, [s.heap.objs.size], tn, J, H, rfl, I.kept fun b ob e => Heap.get?_push_of_some _ e, T, st, fun b hb => ?_, q⟩
  have e : b = s.heap.objs.size := by simpa using hb
  subst e
  exact I.fpOk (Nat.le_refl _) (I.hok.fresh (Nat.le_refl _))
end
def Itc (lo c : Int) (n : Nat) : It := ⟨fun i _ => i < n, fun i H x H' => H' = H ∧ x = .int (lo + (i : Nat) * c), fun i _ => n ≤ i⟩
theorem turn_rangeC {P : Program} {w : World} {K : PySem.W.Frag} {tg : Expr} (it : Addr) (lo c : Int) (n : Nat) : Turn P w K tg (Itc lo c n) [it] it (fun i h => IsRangeIter h it (lo + (i : Nat) * c) ((n : Int) - (i : Nat)) c) where
  mem := by simp
  obj := fun i h st b hb => by
    have e : b = it := by simpa using hb
    subst e
    exact ⟨_, st, fun v z => nomatch z⟩
  keep := fun i h h' st k => k it (by simp) _ st
  item := by
    intro X hP hw hK hc i pins s σ H E I hf st hg
    subst hP hw hK
    obtain ⟨f0, f1, f2, f3, f4, f5⟩ := hf it (by simp)
    have W := Walks.range (prog := X.prog) (w := X.w) (I.ok.hd hc) it lo c n
    refine W.item i s _ _ hg st fun v h' tk hv st' kk => ?_
    obtain ⟨t, rfl⟩ := hv
    have I1 : Inv X pins σ H { s with heap := h', toks := tk } := I.turned (fun b o hb e => kk b o (by simpa using hb) e) f0 f1 f3 f4 f5
    exact ⟨_, rfl, go_of (s := { s with heap := h', toks := tk }) (n := "range_iterator") st' rfl rfl (by decide) ⟨.int (lo + (i : Nat) * c), H, I1, ⟨t, rfl⟩, ⟨rfl, rfl⟩, st', fun b hb => (hf b hb).1⟩⟩
  done := by
    intro X hP hw hK hc i pins s σ H E I hf st hg
    subst hP hw hK
    obtain ⟨f0, f1, f2, f3, f4, f5⟩ := hf it (by simp)
    exact wpAny_pyNext_range_end (I.ok.hd hc) st (by have : n ≤ i := hg; omega) fun h' eb => ⟨rfl, I.turned (t' := s.toks) (fun b o hb e => eb b o hb e) f0 f1 f3 f4 f5⟩
  self := fun A i s Q E st h => wpAny_pyIter_rangeiter st h
def RgC (i j c : Int) (n : Nat) : Prop := c ≠ 0 ∧ c.natAbs < 1073741824 ∧ Builtin.Range.small i j c = true ∧ Builtin.Range.rangeSize i j c = n
theorem RgC.neg {i j : Int} (ha : -(2 ^ 62) ≤ i) (ha' : i < 2 ^ 62) (hb : -(2 ^ 62) ≤ j) (hb' : j < 2 ^ 62) : RgC i j (-1) (i - j).toNat :=
  ⟨by decide, by decide, PySem.W.small_down ha ha' hb hb', PySem.W.rangeSize_downNat i j⟩
def iRng3 (ta : TA) : TI := fun σ H R => ta σ H fun vs H1 => ∃ (i j c : Int) (n : Nat), vs = [.int i, .int j, .int c] ∧ RgC i j c n ∧ R (Itc i c n) H1
section
variable {X : Cx} {tg : Expr}
theorem pi_range3 {a b c : Expr} {ta : TA} {p pos : Pos} (hg : Gl X "range") (hm : X.mg "range" = none) (ha : PA X [a, b, c] ta)
    (hs : starEach [a, b, c] X.env = (false, eval a X.env) :: starEach [b, c] X.env := by rfl) (hpl : (backTo pos (starEach [b, c] X.env)).any (·.1) = false := by rfl) :
    PI X tg (.Call (.Name "range" p) [a, b, c] [] pos) (iRng3 ta) := by
  intro pins s σ H R I h
  refine Call_ (ld_blt I hg hm boot_range (PyProof.Rows.callWith_type1 (thn (ha pos pins s σ H _ I h) fun us s1 ⟨vs, H1, I1, r1, q1⟩ => ?_) hs hpl))
  obtain ⟨i, j, k, n, e, ⟨c0, c1, c2, c3⟩, q⟩ := q1
  subst e
  cases r1 with
  | cons r rr =>
    cases rr with
    | cons r' rr =>
      cases rr with
      | cons r'' rr =>
        cases rr
        obtain ⟨t, rfl⟩ := r
        obtain ⟨t', rfl⟩ := r'
        obtain ⟨t'', rfl⟩ := r''
        refine call_range_3 c0 ?_ (.inl (PyProof.noPylong_small c1))
        refine wpAny_pyIter_range (IsRange.new ..) c2 ?_
        have I2 : Inv X pins σ H1 { s1 with heap := s1.heap.push { cls := .type "range", data := .fields #[.int i t, .int j t', .int k t''] } } := I1.kept (t' := s1.toks) fun b o e => Heap.get?_push_of_some _ e
        refine pi_one (tk := s1.toks) I2 _ (turn_rangeC _ i k n) ?_ q
        have e1 : i + ((0 : Nat) : Int) * k = i := by simp
        have e2 : (n : Int) - ((0 : Nat) : Int) = Builtin.Range.rangeSize i j k := by rw [c3]; simp
        show IsRangeIter _ _ (i + ((0 : Nat) : Int) * k) ((n : Int) - ((0 : Nat) : Int)) k
        rw [e1, e2]
        exact Heap.get?_push_size _ rfl
end
theorem for_rangeC {lo c : Int} {n : Nat} {g : TG} {tb : TS} {D : Ends} {σ : St} {H : Hp} (Pv : Nat → St → Hp → Prop) (h0 : Pv 0 σ H)
    (hs : ∀ i σ H, i < n → Pv i σ H → g (.int (lo + (i : Nat) * c)) σ H fun σ2 H2 => tb { D with nx := Pv (i + 1), ct := Pv (i + 1), bk := D.nx } σ2 H2) (hd : ∀ σ H, Pv n σ H → D.nx σ H) :
    ∃ W : Nat → Nat → St → Hp → Prop, (∃ m, W 0 m σ H) ∧ ∀ i m σ H, W i m σ H →
      ((Itc lo c n).stop i H ∧ D.nx σ H) ∨ ((Itc lo c n).go i H ∧ ∃ N : St → Hp → Prop, (∀ σ' H', N σ' H' → ∃ m', m' < m ∧ W (i + 1) m' σ' H') ∧ ∀ x H', (Itc lo c n).yld i H x H' → g x σ H' fun σ2 H2 => tb { D with nx := N, ct := N, bk := D.nx } σ2 H2) := by
  refine ⟨fun i m σ H => m = n - i ∧ i ≤ n ∧ Pv i σ H, ⟨n, by simp, Nat.zero_le _, h0⟩, ?_⟩
  rintro i m σ H ⟨rfl, hi, p⟩
  by_cases hlt : i < n
  · refine .inr ⟨hlt, Pv (i + 1), fun σ' H' p' => ⟨n - (i + 1), by omega, rfl, hlt, p'⟩, fun x H' y => ?_⟩
    obtain ⟨e, y⟩ := y
    subst e y
    exact hs i σ _ hlt p
  · have e : i = n := by omega
    subst e
    exact .inl ⟨Nat.le_refl _, hd σ H p⟩
theorem kv_get {κ : Type} {kvs : List (κ × V)} {vs : List (κ × Value)} (h : KV kvs vs) : ∀ {i : Nat} {k : κ} {v : V}, kvs[i]? = some (k, v) → ∃ u, vs[i]? = some (k, u) ∧ RelV v u := by
  unfold KV at h
  induction h with
  | nil => intro i k v e; simp at e
  | @cons a b l₁ l₂ r t ih =>
    intro i k v e
    cases i with
    | zero =>
      simp only [List.getElem?_cons_zero, Option.some.injEq] at e
      subst e
      refine ⟨b.2, ?_, r.2⟩
      simp only [List.getElem?_cons_zero]
      exact congrArg some (Prod.ext r.1.symm rfl)
    | succ j =>
      simp only [List.getElem?_cons_succ] at e ⊢
      exact ih e
theorem paired_get {α β : Type} {G : α → β → Prop} {l₁ : List α} {l₂ : List β} (h : Paired G l₁ l₂) : ∀ {i : Nat} {a : α}, l₁[i]? = some a → ∃ b, l₂[i]? = some b ∧ G a b := by
  induction h with
  | nil => intro i a e; simp at e
  | @cons a b l₁ l₂ r t ih =>
    intro i a' e
    cases i with
    | zero =>
      simp only [List.getElem?_cons_zero, Option.some.injEq] at e
      subst e
      exact ⟨b, rfl, r⟩
    | succ j =>
      simp only [List.getElem?_cons_succ] at e ⊢
      exact ih e
theorem relV_key {k : Key} {u : Value} (h : keyIs k u = true) : RelV (kV k) u := by
  rcases keyIs_shape h with ⟨i, t, rfl, rfl⟩ | ⟨x, t, rfl, rfl⟩
  · exact ⟨t, rfl⟩
  · exact ⟨t, rfl⟩
section
variable {X : Cx} {pins : List (Addr × Obj)} {σ : St} {H : Hp} {s : Shared} {d : Addr} {o : Obj}
theorem Inv.frzK {kvs : List (Key × V)} (I : Inv X pins σ H s) (h : H d = some (.frz o (.dK kvs))) :
    (d == sysModules) = false ∧ s.heap.get? d = some o ∧ o.ExactDict ∧ ∃ (es : Array DictEntry) (ep : Nat) (vs : List (Key × Value)), o.data = .dict es ep ∧ es.size = kvs.length ∧ KV kvs vs ∧ s.heap.DictAt (mixKind X.prog X.w) d vs ep := by
  obtain ⟨hd, z, hs, vs, kv, o', es, ep, ho, hx, hdt, r⟩ := I.hok d _ h
  rw [hd] at ho
  cases ho
  refine ⟨hs, hd, hx, es, ep, vs, hdt, ?_, kv, o, es, hd, hx, hdt, r⟩
  have l1 := r.2.1.length
  have l2 : kvs.length = vs.length := Paired.length kv
  rw [Array.length_toList] at l1
  omega
end
def Iti (d : Addr) (o : Obj) (kvs : List (Key × V)) : It :=
  ⟨fun i H => H d = some (.frz o (.dK kvs)) ∧ i < kvs.length, fun i H x H' => ∃ T k v, kvs[i]? = some (k, v) ∧ x = .ref T ∧ H T = none ∧ H' = upd H T (.tup [kV k, v]), fun i H => H d = some (.frz o (.dK kvs)) ∧ kvs.length ≤ i⟩
theorem dict_ep {o : Obj} {es es' : Array DictEntry} {ep ep' : Nat} (h : o.data = .dict es ep) (h' : o.data = .dict es' ep') : es' = es ∧ ep' = ep := by
  rw [h] at h'
  cases h'
  exact ⟨rfl, rfl⟩
section
variable {P : Program} {w : World} {K : PySem.W.Frag} {tg : Expr} {d : Addr} {o : Obj} {es : Array DictEntry} {ep : Nat}
theorem turn_items {kvs : List (Key × V)} {elts : List Expr} {kk : Nat} {tpos : Pos} (it : Addr) (hod : o.data = .dict es ep) :
    Turn P w K (.Tuple elts kk tpos) (Iti d o kvs) [it] it (fun i h => ∃ ok ov, IsItemIter h it d i kvs.length ep ok ov) where
  mem := by simp
  obj := fun i h st b hb => by
    have e : b = it := by simpa using hb
    subst e
    obtain ⟨ok, ov, e⟩ := st
    exact ⟨_, e, fun v z => nomatch z⟩
  keep := fun i h h' st k => let ⟨ok, ov, e⟩ := st; ⟨ok, ov, k it (by simp) _ e⟩
  item := by
    intro X hP hw hK hc i pins s σ H E I hf st hg
    subst hP hw hK
    obtain ⟨hd, hi⟩ := hg
    obtain ⟨hs, hgd, hx, es', ep', vs, hdt, hsz, kv, hm⟩ := I.frzK hd
    obtain ⟨rfl, rfl⟩ := dict_ep hod hdt
    obtain ⟨⟨k, v⟩, hkv⟩ : ∃ p, kvs[i]? = some p := ⟨kvs[i], List.getElem?_eq_getElem hi⟩
    obtain ⟨u, hu, ru⟩ := kv_get kv hkv
    have hl : kvs.length = vs.length := Paired.length kv
    obtain ⟨ok, ov, he⟩ := st
    rw [hl] at he
    have hlt : it < s.heap.objs.size := Heap.lt_size he
    refine wpAny_pyNext_items_item he hm hu fun key h' hkey ho hT hz hk => ?_
    refine ⟨_, rfl, wpAny_letOwnedTupleGo_items (s := { s with heap := h' }) ho fun h'' he' sb => ?_⟩
    have hT2 : h''.get? s.heap.objs.size = some { cls := .type "tuple", data := .seq #[key, u] } := (sb.2 _ (Nat.ne_of_gt hlt)).trans hT
    have new : ObjOk X.prog X.w (upd H s.heap.objs.size (.tup [kV k, v])) h'' s.heap.objs.size (.tup [kV k, v]) :=
      ⟨by show 2 ≤ sizeLine; decide, [key, u], .cons (relV_key (show keyIs k key = true from hkey)) (.cons ru .nil), ⟨_, hT2, rfl, _, rfl⟩⟩
    have I1 : Inv X pins σ (upd H s.heap.objs.size (.tup [kV k, v])) { s with heap := h'' } :=
      I.turnedNew (t' := s.toks) (ch := [it]) (fun b ob hb e => (sb.2 b (by simpa using hb)).trans (hk b ob (by simpa using hb) e)) hf (Nat.le_refl _) new
    refine ⟨.ref s.heap.objs.size, _, I1, rfl, ⟨_, k, v, hkv, rfl, I.hok.fresh (Nat.le_refl _), rfl⟩, ⟨key, u, ?_⟩, fun b hb => ?_⟩
    · rw [hl]; exact he'
    · have e : b = it := by simpa using hb
      rw [e, upd_ne (Nat.ne_of_lt hlt)]
      exact (hf it (by simp)).1
  done := by
    intro X hP hw hK hc i pins s σ H E I hf st hg
    subst hP hw hK
    obtain ⟨hd, hi⟩ := hg
    obtain ⟨f0, f1, f2, f3, f4, f5⟩ := hf it (by simp)
    obtain ⟨hs, hgd, hx, es', ep', vs, hdt, hsz, kv, hm⟩ := I.frzK hd
    obtain ⟨rfl, rfl⟩ := dict_ep hod hdt
    have hl : kvs.length = vs.length := Paired.length kv
    obtain ⟨ok, ov, he⟩ := st
    rw [hl] at he
    exact wpAny_pyNext_items_end (I.ok.hd hc) he hm (List.getElem?_eq_none (by omega)) fun h' eb => ⟨rfl, I.turned (t' := s.toks) (fun b ob hb e => eb b ob hb e) f0 f1 f3 f4 f5⟩
  self := fun A i s Q E st h => let ⟨_, _, e⟩ := st; PySem.W.kcp_self e h
end
def iItems (td : TE) : TI := fun σ H R => td σ H fun x H1 => ∃ d o kvs, x = .ref d ∧ H1 d = some (.frz o (.dK kvs)) ∧ R (Iti d o kvs) H1
section
variable {X : Cx} {tg e : Expr} {td : TE} {apos cpos : Pos}
theorem pi_items {elts : List Expr} {kk : Nat} {tpos : Pos} (he : PE X e td) (hbase : attributeBase e "items" X.env (eval e X.env) = eval e X.env := by rfl) (hline : (apos.endLine == cpos.line) = true := by rfl) :
    PI X (.Tuple elts kk tpos) (.Call (.Attribute e "items" apos) [] [] cpos) (iItems td) := by
  intro pins s σ H R I h
  refine wpAny_Call_method (T := "dict") (id := "dict.items") hbase rfl hline F.plainAttrs_dict F.slot_dict_items F.type_dict_items (thn (he pins s σ H _ I h) fun u s1 ⟨x, H1, I1, rx, d, o, kvs, ex, hd, q⟩ => ?_)
  subst ex
  obtain rfl : u = Value.ref d := rx
  obtain ⟨hs, hgd, hx, es, ep, vs, hdt, hsz, kv, hm⟩ := I1.frzK hd
  have hl : kvs.length = vs.length := Paired.length kv
  refine ⟨hm.dictOf.typeIs, hm.dictOf.mapOf.noDict, ?_⟩
  have I2 : Inv X pins σ H1 { s1 with heap := s1.heap.push { cls := .type "dict_items", data := .fields #[.ref d] } } := I1.kept (t' := s1.toks) fun b ob q => Heap.get?_push_of_some _ q
  have fin : wpAny (model X.prog X.w) X.A (pyIter (.ref s1.heap.objs.size)) (PIE X pins σ (.Tuple elts kk tpos) R) X.xe { s1 with heap := s1.heap.push { cls := .type "dict_items", data := .fields #[.ref d] } } := by
    refine wpAny_pyIter_items (d := d) (knd := mixKind X.prog X.w) ⟨_, Heap.get?_push_size _ rfl, rfl, rfl⟩ (hm.push _) (pi_one (tk := s1.toks) I2 _ (turn_items _ hdt) ⟨.none, .none, ?_⟩ q)
    rw [hl]
    exact Heap.get?_push_size _ rfl
  show wpAny _ _ (callWith cpos (.builtin "dict.items") [.ref d] [] []) _ X.xe s1
  exact method_meetsIn F.slot_dict_items F.entry_dict_items rfl (PySem.evalArgs_none ⟨rfl, hm.dictOf.typeIs, F.args_dict_items_1 _, _, meets_dict_items (mixKind X.prog X.w) d hs, ⟨vs, hm.dictOf⟩, fin⟩)
end
def Ite (K : PySem.W.Frag) (a : Addr) : It :=
  ⟨fun i H => ∃ (xs : List V) (x : V), SqL K H a xs ∧ xs[i]? = some x, fun i H v H' => ∃ T x, v = .ref T ∧ H T = none ∧ H' = upd H T (.tup [.int (i : Nat), x]) ∧ ∀ xs, SqL K H a xs → xs[i]? = some x, fun i H => ∃ xs : List V, SqL K H a xs ∧ xs.length ≤ i⟩
theorem turn_enum {P : Program} {w : World} {K : PySem.W.Frag} {elts : List Expr} {kk : Nat} {tpos : Pos} (a e it : Addr) :
    Turn P w K (.Tuple elts kk tpos) (Ite K a) [e, it] e (fun i h => (∃ old, IsEnum h e it ((i : Nat) : Int) old) ∧ h.IsListIter it a i ∧ e ≠ it) where
  mem := by simp
  obj := fun i h st b hb => by
    obtain ⟨⟨old, he⟩, ⟨o, ho, hc, hd⟩, _⟩ := st
    have e' : b = e ∨ b = it := by simpa using hb
    rcases e' with z | z
    · rw [z]; exact ⟨_, he, fun v q => nomatch q⟩
    · rw [z]; exact ⟨o, ho, fun v q => by rw [hd] at q; cases q⟩
  keep := fun i h h' st k => let ⟨⟨old, he⟩, hi, hne⟩ := st; ⟨⟨old, k e (by simp) _ he⟩, hi.at fun o q => k it (by simp) o q, hne⟩
  item := by
    intro X hP hw hK hc i pins s σ H E I hf st hg
    subst hP hw hK
    obtain ⟨⟨old, he⟩, hit, hne⟩ := st
    obtain ⟨xs, x, hq, hx⟩ := hg
    obtain ⟨its, rv, p, hz⟩ := I.list hq
    obtain ⟨u, hu, ru⟩ := rv.get hx
    have hel : e < s.heap.objs.size := Heap.lt_size he
    have hil : it < s.heap.objs.size := by obtain ⟨_, q, _⟩ := hit; exact Heap.lt_size q
    refine wpAny_pyNext_enum_item he hit p.isList (x := u) (by simpa using hu) hne fun h' ho hit' hT hsz hk => ?_
    refine ⟨_, rfl, wpAny_letOwnedTupleGo_enum (s := { s with heap := h', toks := s.toks + 1 }) ho fun h'' he' sb => ?_⟩
    have hT2 : h''.get? s.heap.objs.size = some { cls := .type "tuple", data := .seq #[.int i s.toks, u] } := (sb.2 _ (Nat.ne_of_gt hel)).trans hT
    have new : ObjOk X.prog X.w (upd H s.heap.objs.size (.tup [.int (i : Nat), x])) h'' s.heap.objs.size (.tup [.int (i : Nat), x]) :=
      ⟨by show 2 ≤ sizeLine; decide, [.int i s.toks, u], .cons ⟨_, rfl⟩ (.cons ru .nil), ⟨_, hT2, rfl, _, rfl⟩⟩
    have I1 : Inv X pins σ (upd H s.heap.objs.size (.tup [.int (i : Nat), x])) { s with heap := h'', toks := s.toks + 1 } :=
      I.turnedNew (ch := [e, it]) (fun b ob hb q => (sb.2 b (fun z => hb (by simp [z]))).trans (hk b ob (fun z => hb (by simp [z])) (fun z => hb (by simp [z])) q)) hf (Nat.le_refl _) new
    refine ⟨.ref s.heap.objs.size, _, I1, rfl, ⟨_, x, rfl, I.hok.fresh (Nat.le_refl _), rfl, fun ys hy => by rw [I.list_inj hy hq]; exact hx⟩, ⟨⟨u, ?_⟩, hit'.at fun o q => (sb.2 it (Ne.symm hne)).trans q, hne⟩, fun b hb => ?_⟩
    · have e1 : ((i + 1 : Nat) : Int) = (i : Int) + 1 := by omega
      rw [e1]; exact he'
    · have hb' : b < s.heap.objs.size := by
        have e' : b = e ∨ b = it := by simpa using hb
        rcases e' with z | z
        · rw [z]; exact hel
        · rw [z]; exact hil
      rw [upd_ne (Nat.ne_of_lt hb')]
      exact (hf b hb).1
  done := by
    intro X hP hw hK hc i pins s σ H E I hf st hg
    subst hP hw hK
    obtain ⟨⟨old, he⟩, hit, hne⟩ := st
    obtain ⟨xs, hq, hx⟩ := hg
    obtain ⟨its, rv, p, hz⟩ := I.list hq
    obtain ⟨f0, f1, f2, f3, f4, f5⟩ := hf it (by simp)
    have hl := rv.length
    exact wpAny_pyNext_enum_end (I.ok.hd hc) he hit p.isList (by simp; omega) fun h' eb => ⟨rfl, I.turned (t' := s.toks) (fun b o hb q => eb b o hb q) f0 f1 f3 f4 f5⟩
  self := fun A i s Q E st h => let ⟨⟨_, he⟩, _⟩ := st; wpAny_pyIter_enum he h
def iEnum (K : PySem.W.Frag) (ta : TA) : TI := fun σ H R => ta σ H fun vs H1 => ∃ a xs, vs = [.ref a] ∧ SqL K H1 a xs ∧ R (Ite K a) H1
theorem pi_enum {X : Cx} {e : Expr} {ta : TA} {p pos tpos : Pos} {elts : List Expr} {kk : Nat} (hg : Gl X "enumerate") (hm : X.mg "enumerate" = none) (ha : PA X [e] ta) (hs : starEach [e] X.env = [(false, eval e X.env)] := by rfl) :
    PI X (.Tuple elts kk tpos) (.Call (.Name "enumerate" p) [e] [] pos) (iEnum X.K ta) := by
  intro pins s σ H R I h
  refine Call_ (ld_blt I hg hm boot_enumerate (PyProof.Rows.callWith_type1 (thn (ha pos pins s σ H _ I h) fun us s1 ⟨vs, H1, I1, r1, q1⟩ => ?_) hs rfl))
  obtain ⟨a, xs, ex, hq, q⟩ := q1
  subst ex
  cases r1 with
  | cons r rr =>
    cases rr
    cases r
    obtain ⟨its, rv, p', hz⟩ := I1.list hq
    refine call_enumerate_list p'.isList fun h' he hit hsz hk => wpAny_pyIter_enum he ?_
    have I2 : Inv X pins σ H1 { s1 with heap := h' } := I1.kept (t' := s1.toks) hk
    refine ⟨s1.heap.objs.size + 1, [s1.heap.objs.size + 1, s1.heap.objs.size], _, _, H1, rfl, I2, turn_enum a (s1.heap.objs.size + 1) s1.heap.objs.size, ⟨⟨.none, he⟩, hit, Nat.succ_ne_self _⟩, fun b hb => ?_, q⟩
    have e' : b = s1.heap.objs.size + 1 ∨ b = s1.heap.objs.size := by simpa using hb
    have hle : s1.heap.objs.size ≤ b := by
      rcases e' with z | z
      · rw [z]; exact Nat.le_add_right _ _
      · rw [z]; exact Nat.le_refl _
    exact I1.fpOk hle (I1.hok.fresh hle)
end L2
section
namespace TL
open PySem PySem.Builtin PySem.Builtin.Str PySem.StrLaws
abbrev tl (x : Str) : List Nat := x.cps.toList
theorem len_tl (x : Str) : x.length = (tl x).length := by simp [tl, Str.length]
def pre (S l : List Nat) : Bool := l.take S.length == S
def par (S : List Nat) : List Nat → List Nat → Option (List Nat × List Nat)
  | _, [] => none
  | acc, c :: r => if pre S (c :: r) = true then some (acc, (c :: r).drop S.length) else par S (acc ++ [c]) r
theorem pre_of_head {s c : Nat} (S r : List Nat) (h : c ≠ s) : pre (s :: S) (c :: r) = false := by
  cases hp : pre (s :: S) (c :: r) with
  | false => rfl
  | true =>
    have e : (c :: r).take (s :: S).length = s :: S := eq_of_beq hp
    rw [List.length_cons, List.take_succ_cons] at e
    injection e with e1 e2
    exact absurd e1 h
theorem len1 {y : Str} (hy : tl y ≠ []) : 1 ≤ y.length := by
  have e2 : 0 < (tl y).length := List.length_pos_iff.mpr hy
  rw [len_tl y]
  exact e2
theorem free_of {s : Nat} {S p q : List Nat} (h : s ∉ p) : ∀ i, i < p.length → pre (s :: S) ((p ++ q).drop i) = false := fun i hi => by
  have hlt : i < (p ++ q).length := by rw [List.length_append]; omega
  have e : (p ++ q).drop i = (p ++ q)[i] :: (p ++ q).drop (i + 1) := List.drop_eq_getElem_cons hlt
  rw [e]
  refine pre_of_head _ _ fun z => h ?_
  have e1 : (p ++ q)[i] = p[i] := List.getElem_append_left hi
  rw [← z, e1]
  exact List.getElem_mem hi
end TL
end
namespace L2
open PySem PySem.Spec PyProof.Rows
def inClass (s : Stmt) (j : Nat) : Stmt := match s with
  | .ClassDef _ _ _ body _ _ _ _ _ _ _ => body.getD j (.Pass ⟨0, 0, 0, 0⟩)
  | _ => .Pass ⟨0, 0, 0, 0⟩
def defArgs (s : Stmt) : Arguments := match s with
  | .FunctionDef _ a _ _ _ _ _ _ _ _ => a
  | _ => { posonlyargs := [], args := [], vararg := none, kwonlyargs := [], kw_defaults := [], kwarg := none, defaults := [] }
def defBody (s : Stmt) : List Stmt := match s with
  | .FunctionDef _ _ b _ _ _ _ _ _ _ => b
  | _ => []
def defScope (s : Stmt) : Scope := match s with
  | .FunctionDef _ _ _ _ _ _ sc _ _ _ => sc
  | _ => { kind := .function, names := [], isGenerator := false, isCoroutine := false }
abbrev CX0 : CXT := fun _ _ _ _ _ _ => False
abbrev E0 : XK := fun _ _ _ => False
theorem pass0 {X : Cx} : Passes CX0 X E0 := fun _ _ _ _ _ _ _ h => h.elim
structure Fun (K : PySem.W.Frag) (x qual : Str) (st : Stmt) (f : Addr) (fd : FuncData) : Prop where
  ex : ∃ (oc : Value) (od : Option Addr) (kV doc pm : Value) (an : Option Addr) (cdv ct : Value) (osl : Array (Option Value)),
    fd = PySem.W.fnOf x qual (defArgs st) (defBody st) (defScope st) .none kV doc pm an cdv ct ∧ K.lookup f = some ⟨oc, od, .func fd, osl⟩ ∧ PySem.W.codeIn K cdv qual = true
  kp : PySem.W.keepIn K (.ref f) = true
section
variable {P : Program} {w : World} {K : PySem.W.Frag} {mg : Str → Option Value} {base : Heap}
theorem Fun.ok {x qual : Str} {st : Stmt} {f : Addr} {fd : FuncData} {N ps : List Str} {k : Nat} {sp : Sp} (F : Fun K x qual st f fd) (S : FnScope N ps (defScope st)) (len : ∀ vs H Q E, sp vs H Q E → vs.length = ps.length)
    (hbody : ∀ (cdv : Value) (A : Around) (outer : List Env) (s : Shared) (H : Hp) (vs : List V) (Q : VK) (E : XK), Room k (A.deeper (envOfC qual (defScope st) s.heap.objs.size f cdv)) → sp vs H Q E →
      ∃ t, PSs (cxOf CX0 P w K mg base N qual (defScope st) f cdv A outer s H E).nox (defBody st) t ∧ t { nx := fun _ H' => Q .non H', rt := Q } (start N vs) H) : FnOk P w K mg base CX0 (k + 1) f fd ps sp := by
  obtain ⟨oc, od, kV, doc, pm, an, cdv, ct, osl, rfl, lk, hcd⟩ := F.ex
  refine fn_of lk hcd S len fun A outer s H vs Q E hr hsp => ?_
  obtain ⟨t, h, q⟩ := hbody cdv A outer s H vs Q E hr hsp
  exact ⟨t, h.nox, q⟩
theorem Fun.binds {x qual : Str} {st : Stmt} {f : Addr} {fd : FuncData} {ps : List Str} (F : Fun K x qual st f fd)
    (h : ∀ (kV doc pm : Value) (an : Option Addr) (cdv ct : Value) (us : List Value), us.length = ps.length → bindArgs (PySem.W.fnOf x qual (defArgs st) (defBody st) (defScope st) .none kV doc pm an cdv ct) ⟨us, []⟩ = pure (ps.zip us)) : Binds K fd ps [] := by
  obtain ⟨oc, od, kV, doc, pm, an, cdv, ct, osl, rfl, lk, hcd⟩ := F.ex
  exact .all (h kV doc pm an cdv ct)
theorem fun_mk {x qual : Str} {st : Stmt} {f : Addr} {oc : Value} {od an : Option Addr} {osl : Array (Option Value)} {kV doc pm cdv ct : Value} (l : K.lookup f = some ⟨oc, od, .func (PySem.W.fnOf x qual (defArgs st) (defBody st) (defScope st) .none kV doc pm an cdv ct), osl⟩)
    (c : PySem.W.codeIn K cdv qual = true) (k : PySem.W.keepIn K (.ref f) = true) : Fun K x qual st f (PySem.W.fnOf x qual (defArgs st) (defBody st) (defScope st) .none kV doc pm an cdv ct) := ⟨⟨oc, od, kV, doc, pm, an, cdv, ct, osl, rfl, l, c⟩, k⟩
end
theorem hu_of {A : Around} {k : Nat} (hr : Room k A) : A.units + 1 < cLine := Nat.lt_of_le_of_lt (Nat.add_le_add_left (by decide : 1 ≤ 64) _) hr.units
section
variable {X : Cx}
theorem pv (i : Nat) {x : Str} {pos : Pos} (hN : X.N[i]? = some x := by rfl) (hv : Vis X.env.scope x := by first | exact Or.inl rfl | exact Or.inr (Or.inl rfl) | exact Or.inr (Or.inr rfl)) (hd : (x == ("__debug__" : Str)) = false := by decide)
    (hcd : (x == ("__classdict__" : Str)) = false := by decide) : PE X (.Name x pos) (tVar i) := pe_var hN hv hd hcd
end
def Same (H H' : Hp) : Prop := ∀ b o, H b = some o → H' b = some o
theorem Same.refl (H : Hp) : Same H H := fun _ _ h => h
theorem Same.trans {H H1 H2 : Hp} (a : Same H H1) (b : Same H1 H2) : Same H H2 := fun c o h => b c o (a c o h)
theorem Same.free {H H' : Hp} (e : Same H H') {l : Addr} (h : H' l = Option.none) : H l = Option.none := by
  cases q : H l with
  | none => rfl
  | some o =>
    rw [e l o q] at h
    cases h
theorem Same.seq {K : PySem.W.Frag} {H H' : Hp} {a : Addr} {xs : List V} (e : Same H H') (h : SqL K H a xs) : SqL K H' a xs := by
  rcases h with (h | ⟨o, h⟩) | h
  · exact .inl (.inl (e _ _ h))
  · exact .inl (.inr ⟨o, e _ _ h⟩)
  · exact .inr h
theorem nd_ix {α : Type} {l : List α} (hN : l.Nodup) {i j : Nat} {x : α} (a : l[i]? = some x) (b : l[j]? = some x) : i = j := by
  obtain ⟨h1, e1⟩ := List.getElem?_eq_some_iff.mp a
  obtain ⟨h2, e2⟩ := List.getElem?_eq_some_iff.mp b
  exact (List.getElem_inj hN).mp (e1.trans e2.symm)
theorem Same.made {H H1 : Hp} {x dx C : Addr} (nx : H x = Option.none) (nd : H dx = Option.none) (k : ∀ b o, (upd (upd H dx (.own x)) x (.ins C dx [])) b = some o → b ≠ x → H1 b = some o) : Same H H1 := fun b o e =>
  k b o (by rw [upd_ne (ne_of_none e nx), upd_ne (ne_of_none e nd)]; exact e) (ne_of_none e nx)
end L2
namespace L2
open PySem PySem.Spec PyProof.Rows
open PySem.W (WData Codec OpenSpec Well WellAll ReadsW ReadsAllW)
mutual
inductive Dw (K : PySem.W.Frag) (H : Hp) : V → WData → Prop
  | non : Dw K H .non .none
  | bl (b : Bool) : Dw K H (.bl b) (.bool b)
  | int (i : Int) : Dw K H (.int i) (.int i)
  | str (x : Str) : Dw K H (.str x) (.str x)
  | byt (b : Array UInt8) : Dw K H (.byt b) (.bytes b.toList)
  | lst {a : Addr} {xs : List V} {ds : List WData} : SqL K H a xs → DwAll K H xs ds → Dw K H (.ref a) (.list ds)
  | tup {a : Addr} {xs : List V} {ds : List WData} : SqT K H a xs → DwAll K H xs ds → Dw K H (.ref a) (.tuple ds)
inductive DwAll (K : PySem.W.Frag) (H : Hp) : List V → List WData → Prop
  | nil : DwAll K H [] []
  | cons {v : V} {vs : List V} {d : WData} {ds : List WData} : Dw K H v d → DwAll K H vs ds → DwAll K H (v :: vs) (d :: ds)
end
theorem dw_ints {K : PySem.W.Frag} {H : Hp} : ∀ ns : List Int, DwAll K H (ns.map V.int) (ns.map WData.int)
  | [] => .nil
  | n :: r => .cons (.int n) (dw_ints r)
theorem ints_dw {K : PySem.W.Frag} {H : Hp} : ∀ (ns : List Int) (xs : List V), DwAll K H xs (ns.map WData.int) → xs = ns.map V.int
  | [], xs, h => by
    cases h
    rfl
  | n :: r, xs, h => by
    cases h with
    | cons h1 h2 =>
      cases h1
      rw [ints_dw r _ h2] <;> rfl
section
variable {P : Program} {w : World} {K : PySem.W.Frag} {H : Hp} {h : Heap} {R : PySem.W.WRecords} {cl : Str → Option Addr}
theorem sqL_at {a : Addr} {xs : List V} (hok : HOk P w H h) (KX : K.In h) (q : SqL K H a xs) : ∃ (its : List Value) (o : Obj) (n : Nat), Vals xs its ∧ h.get? a = some o ∧ o.cls = .type "list" ∧ o.data = .seq its.toArray n := by
  rcases q with q | ⟨o, its, n, e, hc, _, hd, _, hv⟩
  · obtain ⟨_, its, n, hv, e⟩ := (show ObjOk P w H h a (.lst xs) from q.ok hok)
    exact ⟨its, _, n, hv, e, rfl, rfl⟩
  · exact ⟨its.toList, o, n, hv, KX _ _ e, hc, by simp [hd]⟩
theorem sqT_at {a : Addr} {xs : List V} (hok : HOk P w H h) (KX : K.In h) (q : SqT K H a xs) : ∃ (its : List Value) (o : Obj) (n : Nat), Vals xs its ∧ h.get? a = some o ∧ o.cls = .type "tuple" ∧ o.data = .seq its.toArray n := by
  rcases q with q | ⟨o, its, n, e, hc, hd, _, hv⟩
  · obtain ⟨_, its, hv, o, e, hc, n, hd⟩ := (show ObjOk P w H h a (.tup xs) from q.ok hok)
    exact ⟨its, o, n, hv, e, hc, hd⟩
  · exact ⟨its.toList, o, n, hv, KX _ _ e, hc, by simp [hd]⟩
mutual
theorem Dw.reads (hok : HOk P w H h) (KX : K.In h) : ∀ (d : WData) (v : V) (u : Value), Dw K H v d → RelV v u → ∃ as, ReadsW R cl h u d as
  | .none, _, _, x, r => by
    cases x
    cases r
    exact ⟨_, ReadsW.none⟩
  | .bool b, _, _, x, r => by
    cases x
    cases r
    exact ⟨_, ReadsW.bool b⟩
  | .int i, _, _, x, r => by
    cases x
    obtain ⟨t, rfl⟩ := r
    exact ⟨_, ReadsW.int i t⟩
  | .str s, _, _, x, r => by
    cases x
    obtain ⟨t, rfl⟩ := r
    exact ⟨_, ReadsW.str s t⟩
  | .bytes b, _, _, x, r => by
    cases x
    obtain ⟨t, rfl⟩ := r
    exact ⟨_, ReadsW.bytes _ t⟩
  | .list ds, _, _, x, r => by
    cases x with
    | lst hs ha =>
      cases r
      obtain ⟨its, o, n, rv, ho, hc, hd⟩ := sqL_at hok KX hs
      obtain ⟨as, hr⟩ := Dw.readsAll hok KX ds _ its ha rv
      exact ⟨_, ReadsW.list ho hc hd hr⟩
  | .tuple ds, _, _, x, r => by
    cases x with
    | tup hs ha =>
      cases r
      obtain ⟨its, o, n, rv, ho, hc, hd⟩ := sqT_at hok KX hs
      obtain ⟨as, hr⟩ := Dw.readsAll hok KX ds _ its ha rv
      exact ⟨_, ReadsW.tuple ho hc hd hr⟩
  | .float _, _, _, x, _ => by cases x
  | .dict _, _, _, x, _ => by cases x
  | .bytearray _, _, _, x, _ => by cases x
  | .set _, _, _, x, _ => by cases x
  | .frozenset _, _, _, x, _ => by cases x
  | .obj _ _, _, _, x, _ => by cases x
theorem Dw.readsAll (hok : HOk P w H h) (KX : K.In h) : ∀ (ds : List WData) (vs : List V) (us : List Value), DwAll K H vs ds → Vals vs us → ∃ as, ReadsAllW R cl h us ds as
  | [], _, _, x, r => by
    cases x
    cases r
    exact ⟨_, ReadsAllW.nil⟩
  | d :: ds, _, _, x, r => by
    cases x with
    | cons h1 h2 =>
      cases r with
      | cons r1 r2 =>
        obtain ⟨as, q1⟩ := Dw.reads hok KX d _ _ h1 r1
        obtain ⟨bs, q2⟩ := Dw.readsAll hok KX ds _ _ h2 r2
        exact ⟨_, ReadsAllW.cons q1 q2⟩
end
end
mutual
def plW : WData → Bool
  | .none => true
  | .bool _ => true
  | .int _ => true
  | .str _ => true
  | .bytes _ => true
  | .list xs => plWs xs
  | .tuple xs => plWs xs
  | _ => false
def plWs : List WData → Bool
  | [] => true
  | x :: r => plW x && plWs r
end
theorem plWs_map {α : Type} {f : α → WData} (h : ∀ a, plW (f a) = true) : ∀ l : List α, plWs (l.map f) = true
  | [] => rfl
  | x :: r => by
    show (plW (f x) && plWs (r.map f)) = true
    rw [h x, plWs_map h r] <;> rfl
theorem pl_enc : ∀ (c : Codec) (a : c.denote), plW (c.enc a) = true
  | .unit, _ => rfl
  | .bool, _ => rfl
  | .int _ _, _ => rfl
  | .nat _ _, _ => rfl
  | .u8, _ => rfl
  | .bytes _ _, _ => rfl
  | .text _ _ _ _, _ => rfl
  | .list _ _ c, a => plWs_map (fun x => pl_enc c x) a
  | .pair c d, a => by
    show (plW (c.enc a.1) && (plW (d.enc a.2) && true)) = true
    rw [pl_enc c a.1, pl_enc d a.2] <;> rfl
  | .triple c d e, a => by
    show (plW (c.enc a.1) && (plW (d.enc a.2.1) && (plW (e.enc a.2.2) && true))) = true
    rw [pl_enc c a.1, pl_enc d a.2.1, pl_enc e a.2.2] <;> rfl
  | .option c, none => rfl
  | .option c, some x => pl_enc c x
theorem pl_encAll : ∀ (cs : List Codec) (a : Codec.denoteAll cs), plWs (Codec.encAll cs a) = true
  | [], _ => rfl
  | c :: cs, a => by
    show (plW (c.enc a.1) && plWs (Codec.encAll cs a.2)) = true
    rw [pl_enc c a.1, pl_encAll cs a.2] <;> rfl
theorem weight_mem : ∀ {xs : List WData} {d : WData}, d ∈ xs → d.weight ≤ WData.weightAll xs
  | [], d, h => absurd h (by simp)
  | x :: r, d, h => by
    show d.weight ≤ x.weight + 1 + WData.weightAll r
    rcases List.mem_cons.mp h with e | m
    · rw [e]
      omega
    · have z := weight_mem m
      omega
def toV : Value → V
  | .none => .non
  | .bool b => .bl b
  | .int i _ => .int i
  | .str x _ => .str x
  | .bytes b _ => .byt b
  | .ref a => .ref a
  | _ => .non
def OkU (A : List Addr) : Value → Prop
  | .none => True
  | .bool _ => True
  | .int _ _ => True
  | .str _ _ => True
  | .bytes _ _ => True
  | .ref a => a ∈ A
  | _ => False
theorem OkU.mono {A B : List Addr} (h : ∀ a ∈ A, a ∈ B) : ∀ {u : Value}, OkU A u → OkU B u := fun {u} x => by
  cases u with
  | ref a => exact h a x
  | none => trivial
  | bool b => trivial
  | int i t => trivial
  | str s t => trivial
  | bytes b t => trivial
  | _ => exact False.elim x
theorem relV_toV {A : List Addr} {u : Value} (x : OkU A u) : RelV (toV u) u := by
  cases u with
  | ref a => rfl
  | none => rfl
  | bool b => rfl
  | int i t => exact ⟨t, rfl⟩
  | str s t => exact ⟨t, rfl⟩
  | bytes b t => exact ⟨t, rfl⟩
  | _ => exact False.elim x
theorem vals_toV {A : List Addr} : ∀ {vs : List Value}, (∀ u ∈ vs, OkU A u) → Vals (vs.map toV) vs
  | [], _ => .nil
  | u :: r, h => .cons (relV_toV (h u (List.mem_cons_self ..))) (vals_toV fun x hx => h x (List.mem_cons_of_mem _ hx))
def ArgOb (h : Heap) (A : List Addr) (a : Addr) : Prop := ∃ vs : List Value, vs.length ≤ sizeLine ∧ (∀ u ∈ vs, OkU A u) ∧
  (h.get? a = some { cls := .type "list", data := .seq vs.toArray } ∨ h.get? a = some { cls := .type "tuple", data := .seq vs.toArray })
theorem ArgOb.mono {h : Heap} {A B : List Addr} {a : Addr} (k : ∀ a ∈ A, a ∈ B) (x : ArgOb h A a) : ArgOb h B a := by
  obtain ⟨vs, h1, h2, h3⟩ := x
  exact ⟨vs, h1, fun u hu => (h2 u hu).mono k, h3⟩
theorem wellAll_len {P : Params} {h : Heap} : ∀ {vs : List Value} {ds : List WData}, WellAll P h vs ds → vs.length = ds.length
  | _, _, .nil => rfl
  | _, _, .cons _ b => by
    show _ + 1 = _ + 1
    rw [wellAll_len b]
theorem well_list {P : Params} {h : Heap} {v : Value} {ds : List WData} (x : Well P h v (.list ds)) : ∃ (a : Addr) (vs : List Value), v = .ref a ∧ h.get? a = some { cls := .type "list", data := .seq vs.toArray } ∧ WellAll P h vs ds := by
  cases x with
  | list ho hall => exact ⟨_, _, rfl, ho, hall⟩
theorem well_tuple {P : Params} {h : Heap} {v : Value} {ds : List WData} (x : Well P h v (.tuple ds)) : ∃ (a : Addr) (vs : List Value), v = .ref a ∧ h.get? a = some { cls := .type "tuple", data := .seq vs.toArray } ∧ WellAll P h vs ds := by
  cases x with
  | tuple ho hall => exact ⟨_, _, rfl, ho, hall⟩
theorem well_cons {P : Params} {h : Heap} {us : List Value} {d : WData} {ds : List WData} (x : WellAll P h us (d :: ds)) : ∃ (v : Value) (vs : List Value), us = v :: vs ∧ Well P h v d ∧ WellAll P h vs ds := by
  cases x with
  | cons a b => exact ⟨_, _, rfl, a, b⟩
theorem line_of {n : Nat} (h : n ≤ 1048576) : n ≤ sizeLine := Nat.le_trans h (by decide)
section
variable {P : Params} {h : Heap}
mutual
theorem area_one : ∀ (d : WData) (v : Value), Well P h v d → plW d = true → d.weight ≤ 1048576 → ∃ A : List Addr, OkU A v ∧ ∀ a ∈ A, ArgOb h A a
  | .none, _, x, _, _ => by
    cases x
    exact ⟨[], trivial, fun a m => absurd m (by simp)⟩
  | .bool b, _, x, _, _ => by
    cases x
    exact ⟨[], trivial, fun a m => absurd m (by simp)⟩
  | .int i, _, x, _, _ => by
    cases x
    exact ⟨[], trivial, fun a m => absurd m (by simp)⟩
  | .str s, _, x, _, _ => by
    cases x
    exact ⟨[], trivial, fun a m => absurd m (by simp)⟩
  | .bytes b, _, x, _, _ => by
    cases x
    exact ⟨[], trivial, fun a m => absurd m (by simp)⟩
  | .list ds, _, x, p, z => by
    obtain ⟨a, vs, rfl, ho, hall⟩ := well_list x
    have z2 : WData.weightAll ds ≤ 1048576 := z
    obtain ⟨A, h1, h2⟩ := area_all ds _ hall p fun d hd => Nat.le_trans (weight_mem hd) z2
    have k : ∀ b ∈ A, b ∈ a :: A := fun b hb => List.mem_cons_of_mem _ hb
    refine ⟨a :: A, List.mem_cons_self .., fun b hb => ?_⟩
    rcases List.mem_cons.mp hb with e | m
    · rw [e]
      exact ⟨vs, line_of (by rw [wellAll_len hall]; exact Nat.le_trans (PySem.W.length_le_weightAllW ds) z2), fun u hu => (h1 u hu).mono k, .inl ho⟩
    · exact (h2 b m).mono k
  | .tuple ds, _, x, p, z => by
    obtain ⟨a, vs, rfl, ho, hall⟩ := well_tuple x
    have z2 : WData.weightAll ds ≤ 1048576 := z
    obtain ⟨A, h1, h2⟩ := area_all ds _ hall p fun d hd => Nat.le_trans (weight_mem hd) z2
    have k : ∀ b ∈ A, b ∈ a :: A := fun b hb => List.mem_cons_of_mem _ hb
    refine ⟨a :: A, List.mem_cons_self .., fun b hb => ?_⟩
    rcases List.mem_cons.mp hb with e | m
    · rw [e]
      exact ⟨vs, line_of (by rw [wellAll_len hall]; exact Nat.le_trans (PySem.W.length_le_weightAllW ds) z2), fun u hu => (h1 u hu).mono k, .inr ho⟩
    · exact (h2 b m).mono k
  | .float _, _, _, p, _ => Bool.noConfusion (show false = true from p)
  | .dict _, _, _, p, _ => Bool.noConfusion (show false = true from p)
  | .bytearray _, _, _, p, _ => Bool.noConfusion (show false = true from p)
  | .set _, _, _, p, _ => Bool.noConfusion (show false = true from p)
  | .frozenset _, _, _, p, _ => Bool.noConfusion (show false = true from p)
  | .obj _ _, _, _, p, _ => Bool.noConfusion (show false = true from p)
theorem area_all : ∀ (ds : List WData) (vs : List Value), WellAll P h vs ds → plWs ds = true → (∀ d ∈ ds, d.weight ≤ 1048576) → ∃ A : List Addr, (∀ u ∈ vs, OkU A u) ∧ ∀ a ∈ A, ArgOb h A a
  | [], _, x, _, _ => by
    cases x
    exact ⟨[], fun u m => absurd m (by simp), fun a m => absurd m (by simp)⟩
  | d :: ds, _, x, p, z => by
    obtain ⟨v, vs, rfl, x1, x2⟩ := well_cons x
    have q : plW d = true ∧ plWs ds = true := Bool.and_eq_true_iff.mp p
    obtain ⟨A, a1, a2⟩ := area_one d v x1 q.1 (z d (List.mem_cons_self ..))
    obtain ⟨B, b1, b2⟩ := area_all ds vs x2 q.2 fun e he => z e (List.mem_cons_of_mem _ he)
    have kA : ∀ b ∈ A, b ∈ A ++ B := fun b hb => List.mem_append.mpr (.inl hb)
    have kB : ∀ b ∈ B, b ∈ A ++ B := fun b hb => List.mem_append.mpr (.inr hb)
    refine ⟨A ++ B, fun u hu => ?_, fun b hb => ?_⟩
    · rcases List.mem_cons.mp hu with e | m
      · rw [e]
        exact a1.mono kA
      · exact (b1 u m).mono kB
    · rcases List.mem_append.mp hb with m | m
      · exact (a2 b m).mono kA
      · exact (b2 b m).mono kB
end
end
def hoOf (o : Obj) : Option HO := match o.data with
  | .seq vs _ => if (o.cls == Value.type "list") = true then some (.frz o (.lst (vs.toList.map toV))) else some (.frz o (.tup (vs.toList.map toV)))
  | _ => none
def argH (K : PySem.W.Frag) (h : Heap) (A : List Addr) : Hp := fun b => if b ∈ A then (if (K.lookup b).isNone = true then (h.get? b).bind hoOf else none) else none
def OnlyF (H : Hp) : Prop := ∀ b, H b = none ∨ ∃ o u, H b = some (.frz o u)
theorem hoOf_lst (vs : List Value) : hoOf { cls := .type "list", data := .seq vs.toArray } = some (.frz { cls := .type "list", data := .seq vs.toArray } (.lst (vs.map toV))) := by
  show (if (Value.type "list" == Value.type "list") = true then some (HO.frz { cls := .type "list", data := .seq vs.toArray } (.lst (vs.toArray.toList.map toV))) else some (HO.frz { cls := .type "list", data := .seq vs.toArray } (.tup (vs.toArray.toList.map toV)))) = _
  rw [if_pos (beq_self_eq_true _)]
theorem hoOf_tup (vs : List Value) : hoOf { cls := .type "tuple", data := .seq vs.toArray } = some (.frz { cls := .type "tuple", data := .seq vs.toArray } (.tup (vs.map toV))) := by
  show (if (Value.type "tuple" == Value.type "list") = true then some (HO.frz { cls := .type "tuple", data := .seq vs.toArray } (.lst (vs.toArray.toList.map toV))) else some (HO.frz { cls := .type "tuple", data := .seq vs.toArray } (.tup (vs.toArray.toList.map toV)))) = _
  rw [if_neg (by decide)]
section
variable {P : Program} {w : World} {K : PySem.W.Frag} {h : Heap} {A : List Addr}
theorem argH_at {b : Addr} {o : Obj} (hb : b ∈ A) (hk : K.lookup b = none) (e : h.get? b = some o) : argH K h A b = hoOf o := by
  unfold argH
  rw [if_pos hb, hk, if_pos (show (none : Option Obj).isNone = true from rfl), e] <;> rfl
theorem of_argH {b : Addr} {u : HO} (q : argH K h A b = some u) : b ∈ A ∧ K.lookup b = none := by
  unfold argH at q
  by_cases hb : b ∈ A
  · rw [if_pos hb] at q
    cases hk : K.lookup b with
    | none => exact ⟨hb, rfl⟩
    | some o =>
      rw [hk, if_neg (by simp)] at q
      cases q
  · rw [if_neg hb] at q
    cases q
theorem argH_is (ar : ∀ a ∈ A, ArgOb h A a) {b : Addr} {u : HO} (q : argH K h A b = some u) : K.lookup b = none ∧ ∃ vs : List Value, vs.length ≤ sizeLine ∧ (∀ u ∈ vs, OkU A u) ∧
    ((h.get? b = some { cls := .type "list", data := .seq vs.toArray } ∧ u = .frz { cls := .type "list", data := .seq vs.toArray } (.lst (vs.map toV))) ∨
     (h.get? b = some { cls := .type "tuple", data := .seq vs.toArray } ∧ u = .frz { cls := .type "tuple", data := .seq vs.toArray } (.tup (vs.map toV)))) := by
  obtain ⟨hb, hk⟩ := of_argH q
  obtain ⟨vs, h1, h2, h3⟩ := ar b hb
  refine ⟨hk, vs, h1, h2, ?_⟩
  rcases h3 with e | e
  · rw [argH_at hb hk e, hoOf_lst] at q
    exact .inl ⟨e, (Option.some.inj q).symm⟩
  · rw [argH_at hb hk e, hoOf_tup] at q
    exact .inr ⟨e, (Option.some.inj q).symm⟩
theorem argH_only (ar : ∀ a ∈ A, ArgOb h A a) : OnlyF (argH K h A) := fun b => by
  cases q : argH K h A b with
  | none => exact .inl rfl
  | some u =>
    obtain ⟨_, vs, _, _, ⟨_, e⟩ | ⟨_, e⟩⟩ := argH_is ar q
    · exact .inr ⟨_, _, by rw [e]⟩
    · exact .inr ⟨_, _, by rw [e]⟩
theorem argH_ok (ar : ∀ a ∈ A, ArgOb h A a) : HOk P w (argH K h A) h := fun b u q => by
  obtain ⟨_, vs, h1, h2, ⟨e, rfl⟩ | ⟨e, rfl⟩⟩ := argH_is ar q
  · exact ⟨e, by rw [List.length_map]; exact h1, vs, _, vals_toV h2, e⟩
  · exact ⟨e, by rw [List.length_map]; exact h1, vs, vals_toV h2, _, e, rfl, _, rfl⟩
theorem seq_inj {c c' : Value} {vs us : List Value} (e : (some { cls := c, data := .seq vs.toArray } : Option Obj) = some { cls := c', data := .seq us.toArray }) : c = c' ∧ vs = us := by
  have e1 := Option.some.inj e
  have e2 : c = c' := congrArg Obj.cls e1
  have e3 : Data.seq vs.toArray = Data.seq us.toArray := congrArg Obj.data e1
  injection e3 with e4
  refine ⟨e2, ?_⟩
  have e5 := congrArg Array.toList e4
  simpa using e5
theorem argL (KX : K.In h) (ar : ∀ a ∈ A, ArgOb h A a) {a : Addr} {vs : List Value} (ha : a ∈ A) (e : h.get? a = some { cls := .type "list", data := .seq vs.toArray }) : (∀ u ∈ vs, OkU A u) ∧ SqL K (argH K h A) a (vs.map toV) := by
  obtain ⟨us, h1, h2, h3⟩ := ar a ha
  have hu : us = vs := by
    rcases h3 with q | q
    · rw [e] at q
      exact (seq_inj q).2.symm
    · rw [e] at q
      exact absurd (Value.type.inj (seq_inj q).1) (by decide)
  subst hu
  refine ⟨h2, ?_⟩
  cases hk : K.lookup a with
  | none => exact .inl (.inr ⟨_, by rw [argH_at ha hk e, hoOf_lst]⟩)
  | some o =>
    have e2 := KX a o hk
    rw [e] at e2
    obtain rfl := Option.some.inj e2
    exact .inr ⟨_, us.toArray, _, hk, rfl, rfl, rfl, by rw [List.size_toArray]; exact h1, by simpa using vals_toV h2⟩
theorem argT (KX : K.In h) (ar : ∀ a ∈ A, ArgOb h A a) {a : Addr} {vs : List Value} (ha : a ∈ A) (e : h.get? a = some { cls := .type "tuple", data := .seq vs.toArray }) : (∀ u ∈ vs, OkU A u) ∧ SqT K (argH K h A) a (vs.map toV) := by
  obtain ⟨us, h1, h2, h3⟩ := ar a ha
  have hu : us = vs := by
    rcases h3 with q | q
    · rw [e] at q
      exact absurd (Value.type.inj (seq_inj q).1) (by decide)
    · rw [e] at q
      exact (seq_inj q).2.symm
  subst hu
  refine ⟨h2, ?_⟩
  cases hk : K.lookup a with
  | none => exact .inl (.inr ⟨_, by rw [argH_at ha hk e, hoOf_tup]⟩)
  | some o =>
    have e2 := KX a o hk
    rw [e] at e2
    obtain rfl := Option.some.inj e2
    exact .inr ⟨_, us.toArray, _, hk, rfl, rfl, by rw [List.size_toArray]; exact h1, by simpa using vals_toV h2⟩
mutual
theorem dw_one {Pm : Params} (KX : K.In h) (ar : ∀ a ∈ A, ArgOb h A a) : ∀ (d : WData) (v : Value), Well Pm h v d → plW d = true → OkU A v → Dw K (argH K h A) (toV v) d
  | .none, _, x, _, _ => by
    cases x
    exact .non
  | .bool b, _, x, _, _ => by
    cases x
    exact .bl b
  | .int i, _, x, _, _ => by
    cases x
    exact .int i
  | .str s, _, x, _, _ => by
    cases x
    exact .str s
  | .bytes b, _, x, _, _ => by
    cases x
    have z := Dw.byt (K := K) (H := argH K h A) b.toArray
    exact z
  | .list ds, _, x, p, hu => by
    obtain ⟨a, vs, rfl, ho, hall⟩ := well_list x
    obtain ⟨h2, hs⟩ := argL KX ar hu ho
    exact .lst hs (dw_all KX ar ds _ hall p h2)
  | .tuple ds, _, x, p, hu => by
    obtain ⟨a, vs, rfl, ho, hall⟩ := well_tuple x
    obtain ⟨h2, hs⟩ := argT KX ar hu ho
    exact .tup hs (dw_all KX ar ds _ hall p h2)
  | .float _, _, _, p, _ => Bool.noConfusion (show false = true from p)
  | .dict _, _, _, p, _ => Bool.noConfusion (show false = true from p)
  | .bytearray _, _, _, p, _ => Bool.noConfusion (show false = true from p)
  | .set _, _, _, p, _ => Bool.noConfusion (show false = true from p)
  | .frozenset _, _, _, p, _ => Bool.noConfusion (show false = true from p)
  | .obj _ _, _, _, p, _ => Bool.noConfusion (show false = true from p)
theorem dw_all {Pm : Params} (KX : K.In h) (ar : ∀ a ∈ A, ArgOb h A a) : ∀ (ds : List WData) (vs : List Value), WellAll Pm h vs ds → plWs ds = true → (∀ u ∈ vs, OkU A u) → DwAll K (argH K h A) (vs.map toV) ds
  | [], _, x, _, _ => by
    cases x
    exact .nil
  | d :: ds, _, x, p, hu => by
    obtain ⟨v, vs, rfl, x1, x2⟩ := well_cons x
    have q : plW d = true ∧ plWs ds = true := Bool.and_eq_true_iff.mp p
    exact .cons (dw_one KX ar d v x1 q.1 (hu _ (List.mem_cons_self ..))) (dw_all KX ar ds vs x2 q.2 fun u m => hu u (List.mem_cons_of_mem _ m))
end
end
theorem layable_weight {ds : List WData} (h : WData.layableAll ds = true) : ∀ d ∈ ds, d.weight ≤ 1048576 := fun d hd =>
  (PySem.W.layableW_iff.mp (List.all_eq_true.mp h d hd)).2.2
theorem encAll_len : ∀ (cs : List Codec) (a : Codec.denoteAll cs), (Codec.encAll cs a).length = cs.length
  | [], _ => rfl
  | c :: cs, a => by
    show (Codec.encAll cs a.2).length + 1 = cs.length + 1
    rw [encAll_len cs a.2]
end L2
namespace L2
open PySem PySem.Spec PyProof.Rows
section
variable (P : Program) (w : World) (K : PySem.W.Frag) (mg : Str → Option Value) (base : Heap)
structure Fn (x : Str) (k : Nat) (ps : List Str) (sp : Sp) (f : Addr) (fd : FuncData) : Prop where
  ok : FnOk P w K mg base CX0 k f fd ps sp
  bd : Binds K fd ps []
  mg : mg x = some (.ref f)
  kp : PySem.W.keepIn K (.ref f) = true
structure Mt (C : Addr) (m : Str) (k : Nat) (ps : List Str) (sp : Sp) (f : Addr) (fd : FuncData) : Prop where
  ok : FnOk P w K mg base CX0 k f fd ps sp
  bd : Binds K fd ps []
  me : Meth K C m f
structure Nw (x : Str) (C : Addr) (k : Nat) (ps : List Str) (sp : Sp) (f : Addr) (fd : FuncData) : Prop where
  ok : FnOk P w K mg base CX0 k f fd ps sp
  bd : Binds K fd ps []
  made : Mk K C f
  mg : mg x = some (.ref C)
end
section
variable {X : Cx} {k : Nat} {f C : Addr} {fd : FuncData} {ps : List Str} {sp : Sp} {x m : Str} {p pos apos : Pos} {e o : Expr} {es : List Expr} {ta : TE} {t : TA}
theorem pe_fn (F : Fn X.prog X.w X.K X.mg X.base x k ps sp f fd) (hr : Room k X.A) (ha : PA X (e :: es) t) (hg : Gl X x := by rfl) (hdb : (x == ("__debug__" : Str)) = false := by decide) (he : starEach (e :: es) X.env = (false, eval e X.env) :: starEach es X.env := by rfl)
    (hpl : (backTo pos (starEach es X.env)).any (·.1) = false := by rfl) : PE X (.Call (.Name x p) (e :: es) [] pos) (tCall sp [] E0 t) := pe_call F.ok hr hg F.mg F.kp F.bd .nil pass0 ha hdb he hpl
theorem pe_new (F : Nw X.prog X.w X.K X.mg X.base x C k ps sp f fd) (hr : Room (k + 1) X.A) (ha : PA X (e :: es) t) (hg : Gl X x := by rfl) (hdb : (x == ("__debug__" : Str)) = false := by decide) (he : starEach (e :: es) X.env = (false, eval e X.env) :: starEach es X.env := by rfl)
    (hpl : (backTo pos (starEach es X.env)).any (·.1) = false := by rfl) : PE X (.Call (.Name x p) (e :: es) [] pos) (tMake C sp [] E0 t) := pe_make F.made F.ok hr hg F.mg F.bd .nil pass0 ha hdb he hpl
theorem pe_new0 (F : Nw X.prog X.w X.K X.mg X.base x C k ps sp f fd) (hr : Room (k + 1) X.A) (hg : Gl X x := by rfl) (hdb : (x == ("__debug__" : Str)) = false := by decide) : PE X (.Call (.Name x p) [] [] pos) (tMake C sp [] E0 tNil) := pe_make0 F.made F.ok hr hg F.mg F.bd .nil pass0 hdb
theorem pe_mt {pl : Sem Bool} (F : Mt X.prog X.w X.K X.mg X.base C m k ps sp f fd) (c : Cls X.K C) (hr : Room k X.A) (he : PE X o ta) (ha : PA X (e :: es) t)
    (hst : starEach (e :: es) X.env = (false, eval e X.env) :: starEach es X.env := by rfl) (hpl : (backTo pos (starEach es X.env)).any (·.1) = false := by rfl)
    (ht : eval (.Call (.Attribute o m apos) (e :: es) [] pos) X.env = (do
      let ov ← eval o X.env
      standAt apos.atName
      let (f, first) ← holding [ov] (getMethod ov m pl)
      callWith pos f first (backTo pos (starEach (e :: es) X.env)) (backToKw pos (keywordEach [] X.env))) := by rfl) :
    PE X (.Call (.Attribute o m apos) (e :: es) [] pos) (tMeth C m sp [] E0 ta t) := pe_meth (pl := pl) he c F.me F.ok hr F.bd .nil pass0 ha hst hpl ht
theorem pe_mt0 {pl : Sem Bool} (F : Mt X.prog X.w X.K X.mg X.base C m k ps sp f fd) (c : Cls X.K C) (hr : Room k X.A) (he : PE X o ta)
    (ht : eval (.Call (.Attribute o m apos) [] [] pos) X.env = (do
      let ov ← eval o X.env
      standAt apos.atName
      let (f, first) ← holding [ov] (getMethod ov m pl)
      callWith pos f first (backTo pos (starEach [] X.env)) (backToKw pos (keywordEach [] X.env))) := by rfl) :
    PE X (.Call (.Attribute o m apos) [] [] pos) (tMeth C m sp [] E0 ta tNil) := pe_meth0 (pl := pl) he c F.me F.ok hr F.bd .nil pass0 ht
def Num (mg : Str → Option Value) (x : Str) (n : Int) : Prop := ∃ t, mg x = some (.int n t)
theorem pe_num {n : Int} (h : Num X.mg x n) (hg : Gl X x := by rfl) (hd : (x == ("__debug__" : Str)) = false := by decide) : PE X (.Name x p) (tC (.int n)) := by
  obtain ⟨t, h⟩ := h
  exact pe_glob hg h ⟨t, rfl⟩ hd
end
theorem rd_tVar {i : Nat} {σ : St} {H : Hp} {Q : VK} : tVar i σ H Q = (∃ v, σ[i]? = some (some v) ∧ Q v H) := rfl
theorem rd_tC {v : V} {u0 : St} {H : Hp} {Q : VK} : tC v u0 H Q = (Q v H) := rfl
theorem rd_tIsN {ta : TE} {σ : St} {H : Hp} {Q : VK} : tIsN ta σ H Q = (ta σ H fun x H1 => Q (.bl (decide (x = .non))) H1) := rfl
theorem rd_tNotN {ta : TE} {σ : St} {H : Hp} {Q : VK} : tNotN ta σ H Q = (ta σ H fun x H1 => Q (.bl (!decide (x = .non))) H1) := rfl
theorem rd_tB {t : TE} {σ : St} {H : Hp} {Q : Bool → Hp → Prop} : tB t σ H Q = (t σ H fun x H1 => ∃ c, x = .bl c ∧ Q c H1) := rfl
theorem rd_tAnd {t u : TT} {σ : St} {H : Hp} {Q : Bool → Hp → Prop} : tAnd t u σ H Q = (t σ H fun c H1 => if c = true then u σ H1 Q else Q false H1) := rfl
theorem rd_tOr {t u : TT} {σ : St} {H : Hp} {Q : Bool → Hp → Prop} : tOr t u σ H Q = (t σ H fun c H1 => if c = true then Q true H1 else u σ H1 Q) := rfl
theorem rd_tNot {t : TT} {σ : St} {H : Hp} {Q : Bool → Hp → Prop} : tNot t σ H Q = (t σ H fun c H1 => Q (!c) H1) := rfl
theorem rd_tAndV {ta tb : TE} {σ : St} {H : Hp} {Q : VK} : tAndV ta tb σ H Q = (ta σ H fun x H1 => ∃ c, x = .bl c ∧ if c = true then tb σ H1 Q else Q (.bl false) H1) := rfl
theorem rd_tOrV {ta tb : TE} {σ : St} {H : Hp} {Q : VK} : tOrV ta tb σ H Q = (ta σ H fun x H1 => ∃ c, x = .bl c ∧ if c = true then Q (.bl true) H1 else tb σ H1 Q) := rfl
theorem rd_tNotV {ta : TE} {σ : St} {H : Hp} {Q : VK} : tNotV ta σ H Q = (ta σ H fun x H1 => ∃ c, x = .bl c ∧ Q (.bl (!c)) H1) := rfl
theorem rd_tIf {t : TT} {ta tb : TE} {σ : St} {H : Hp} {Q : VK} : tIf t ta tb σ H Q = (t σ H fun c H1 => if c = true then ta σ H1 Q else tb σ H1 Q) := rfl
theorem rd_tNext  {D : Ends} {σ : St} {H : Hp} : tNext  D σ H = (D.nx σ H) := rfl
theorem rd_tSeq {t u : TS} {D : Ends} {σ : St} {H : Hp} : tSeq t u D σ H = (t { D with nx := u D } σ H) := rfl
theorem rd_tBreak  {D : Ends} {σ : St} {H : Hp} : tBreak  D σ H = (D.bk σ H) := rfl
theorem rd_tCont  {D : Ends} {σ : St} {H : Hp} : tCont  D σ H = (D.ct σ H) := rfl
theorem rd_tDrop {te : TE} {D : Ends} {σ : St} {H : Hp} : tDrop te D σ H = (te σ H fun _ H1 => D.nx σ H1) := rfl
theorem rd_tRet {te : TE} {D : Ends} {σ : St} {H : Hp} : tRet te D σ H = (te σ H D.rt) := rfl
theorem rd_tRetN  {D : Ends} {u1 : St} {H : Hp} : tRetN  D u1 H = (D.rt .non H) := rfl
theorem rd_tIfS {c : TT} {t u : TS} {D : Ends} {σ : St} {H : Hp} : tIfS c t u D σ H = (c σ H fun b H1 => if b = true then t D σ H1 else u D σ H1) := rfl
theorem rd_tNever  {u0 : Ends} {u1 : St} {u2 : Hp} : tNever  u0 u1 u2 = (False) := rfl
theorem rd_gName {i : Nat} {v : V} {σ : St} {H : Hp} {Q : St → Hp → Prop} : gName i v σ H Q = (Q (σ.set i (some v)) H) := rfl
theorem rd_gNil  {vs : List V} {σ : St} {H : Hp} {Q : St → Hp → Prop} : gNil  vs σ H Q = (vs = [] ∧ Q σ H) := rfl
theorem rd_gCons {t : TG} {u : TGs} {vs : List V} {σ : St} {H : Hp} {Q : St → Hp → Prop} : gCons t u vs σ H Q = (∃ v r, vs = v :: r ∧ t v σ H fun σ' H' => u r σ' H' Q) := rfl
theorem rd_gTup {K : PySem.W.Frag} {n : Nat} {t : TGs} {v : V} {σ : St} {H : Hp} {Q : St → Hp → Prop} : gTup K n t v σ H Q = (∃ a xs, v = .ref a ∧ SqT K H a xs ∧ xs.length = n ∧ t xs σ H Q) := rfl
theorem rd_tAsg {te : TE} {g : TG} {D : Ends} {σ : St} {H : Hp} : tAsg te g D σ H = (te σ H fun x H1 => g x σ H1 D.nx) := rfl
theorem rd_tAug {i : Nat} {te : TE} {ti : TIp} {D : Ends} {σ : St} {H : Hp} : tAug i te ti D σ H = (∃ x, σ[i]? = some (some x) ∧ te σ H fun y H1 => ti x y H1 fun z H2 => D.nx (σ.set i (some z)) H2) := rfl
theorem rd_iRng1 {ta : TA} {σ : St} {H : Hp} {R : It → Hp → Prop} : iRng1 ta σ H R = (ta σ H fun vs H1 => ∃ j : Int, vs = [.int j] ∧ -(2 ^ 62) ≤ j ∧ j < 2 ^ 62 ∧ R (Itr 0 j.toNat) H1) := rfl
theorem rd_iRng2 {ta : TA} {σ : St} {H : Hp} {R : It → Hp → Prop} : iRng2 ta σ H R = (ta σ H fun vs H1 => ∃ i j : Int, vs = [.int i, .int j] ∧ (-(2 ^ 62) ≤ i ∧ i < 2 ^ 62 ∧ -(2 ^ 62) ≤ j ∧ j < 2 ^ 62) ∧ R (Itr i (j - i).toNat) H1) := rfl
theorem rd_tOp {r : R2} {ta tb : TE} {σ : St} {H : Hp} {Q : VK} : tOp r ta tb σ H Q = (ta σ H fun x H1 => tb σ H1 fun y H2 => r x y H2 Q) := rfl
theorem rd_tUn {r : V → Hp → VK → Prop} {ta : TE} {σ : St} {H : Hp} {Q : VK} : tUn r ta σ H Q = (ta σ H fun x H1 => r x H1 Q) := rfl
theorem rd_rI {C : Int → Int → Prop} {g : Int → Int → V} {x : V} {y : V} {H : Hp} {Q : VK} : rI C g x y H Q = (∃ i j, x = .int i ∧ y = .int j ∧ C i j ∧ Q (g i j) H) := rfl
theorem rd_rI0 {g : Int → Int → V} {x : V} {y : V} {H : Hp} {Q : VK} : rI0 g x y H Q = (∃ i j, x = .int i ∧ y = .int j ∧ Q (g i j) H) := rfl
theorem rd_rU {g : Int → V} {x : V} {H : Hp} {Q : VK} : rU g x H Q = (∃ i, x = .int i ∧ Q (g i) H) := rfl
theorem rd_rEq  {x : V} {y : V} {H : Hp} {Q : VK} : rEq  x y H Q = (scal x y = true ∧ Q (.bl (decide (x = y))) H) := rfl
theorem rd_rNe  {x : V} {y : V} {H : Hp} {Q : VK} : rNe  x y H Q = (scal x y = true ∧ Q (.bl (!decide (x = y))) H) := rfl
theorem rd_tTest {t : TE} {σ : St} {H : Hp} {Q : Bool → Hp → Prop} : tTest t σ H Q = (t σ H fun x H' => ∃ k, x = .bl k ∧ Q k H') := rfl
theorem rd_tChain {r r' : R2} {ta tb tc : TE} {σ : St} {H : Hp} {Q : VK} : tChain r r' ta tb tc σ H Q = (ta σ H fun x H1 => tb σ H1 fun y H2 => r x y H2 fun z H3 => ∃ k, z = .bl k ∧ (if k = true then tc σ H3 fun w' H4 => r' y w' H4 Q else Q (.bl false) H3)) := rfl
theorem rd_tFld {K : PySem.W.Frag} {ta : TE} {f : Str} {σ : St} {H : Hp} {Q : VK} : tFld K ta f σ H Q = (ta σ H fun x H1 => ∃ a C dx fs v, x = .ref a ∧ H1 a = some (.ins C dx fs) ∧ Cls K C ∧ NoAttr K C f ∧ fs.lookup f = some v ∧ Q v H1) := rfl
theorem rd_sFld {K : PySem.W.Frag} {ta tv : TE} {f : Str} {D : Ends} {σ : St} {H : Hp} : sFld K ta tv f D σ H = (tv σ H fun y H1 => ta σ H1 fun x H2 => ∃ a C dx fs, x = .ref a ∧ H2 a = some (.ins C dx fs) ∧ Cls K C ∧ NoAttr K C f ∧ fs.length < 1000 ∧ D.nx σ (upd H2 a (.ins C dx (putF f y fs)))) := rfl
theorem rd_sFldAug {K : PySem.W.Frag} {ta tv : TE} {rd : V → V → Hp → VK → Prop} {f : Str} {D : Ends} {σ : St} {H : Hp} : sFldAug K ta tv rd f D σ H = (ta σ H fun x H1 => ∃ a C dx fs v, x = .ref a ∧ H1 a = some (.ins C dx fs) ∧ Cls K C ∧ NoAttr K C f ∧ fs.lookup f = some v ∧ tv σ H1 fun y H2 => rd v y H2 fun z H3 => ∃ dx' fs', H3 a = some (.ins C dx' fs') ∧ fs'.length < 1000 ∧ D.nx σ (upd H3 a (.ins C dx' (putF f z fs')))) := rfl
theorem rd_rAdd  {x : V} {y : V} {H : Hp} {Q : VK} : rAdd  x y H Q = (∃ i j, x = .int i ∧ y = .int j ∧ Q (.int (i + j)) H) := rfl
theorem rd_rSub  {x : V} {y : V} {H : Hp} {Q : VK} : rSub  x y H Q = (∃ i j, x = .int i ∧ y = .int j ∧ Q (.int (i - j)) H) := rfl
theorem rd_tNil  {u0 : St} {H : Hp} {Q : List V → Hp → Prop} : tNil  u0 H Q = (Q [] H) := rfl
theorem rd_tCons {ta : TE} {tr : TA} {σ : St} {H : Hp} {Q : List V → Hp → Prop} : tCons ta tr σ H Q = (ta σ H fun x H1 => tr σ H1 fun xs H2 => Q (x :: xs) H2) := rfl
theorem rd_tTup {t : TA} {σ : St} {H : Hp} {Q : VK} : tTup t σ H Q = (t σ H fun xs H1 => xs.length ≤ sizeLine ∧ ∀ p, H1 p = none → Q (.ref p) (upd H1 p (.tup xs))) := rfl
theorem rd_tLst {t : TA} {σ : St} {H : Hp} {Q : VK} : tLst t σ H Q = (t σ H fun xs H1 => xs.length ≤ sizeLine ∧ ∀ p, H1 p = none → Q (.ref p) (upd H1 p (.lst xs))) := rfl
theorem rd_tCall {sp : Sp} {dvs : List V} {E : XK} {t : TA} {σ : St} {H : Hp} {Q : VK} : tCall sp dvs E t σ H Q = (t σ H fun vs H1 => sp (vs ++ dvs) H1 Q E) := rfl
theorem rd_tMeth {C : Addr} {m : Str} {sp : Sp} {dvs : List V} {E : XK} {ta : TE} {t : TA} {σ : St} {H : Hp} {Q : VK} : tMeth C m sp dvs E ta t σ H Q = (ta σ H fun x H1 => ∃ a dx fs, x = .ref a ∧ H1 a = some (.ins C dx fs) ∧ fs.lookup m = none ∧ t σ H1 fun vs H2 => sp (x :: (vs ++ dvs)) H2 Q E) := rfl
theorem rd_tMake {C : Addr} {sp : Sp} {dvs : List V} {E : XK} {t : TA} {σ : St} {H : Hp} {Q : VK} : tMake C sp dvs E t σ H Q = (t σ H fun vs H1 => ∀ x dx, H1 x = none → H1 dx = none → dx ≠ x → sp (.ref x :: (vs ++ dvs)) (upd (upd H1 dx (.own x)) x (.ins C dx [])) (fun v H2 => v = .non ∧ Q (.ref x) H2) E) := rfl
theorem rd_tCB {r : List V → Hp → VK → Prop} {t : TA} {σ : St} {H : Hp} {Q : VK} : tCB r t σ H Q = (t σ H fun vs H1 => r vs H1 Q) := rfl
theorem rd_tNoPart  {u0 : St} {H : Hp} {Q : Option Int → Hp → Prop} : tNoPart  u0 H Q = (Q none H) := rfl
theorem rd_tPart {t : TE} {σ : St} {H : Hp} {Q : Option Int → Hp → Prop} : tPart t σ H Q = (t σ H fun x H1 => ∃ i, x = .int i ∧ Q (some i) H1) := rfl
theorem rd_tSl {r : V → Option Int → Option Int → Hp → VK → Prop} {te : TE} {tl th : TO} {σ : St} {H : Hp} {Q : VK} : tSl r te tl th σ H Q = (te σ H fun x H1 => tl σ H1 fun l H2 => th σ H2 fun u H3 => r x l u H3 Q) := rfl
theorem rd_rAppend  {x : V} {vs : List V} {H : Hp} {Q : VK} : rAppend  x vs H Q = (∃ l xs y, x = .ref l ∧ vs = [y] ∧ H l = some (.lst xs) ∧ xs.length < sizeLine ∧ Q .non (upd H l (.lst (xs ++ [y])))) := rfl
theorem rd_rExtend  {x : V} {vs : List V} {H : Hp} {Q : VK} : rExtend  x vs H Q = (∃ l b xs zs, x = .ref l ∧ vs = [.ref b] ∧ H l = some (.lst xs) ∧ H b = some (.lst zs) ∧ xs.length + zs.length ≤ sizeLine ∧ Q .non (upd H l (.lst (xs ++ zs)))) := rfl
theorem rd_rCat  {x : V} {y : V} {H : Hp} {Q : VK} : rCat  x y H Q = (∃ l b xs zs, x = .ref l ∧ y = .ref b ∧ H l = some (.lst xs) ∧ H b = some (.lst zs) ∧ xs.length + zs.length ≤ sizeLine ∧ ∀ p, H p = none → Q (.ref p) (upd H p (.lst (xs ++ zs)))) := rfl
theorem rd_rAll {K : PySem.W.Frag} {vs : List V} {H : Hp} {Q : VK} : rAll K vs H Q = (∃ (a : Addr) (bs : List Bool), vs = [V.ref a] ∧ SqL K H a (bs.map V.bl) ∧ Q (.bl (bs.all id)) H) := rfl
theorem rd_tYes  {u0 : St} {H : Hp} {Q : Bool → Hp → Prop} : tYes  u0 H Q = (Q true H) := rfl
theorem rd_ipI {f : Int → Int → Int} {x : V} {y : V} {H : Hp} {Q : VK} : ipI f x y H Q = (∃ i j, x = .int i ∧ y = .int j ∧ Q (.int (f i j)) H) := rfl
def LoopF (J : It) (g : TG) (tb : TS) (D : Ends) (σ : St) (H : Hp) : Prop := ∃ W : Nat → Nat → St → Hp → Prop, (∃ m, W 0 m σ H) ∧ ∀ i m σ H, W i m σ H →
  (J.stop i H ∧ D.nx σ H) ∨ (J.go i H ∧ ∃ N : St → Hp → Prop, (∀ σ' H', N σ' H' → ∃ m', m' < m ∧ W (i + 1) m' σ' H') ∧ ∀ x H', J.yld i H x H' → g x σ H' fun σ2 H2 => tb { D with nx := N, ct := N, bk := D.nx } σ2 H2)
theorem rd_tFor {wi : TI} {g : TG} {tb : TS} {D : Ends} {σ : St} {H : Hp} : tFor wi g tb D σ H = (wi σ H fun J H1 => LoopF J g tb D σ H1) := rfl
def LoopW (c : TT) (tb : TS) (D : Ends) (σ : St) (H : Hp) : Prop := tWhile c tb D σ H
theorem rd_tWhile {c : TT} {tb : TS} {D : Ends} {σ : St} {H : Hp} : tWhile c tb D σ H = LoopW c tb D σ H := rfl
def LoopC (J : It) (g : TG) (tt : TT) (te : TE) (vs : List Nat) (σ : St) (H1 : Hp) (D : Addr) (Qd : Hp → Prop) : Prop := ∃ W : Nat → Nat → Hp → Prop, (∃ m, W 0 m (upd H1 D (.lst []))) ∧ ∀ i m H, W i m H →
  (J.stop i H ∧ Qd H) ∨ (J.go i H ∧ ∃ Nx : Hp → Prop, (∀ H', Nx H' → ∃ m', m' < m ∧ W (i + 1) m' H') ∧ ∀ x H', J.yld i H x H' → g x (wipe σ vs) H' fun σ2 H2 => wipe σ2 vs = wipe σ vs ∧ tt σ2 H2 fun b H3 =>
    if b = true then te σ2 H3 fun y H4 => ∃ acc, H4 D = some (.lst acc) ∧ acc.length < sizeLine ∧ Nx (upd H4 D (.lst (acc ++ [y]))) else Nx H3)
theorem rd_tLc {wi : TI} {g : TG} {tt : TT} {te : TE} {vs : List Nat} {σ : St} {H : Hp} {Q : VK} : tLc wi g tt te vs σ H Q = (wi σ H fun J H1 => ∀ D, H1 D = none → LoopC J g tt te vs σ H1 D fun H => Q (.ref D) H) := rfl
def lstOf : Option HO → Option (List V)
  | some (.lst xs) => some xs
  | some (.frz _ (.lst xs)) => some xs
  | _ => none
def tupOf : Option HO → Option (List V)
  | some (.tup xs) => some xs
  | some (.frz _ (.tup xs)) => some xs
  | _ => none
theorem lstOf_lst {xs : List V} : lstOf (some (.lst xs)) = some xs := rfl
theorem lstOf_frz {o : Obj} {xs : List V} : lstOf (some (.frz o (.lst xs))) = some xs := rfl
theorem tupOf_tup {xs : List V} : tupOf (some (.tup xs)) = some xs := rfl
theorem sq_lst {K : PySem.W.Frag} {H : Hp} {a : Addr} {xs : List V} (h : lstOf (H a) = some xs) : SqL K H a xs := by
  cases e : H a with
  | none =>
    rw [e] at h
    cases h
  | some o =>
    rw [e] at h
    cases o with
    | lst ys =>
      cases h
      exact .inl (.inl e)
    | frz ob u =>
      cases u with
      | lst ys =>
        cases h
        exact .inl (.inr ⟨ob, e⟩)
      | _ => cases h
    | _ => cases h
theorem sq_tup {K : PySem.W.Frag} {H : Hp} {a : Addr} {xs : List V} (h : tupOf (H a) = some xs) : SqT K H a xs := by
  cases e : H a with
  | none =>
    rw [e] at h
    cases h
  | some o =>
    rw [e] at h
    cases o with
    | tup ys =>
      cases h
      exact .inl (.inl e)
    | frz ob u =>
      cases u with
      | tup ys =>
        cases h
        exact .inl (.inr ⟨ob, e⟩)
      | _ => cases h
    | _ => cases h
section
variable {X : Cx} {tg : Expr} {o e : Expr} {es : List Expr} {to : TE} {t : TA} {name : Str} {apos cpos : Pos} {id : String} {r : V → List V → Hp → VK → Prop}
def iLst (K : PySem.W.Frag) (tl : TE) : TI := fun σ H R => tl σ H fun x H1 => ∃ a xs, x = .ref a ∧ lstOf (H1 a) = some xs ∧ R (Itl K a) H1
theorem rd_iLst {K : PySem.W.Frag} {tl : TE} {σ : St} {H : Hp} {R : It → Hp → Prop} : iLst K tl σ H R = (tl σ H fun x H1 => ∃ a xs, x = .ref a ∧ lstOf (H1 a) = some xs ∧ R (Itl K a) H1) := rfl
theorem pi_lst {l : Expr} {tl : TE} (hl : PE X l tl) : PI X tg l (iLst X.K tl) := by
  intro pins s σ H R I h
  refine thn (hl pins s σ H _ I h) fun v s1 ⟨x, H1, I1, r1, q1⟩ => ?_
  obtain ⟨a, xs, e, hq, q⟩ := q1
  subst e
  cases r1
  obtain ⟨its, rv, p, hz⟩ := I1.list (sq_lst (K := X.K) hq)
  refine wpAny_pyIter_list p.isList ?_
  refine ⟨s1.heap.objs.size, [s1.heap.objs.size], _, _, H1, rfl, I1.kept (t' := s1.toks) fun b o e => Heap.get?_push_of_some _ e, turn_list a _, ⟨_, Heap.get?_push_size _ rfl, rfl, rfl⟩, fun b hb => ?_, q⟩
  have e : b = s1.heap.objs.size := by simpa using hb
  subst e
  exact I1.fpOk (Nat.le_refl _) (I1.hok.fresh (Nat.le_refl _))
def rIxl : R2 := fun x y H Q => ∃ p xs i v, x = .ref p ∧ y = .int i ∧ lstOf (H p) = some xs ∧ atI xs i = some v ∧ Q v H
theorem rd_rIxl {x y : V} {H : Hp} {Q : VK} : rIxl x y H Q = (∃ p xs i v, x = .ref p ∧ y = .int i ∧ lstOf (H p) = some xs ∧ atI xs i = some v ∧ Q v H) := rfl
theorem ix_lst : IxR X rIxl := fun value slice pins s σ H x y v u Q I rx ry ⟨p, xs, i, z, h1, h2, h3, h4, q⟩ hs => ix_list value slice pins s σ H x y v u Q I rx ry ⟨p, xs, i, z, h1, h2, sq_lst h3, h4, q⟩ hs
def rIxt : R2 := fun x y H Q => ∃ p xs i v, x = .ref p ∧ y = .int i ∧ tupOf (H p) = some xs ∧ atI xs i = some v ∧ Q v H
theorem rd_rIxt {x y : V} {H : Hp} {Q : VK} : rIxt x y H Q = (∃ p xs i v, x = .ref p ∧ y = .int i ∧ tupOf (H p) = some xs ∧ atI xs i = some v ∧ Q v H) := rfl
theorem ix_tpl : IxR X rIxt := fun value slice pins s σ H x y v u Q I rx ry ⟨p, xs, i, z, h1, h2, h3, h4, q⟩ hs => ix_tup value slice pins s σ H x y v u Q I rx ry ⟨p, xs, i, z, h1, h2, sq_tup h3, h4, q⟩ hs
def rLen : List V → Hp → VK → Prop := fun vs H Q => ∃ p xs, vs = [.ref p] ∧ lstOf (H p) = some xs ∧ Q (.int xs.length) H
theorem rd_rLen {vs : List V} {H : Hp} {Q : VK} : rLen vs H Q = (∃ p xs, vs = [.ref p] ∧ lstOf (H p) = some xs ∧ Q (.int xs.length) H) := rfl
theorem call_len_l : CallR X (.builtin "len") rLen := fun pins s σ H xs us Q I r ⟨p, ys, h1, h2, q⟩ => call_len_seq pins s σ H xs us Q I r ⟨p, ys, h1, .inl (sq_lst h2), q⟩
def rSm : List V → Hp → VK → Prop := fun vs H Q => ∃ p xs ns, vs = [.ref p] ∧ lstOf (H p) = some xs ∧ xs = List.map V.int ns ∧ Q (.int ns.sum) H
theorem rd_rSm {vs : List V} {H : Hp} {Q : VK} : rSm vs H Q = (∃ p xs ns, vs = [.ref p] ∧ lstOf (H p) = some xs ∧ xs = List.map V.int ns ∧ Q (.int ns.sum) H) := rfl
theorem call_sum_l (hc : X.calm = true) : CallR X (.builtin "sum") rSm := fun pins s σ H xs us Q I r ⟨p, ys, ns, h1, h2, h3, q⟩ => cr_sum hc pins s σ H xs us Q I r ⟨p, ns, h1, h3 ▸ sq_lst h2, q⟩
def rAbs : List V → Hp → VK → Prop := fun vs H Q => ∃ i, vs = [.int i] ∧ Q (.int (if i < 0 then -i else i)) H
theorem rd_rAbs {vs : List V} {H : Hp} {Q : VK} : rAbs vs H Q = (∃ i, vs = [.int i] ∧ Q (.int (if i < 0 then -i else i)) H) := rfl
theorem call_abs_l : CallR X (.builtin "abs") rAbs := call_abs
def rMin2 : List V → Hp → VK → Prop := fun vs H Q => ∃ i j, vs = [.int i, .int j] ∧ Q (.int (min i j)) H
theorem rd_rMin2 {vs : List V} {H : Hp} {Q : VK} : rMin2 vs H Q = (∃ i j, vs = [.int i, .int j] ∧ Q (.int (min i j)) H) := rfl
theorem call_min_l (hc : X.calm = true) : CallR X (.builtin "min") rMin2 := fun pins s σ H xs us Q I r ⟨i, j, h1, q⟩ => call_min2 hc pins s σ H xs us Q I r ⟨i, j, h1, by
  have e : (if j < i then j else i) = min i j := by
    rw [Int.min_def]
    split <;> split <;> omega
  rw [e]
  exact q⟩
def rMax2 : List V → Hp → VK → Prop := fun vs H Q => ∃ i j, vs = [.int i, .int j] ∧ Q (.int (max i j)) H
theorem rd_rMax2 {vs : List V} {H : Hp} {Q : VK} : rMax2 vs H Q = (∃ i j, vs = [.int i, .int j] ∧ Q (.int (max i j)) H) := rfl
theorem call_max_l (hc : X.calm = true) : CallR X (.builtin "max") rMax2 := fun pins s σ H xs us Q I r ⟨i, j, h1, q⟩ => call_max2 hc pins s σ H xs us Q I r ⟨i, j, h1, by
  have e : (if j > i then j else i) = max i j := by
    rw [Int.max_def]
    split <;> split <;> omega
  rw [e]
  exact q⟩
def rSll : V → Option Int → Option Int → Hp → VK → Prop := fun x lo hi H Q => ∃ a xs, x = .ref a ∧ lstOf (H a) = some xs ∧ ∀ p, H p = none → Q (.ref p) (upd H p (.lst (cutV xs lo hi)))
theorem rd_rSll {x : V} {lo hi : Option Int} {H : Hp} {Q : VK} : rSll x lo hi H Q = (∃ a xs, x = .ref a ∧ lstOf (H a) = some xs ∧ ∀ p, H p = none → Q (.ref p) (upd H p (.lst (cutV xs lo hi)))) := rfl
theorem sl_lst : SlR X rSll := fun pins s σ H x v vl vu lo hi sl Q I rx hs pl pu ⟨a, xs, h1, h2, q⟩ => sl_list pins s σ H x v vl vu lo hi sl Q I rx hs pl pu ⟨a, xs, h1, sq_lst h2, q⟩
def tLM (r : V → List V → Hp → VK → Prop) (to : TE) (t : TA) : TE := fun σ H Q => to σ H fun x H1 => ∃ l ys, x = .ref l ∧ lstOf (H1 l) = some ys ∧ t σ H1 fun xs H2 => r (.ref l) xs H2 Q
theorem rd_tLM {r : V → List V → Hp → VK → Prop} {to : TE} {t : TA} {σ : St} {H : Hp} {Q : VK} : tLM r to t σ H Q = (to σ H fun x H1 => ∃ l ys, x = .ref l ∧ lstOf (H1 l) = some ys ∧ t σ H1 fun xs H2 => r (.ref l) xs H2 Q) := rfl
theorem pe_lm (slot : Slot "list" name id) (hty : typeOf (.builtin id) = pure (.type "method_descriptor")) (hm : MtR X id r) (ho : PE X o to) (ha : PA X (e :: es) t)
    (hbase : attributeBase o name X.env (eval o X.env) = eval o X.env := by rfl)
    (hfew : ((backTo cpos (starEach (e :: es) X.env)).all (fun x => !x.1) && (backToKw cpos (keywordEach [] X.env)).all (fun x => x.1.isSome)
      && decide ((e :: es).length + ([] : List Keyword).length + (if ([] : List Keyword).isEmpty then 0 else 1) < 30)) = true := by rfl)
    (hline : (apos.endLine == cpos.line) = true := by rfl) (hs : starEach (e :: es) X.env = (false, eval e X.env) :: starEach es X.env := by rfl) (hplain : (backTo cpos (starEach es X.env)).any (·.1) = false := by rfl) :
    PE X (.Call (.Attribute o name apos) (e :: es) [] cpos) (tLM r to t) := by
  intro pins s σ H Q I h
  refine wpAny_Call_method_late hbase hfew hline rfl (thn (ho pins s σ H _ I h) fun v s1 ⟨x, H1, I1, r1, l, ys, ex, hl, q1⟩ => ?_)
  subst ex
  obtain ⟨h1, h2⟩ := tyV_is I1 r1 (T := "list") (.inl ⟨rfl, ys, sq_lst (K := X.K) hl⟩)
  refine ⟨"list", id, PySem.F.plainAttrs_list, slot, hty, h1, h2, ?_⟩
  have hA := ha cpos pins s1 σ H1 _ I1 q1
  rw [hs] at hA ⊢
  refine Calls.callWith_builtin (by show (false || (backTo cpos (starEach es X.env)).any (·.1)) = false; rw [hplain] <;> rfl) (Calls.evalArgs_plain ?_)
  exact thn hA fun us s2 ⟨vs, H2, I2, r2, q2⟩ => hm pins s2 σ H2 (.ref l) vs v us Q I2 r1 r2 q2
end
section
open PySem.SeqAt
open PySem.AutoSeq1 (wpAny_loadPart')
open PySem.MeetsSeq PySem.MeetsSeq2 PySem.MeetsSeq3
theorem list_extend_tuple (l : Addr) (items : Array Value) (n : Nat) (b : Addr) (items2 : Array Value) (n2 : Nat) (dd : Option Addr) (sl : Array (Option Value)) (hs0 : ¬(!items.isEmpty && Builtin.List.listTooLong (items.size + items2.size)) = true) (hs1 : items.size ≤ sizeLine) (hs2 : items.size + items2.size ≤ sizeLine + 1) :
    Meets (Builtin.«list.extend» ⟨[.ref l, .ref b], []⟩) (fun _ R s => s.heap.get? l = some { cls := .type "list", dict := none, data := .seq items n, slots := #[] } ∧ s.heap.get? b = some { cls := .type "tuple", dict := dd, data := .seq items2 n2, slots := sl } ∧ R (.ok (.ret Value.none)) { s with heap := s.heap.update l (Obj.mapSeq fun x => x ++ items2), toks := s.toks }) :=
  .of_wp fun prog w A R s h => by
    obtain ⟨hp, g, d, tk, os⟩ := s; obtain ⟨hl, hb, h⟩ := h; have f1 := AutoSeq1.idx_int; have f2 := AutoSeq1.sub_tuple_tuple; have f3 := AutoSeq1.sub_list_list; have f4 := AutoSeq1.sub_tuple_list; have f5 := AutoSeq1.sub_list_tuple
    have hz' : (items ++ items2).size ≤ sizeLine + 1 := by rw [Array.size_append]; exact hs2
    wp_walk using (wpAny_updateSeq hl rfl (hz := hs1) (_hz' := hz')), wpAny_loadPart' hl, wpAny_loadPart' hb; exact ⟨_, rfl, h⟩
end
def rExtT : V → List V → Hp → VK → Prop := fun x vs H Q => ∃ l b xs zs, x = .ref l ∧ vs = [.ref b] ∧ H l = some (.lst xs) ∧ tupOf (H b) = some zs ∧ xs.length + zs.length ≤ sizeLine ∧ Q .non (upd H l (.lst (xs ++ zs)))
theorem rd_rExtT {x : V} {vs : List V} {H : Hp} {Q : VK} : rExtT x vs H Q = (∃ l b xs zs, x = .ref l ∧ vs = [.ref b] ∧ H l = some (.lst xs) ∧ tupOf (H b) = some zs ∧ xs.length + zs.length ≤ sizeLine ∧ Q .non (upd H l (.lst (xs ++ zs)))) := rfl
theorem mt_extendT {X : Cx} : MtM X "list.extend" rExtT := by
  intro pins s σ H x vs v us Q I rx rv h
  obtain ⟨l, b, xs, zs, rfl, rfl, hH, hB, hz, q⟩ := h
  cases rx
  obtain ⟨u, rfl, ru⟩ := rv.one
  cases ru
  obtain ⟨z, its, n, r, hl, e⟩ := I.lstM hH
  obtain ⟨its2, r2, ⟨o2, e2, c2, n2, d2⟩, hz2⟩ := I.tuple (sq_tup (K := X.K) hB)
  have hl2 := r2.length
  obtain ⟨cls2, dd2, data2, sl2⟩ := o2
  have c2' : cls2 = .type "tuple" := c2
  have d2' : data2 = .seq its2.toArray n2 := d2
  subst c2' d2'
  have hsz : its.toArray.size + its2.toArray.size ≤ sizeLine := by rw [List.size_toArray, List.size_toArray]; omega
  have hlong : ¬ (!its.toArray.isEmpty && Builtin.List.listTooLong (its.toArray.size + its2.toArray.size)) = true := by
    rw [notLongL hsz, Bool.and_false]
    exact Bool.false_ne_true
  refine call_meets F.slot_list_extend ⟨_, e, rfl⟩ F.entry_list_extend (F.args_list_extend_2 _ _)
    (list_extend_tuple l its.toArray n b its2.toArray n2 dd2 sl2 hlong (by rw [List.size_toArray]; omega) (by omega)) ⟨e, e2, ?_⟩
  refine ⟨.non, _, I.lset (its' := its ++ its2) hH e (by simp) (r.append r2) ?_, rfl, q⟩
  rw [List.length_append]
  omega
theorem pe_fldB {X : Cx} {s : Shared} {H : Hp} {scope : Scope} {env : Env} {fp : List Addr} {e : Expr} {f : Str} {pos : Pos} {ta : TE} (he : PE (X.blk s H scope env fp) e ta) (hb : attributeBase e f (X.blk s H scope env fp).env (eval e (X.blk s H scope env fp).env) = eval e (X.blk s H scope env fp).env) :
    PE (X.blk s H scope env fp) (.Attribute e f pos) (tFld X.K ta f) := pe_fld he hb
theorem noxK {X : Cx} : (X.nox).K = X.K := rfl
end L2
set_option Elab.async false
set_option maxRecDepth 100000
set_option linter.all false
set_option maxHeartbeats 2000000
namespace L2
open PySem PySem.Spec PyProof.Rows
def KTup (K : PySem.W.Frag) (mg : Str → Option Value) (x : Str) (xs : List V) : Prop := ∃ a : Addr, mg x = some (.ref a) ∧ ∃ (o : Obj) (its : Array Value) (n : Nat), K.lookup a = some o ∧ o.cls = .type "tuple" ∧ o.data = .seq its n ∧ its.size ≤ sizeLine ∧ Vals xs its.toList
def tKT (K : PySem.W.Frag) (xs : List V) : TE := fun _ H Q => ∀ a, SqT K H a xs → Q (.ref a) H
theorem rd_tKT {K : PySem.W.Frag} {xs : List V} {σ : St} {H : Hp} {Q : VK} : tKT K xs σ H Q = (∀ a, SqT K H a xs → Q (.ref a) H) := rfl
theorem pe_kt {X : Cx} {x : Str} {xs : List V} {p : Pos} (h : KTup X.K X.mg x xs) (hg : Gl X x := by rfl) (hd : (x == ("__debug__" : Str)) = false := by decide) : PE X (.Name x p) (tKT X.K xs) := by
  obtain ⟨a, hm, hk⟩ := h
  intro pins s σ H Q I q
  exact pe_glob (v := .ref a) hg hm rfl hd pins s σ H Q I (q a (.inr hk))
def iItemsL (td : TE) : TI := fun σ H R => td σ H fun x H1 => ∃ d kvs, x = .ref d ∧ H1 d = some (.dK kvs) ∧ ∀ o, R (Iti d o kvs) (upd H1 d (.frz o (.dK kvs)))
theorem rd_iItemsL {td : TE} {σ : St} {H : Hp} {R : It → Hp → Prop} : iItemsL td σ H R = (td σ H fun x H1 => ∃ d kvs, x = .ref d ∧ H1 d = some (.dK kvs) ∧ ∀ o, R (Iti d o kvs) (upd H1 d (.frz o (.dK kvs)))) := rfl
section
variable {X : Cx} {tg e : Expr} {td : TE} {apos cpos : Pos}
theorem pe_itemsLock (he : PE X e td) : PE X e (fun σ H Q => td σ H fun x H1 => ∃ d kvs, x = .ref d ∧ H1 d = some (.dK kvs) ∧ ∀ o, Q x (upd H1 d (.frz o (.dK kvs)))) := by
  intro pins s σ H Q I h
  refine thn (he pins s σ H _ I h) fun u s1 ⟨x, H1, I1, rx, d, kvs, ex, hd, q⟩ => ?_
  obtain ⟨od, I2⟩ := I1.lock hd (by trivial)
  exact ⟨x, _, I2, rx, q od⟩
theorem pi_itemsL {elts : List Expr} {kk : Nat} {tpos : Pos} (he : PE X e td) (hbase : attributeBase e "items" X.env (eval e X.env) = eval e X.env := by rfl) (hline : (apos.endLine == cpos.line) = true := by rfl) :
    PI X (.Tuple elts kk tpos) (.Call (.Attribute e "items" apos) [] [] cpos) (iItemsL td) := by
  intro pins s σ H R I h
  refine pi_items (pe_itemsLock he) hbase hline pins s σ H R I ?_
  have e : (fun (x : V) (H1 : Hp) => ∃ d kvs, x = V.ref d ∧ H1 d = some (HO.dK kvs) ∧ ∀ o, R (Iti d o kvs) (upd H1 d (.frz o (.dK kvs)))) =
      (fun (x : V) (H1 : Hp) => ∃ d kvs, x = V.ref d ∧ H1 d = some (HO.dK kvs) ∧ ∀ o, ∃ d' o' kvs', x = V.ref d' ∧ (upd H1 d (.frz o (.dK kvs))) d' = some (HO.frz o' (.dK kvs')) ∧ R (Iti d' o' kvs') (upd H1 d (.frz o (.dK kvs)))) := by
    funext x H1
    apply propext
    constructor
    · rintro ⟨d, kvs, rfl, hd, q⟩
      exact ⟨d, kvs, rfl, hd, fun o => ⟨d, o, kvs, rfl, upd_same, q o⟩⟩
    · rintro ⟨d, kvs, rfl, hd, q⟩
      refine ⟨d, kvs, rfl, hd, fun o => ?_⟩
      obtain ⟨d', o', kvs', e1, e2, q⟩ := q o
      cases e1
      rw [upd_same] at e2
      cases e2
      exact q
  have h' : td σ H _ := h
  rw [e] at h'
  exact h'
end
end L2
set_option Elab.async false
set_option maxRecDepth 100000
set_option linter.all false
set_option maxHeartbeats 2000000
namespace L2
open PySem PySem.Spec PyProof.Rows
def LamExt (c' : Addr) (q : Str) : HO := .ext fun h => h.CodeRec (.ref c') q
def TabIs (P : Addr) (pos : Pos) (q : Str) (H : Hp) : Prop :=
  H P = some (.tbl #[]) ∨ ∃ c', H P = some (.tbl #[rawInt pos.line, rawInt pos.col, .ref c']) ∧ H c' = some (LamExt c' q)
def BMain (mg : Str → Option Value) (h : Heap) : Prop := ∃ bm ob, mg "__builtins__" = some (.ref bm) ∧ bm ≠ builtinsNs ∧ h.get? bm = some ob ∧ ob.cls = .type "module" ∧ ob.dict = some builtinsNs ∧ ob.data = .plain
structure LamMade (P : Addr) (pos : Pos) (q : Str) (H H' : Hp) : Prop where
  tab : TabIs P pos q H'
  keep : ∀ b o, H b = some o → b ≠ P → H' b = some o
  free : ∀ b, H' b = none → H b = none
theorem codeRec_ext {h1 h2 : Heap} {c' : Addr} {q : Str} (x : h1.CodeRec (.ref c') q) (k : ∀ o, h1.get? c' = some o → h2.get? c' = some o) : h2.CodeRec (.ref c') q := by
  obtain ⟨c, o, vs, t, e, ho, hd, hv⟩ := x
  cases e
  exact ⟨c', o, vs, t, rfl, k o ho, hd, hv⟩
section
variable {X : Cx} {pins : List (Addr × Obj)} {σ : St} {H : Hp} {s : Shared} {A : Around} {E : Value → Shared → Prop} {M : Model}
theorem lam_make {P c : Addr} {params : Arguments} {body : Expr} {scope : Scope} {lpos : Pos} {Q : Value → Shared → Prop} (I : Inv X pins σ H s) (hcode : X.env.code = .ref c) (C : PySem.W.CodeHd X.base c P) (hbm : BMain X.mg X.base)
    (hcl : closureFor scope X.env = pure []) (hdef : defaultsOf params X.env = ([], [])) (t : TabIs P lpos (X.env.qual ++ "<lambda>") H)
    (h : ∀ (f c' : Addr) (ctv : Value) (s' : Shared) (H' : Hp), Inv X pins σ H' s' → LamMade P lpos (X.env.qual ++ "<lambda>") H H' → H' f = none → s'.heap.get? f = some (PySem.W.kla_obj "<lambda>" (X.env.qual ++ "<lambda>") params body scope [] ((X.mg "__name__").getD .none) c' ctv) →
      s'.heap.CodeRec (.ref c') (X.env.qual ++ "<lambda>") → f ≠ X.env.locals → X.base.get? f = none → Q (.ref f) s') :
    wpAny M A (eval (.Lambda params body scope lpos) X.env) Q E s := by
  obtain ⟨bm, ob, b1, b2, b3, b4, b5, b6⟩ := hbm
  have hg : s.heap.Ns mainGlobals X.mg := I.mod.glob.keeps I.bk
  have HP : ∀ {ps : Array Value}, H P = some (.tbl ps) → s.heap.get? P = some (PySem.W.tabObj ps) := fun {ps} e => (show ObjOk X.prog X.w H s.heap P (.tbl ps) from I.hok P _ e)
  have hP' : ∃ ps, H P = some (.tbl ps) := by
    rcases t with t | ⟨c', t, _⟩
    · exact ⟨_, t⟩
    · exact ⟨_, t⟩
  obtain ⟨ps0, eP⟩ := hP'
  have hgP : mainGlobals ≠ P := fun q => by
    obtain ⟨o, es, ep, e, hd, _⟩ := hg
    rw [q, HP eP] at e
    cases e
    cases hd
  have hbP : bm ≠ P := fun q => by
    have e := I.bk _ _ b3
    rw [q, HP eP] at e
    cases e
    cases b4
  have hbG : bm ≠ mainGlobals := fun q => by
    obtain ⟨o, es, ep, e, hd, _⟩ := I.mod.glob
    rw [q, e] at b3
    cases b3
    rw [hd] at b6
    cases b6
  have hB : s.heap.BuiltinsAt X.mg P := ⟨bm, ob, b1, b2, hbG, hbP, I.bk _ _ b3, b4, b5, b6⟩
  have Lt := I.lt
  have bsz : X.base.objs.size ≤ s.heap.objs.size := Nat.le_trans I.ok.bsz I.sz
  refine PySem.W.kla_eval hdef ?_
  rcases t with t | ⟨c', t, tc⟩
  · refine PySem.W.kla_makeFunction (mg := X.mg) hcl I.ok.glob hg hcode (C.keeps I.bk) (HP t) trivial rfl hgP hB fun c' ctv h' tk hx hge hlt hrec htb => ?_
    have cne : ∀ b o, s.heap.get? b = some o → b ≠ c' := fun b o e z => by
      subst z
      exact absurd (Nat.lt_of_lt_of_le (Heap.lt_size e) hge) (Nat.lt_irrefl _)
    have HL : ∀ b u, H b = some u → b ≠ c' := fun b u e z => by
      subst z
      exact absurd (Nat.lt_of_lt_of_le (I.hok.lt e) hge) (Nat.lt_irrefl _)
    have PN : P ≠ c' := HL P _ t
    have nP : ∀ b, H b = none → b ≠ P := fun b e z => by
      rw [z, t] at e
      cases e
    have kb : ∀ b o, b ≠ P → s.heap.get? b = some o → (h'.push (PySem.W.kla_obj "<lambda>" (X.env.qual ++ "<lambda>") params body scope [] ((X.mg "__name__").getD .none) c' ctv)).get? b = some o := fun b o hb e => Heap.get?_push_of_some _ (hx b o hb e)
    have htb' : (h'.push (PySem.W.kla_obj "<lambda>" (X.env.qual ++ "<lambda>") params body scope [] ((X.mg "__name__").getD .none) c' ctv)).get? P = some (PySem.W.tabObj (#[] ++ #[rawInt lpos.line, rawInt lpos.col, .ref c'])) := Heap.get?_push_of_some _ htb
    have hrec' := codeRec_ext (h2 := h'.push (PySem.W.kla_obj "<lambda>" (X.env.qual ++ "<lambda>") params body scope [] ((X.mg "__name__").getD .none) c' ctv)) hrec fun o e => Heap.get?_push_of_some _ e
    refine h h'.objs.size c' ctv _ (upd (upd H P (.tbl #[rawInt lpos.line, rawInt lpos.col, .ref c'])) c' (LamExt c' (X.env.qual ++ "<lambda>"))) ?_ ⟨.inr ⟨c', by rw [upd_ne PN, upd_same], upd_same⟩, fun b o e hb => by rw [upd_ne (HL b o e), upd_ne hb]; exact e, fun b e => ?_⟩ ?_ (Heap.get?_push_size _ rfl) hrec' ?_ ?_
    · refine I.step (g' := s.gens) (d' := s.drawn) (ch := []) (fun _ z => nomatch z) (fun b o _ _ _ e n => kb b o (nP b n) e) (fun b o _ _ _ e n => ⟨o.slots, kb b o (nP b n) e⟩) (fun b o _ e n => by rw [upd_ne (cne b o e), upd_ne (nP b n)]; exact n) (fun b o _ e => ?_) (fun b xs e => ?_) (fun b o u e => ?_) (fun b ps e => ?_) (fun m hm => ?_) (fun b u e => ?_) I.bare
      · by_cases hb : b = P
        · exact ⟨_, by rw [hb]; exact htb'⟩
        · exact ⟨o, kb b o hb e⟩
      · rw [upd_ne (HL b _ e), upd_ne (ne_of e t (by intro z; cases z))]
        exact e
      · rw [upd_ne (HL b _ e), upd_ne (ne_of e t (by intro z; cases z))]
        exact e
      · by_cases hb : b = P
        · subst hb
          rw [t] at e
          cases e
          exact ⟨#[rawInt lpos.line, rawInt lpos.col, .ref c'], by rw [upd_ne PN, upd_same]; simp⟩
        · exact ⟨#[], by rw [upd_ne (HL b _ e), upd_ne hb]; simpa using e⟩
      · obtain ⟨o, es, ep, ho, r⟩ := hm
        exact ⟨o, es, ep, kb _ o (nP _ I.free) ho, r⟩
      · have ho : ∀ b y, H b = some (HO.own y) → (upd (upd H P (.tbl #[rawInt lpos.line, rawInt lpos.col, .ref c'])) c' (LamExt c' (X.env.qual ++ "<lambda>"))) b = some (HO.own y) := fun b y e => by
          rw [upd_ne (HL b _ e), upd_ne (ne_of e t (by intro z; cases z))]
          exact e
        have ht : ∀ b y, H b = some (HO.tup y) → (upd (upd H P (.tbl #[rawInt lpos.line, rawInt lpos.col, .ref c'])) c' (LamExt c' (X.env.qual ++ "<lambda>"))) b = some (HO.tup y) := fun b y e => by
          rw [upd_ne (HL b _ e), upd_ne (ne_of e t (by intro z; cases z))]
          exact e
        by_cases hc : b = c'
        · subst hc
          rw [upd_same] at e
          cases e
          refine ⟨hrec', ?_, fun h1 h2 p k => codeRec_ext p k⟩
          obtain ⟨c2, oc, _, _, e2, e3, _⟩ := hrec'
          cases e2
          exact ⟨oc, e3⟩
        · rw [upd_ne hc] at e
          by_cases hb : b = P
          · subst hb
            rw [upd_same] at e
            cases e
            show Heap.get? _ _ = _
            rw [htb']
            simp
          · rw [upd_ne hb] at e
            refine (I.hok b u e).stay (fun a v hk q => kb a v ?_ q) (fun a q => ho a b q) ht
            rcases hk with rfl | hk
            · exact hb
            · exact ne_of hk t (by intro z; cases z)
    · by_cases hb : b = c'
      · subst hb
        rw [upd_same] at e
        cases e
      · rw [upd_ne hb] at e
        by_cases hb2 : b = P
        · subst hb2
          rw [upd_same] at e
          cases e
        · rw [upd_ne hb2] at e
          exact e
    · have hs : s.heap.objs.size ≤ h'.objs.size := Nat.le_trans hge (Nat.le_of_lt hlt)
      rw [upd_ne (Nat.ne_of_gt hlt), upd_ne (fun z => by
        have := I.hok.lt t
        rw [← z] at this
        exact absurd (Nat.lt_of_lt_of_le this hs) (Nat.lt_irrefl _))]
      exact I.hok.fresh hs
    · exact Nat.ne_of_gt (Nat.lt_of_lt_of_le Lt (Nat.le_trans hge (Nat.le_of_lt hlt)))
    · exact Heap.get?_none_of_le (Nat.le_trans bsz (Nat.le_trans hge (Nat.le_of_lt hlt)))
  · have hrec : s.heap.CodeRec (.ref c') (X.env.qual ++ "<lambda>") := (show ObjOk X.prog X.w H s.heap c' (LamExt c' (X.env.qual ++ "<lambda>")) from I.hok c' _ tc).1
    refine PySem.W.kla_makeFunctionHit (mg := X.mg) (cv := .ref c') hcl I.ok.glob hg hcode (C.keeps I.bk) (HP t) (show TriplesOk [.int _ 0, .int _ 0, .ref c'] from trivial) (by show (if (((lpos.line : Int) == (lpos.line : Int)) && ((lpos.col : Int) == (lpos.col : Int))) = true then some (Value.ref c') else _) = _; simp) hB fun ctv h' tk hk hsz => ?_
    refine h h'.objs.size c' ctv _ H (I.kept (t' := tk) fun b o e => Heap.get?_push_of_some _ (hk b o e)) ⟨.inr ⟨c', t, tc⟩, fun b o e _ => e, fun _ e => e⟩ (I.hok.fresh hsz) (Heap.get?_push_size _ rfl) (codeRec_ext hrec fun o e => Heap.get?_push_of_some _ (hk _ o e)) (Nat.ne_of_gt (Nat.lt_of_lt_of_le Lt hsz)) (Heap.get?_none_of_le (Nat.le_trans bsz hsz))
end
theorem lam_call {prog : Program} {w : World} {A : Around} {E : Value → Shared → Prop} {s : Shared} {K : PySem.W.Frag} {f c' a dx C : Addr} {q x fld : Str} {params : Arguments} {npos apos : Pos} {scope : Scope} {pm ctv u : Value} {mA : Str → Option Value} {Q : Value → Shared → Prop}
    (hroom : A.depth < recursionLimit) (lim : s.heap.NoLimit) (KX : K.In s.heap)
    (ho : s.heap.get? f = some (PySem.W.kla_obj "<lambda>" q params (.Attribute (.Name x npos) fld apos) scope [] pm c' ctv)) (hcd : s.heap.CodeRec (.ref c') q)
    (hbind : ∀ v, bindArgs (PySem.W.kla_fn "<lambda>" q params (.Attribute (.Name x npos) fld apos) scope [] pm (.ref c') ctv) ⟨[v], []⟩ = pure [(x, v)])
    (hco : scope.isCoroutine = false) (hgen : scope.isGenerator = false) (hk : scope.kind = .function) (hn : scope.names = [(x, .local)]) (hdb : (x == ("__debug__" : Str)) = false)
    (O : ObjM s.heap a dx C mA) (c : Cls K C) (n : NoAttr K C fld) (hv : mA fld = some u) (hu : PySem.W.handedIn u = true)
    (hbase : ∀ env : Env, attributeBase (.Name x npos) fld env (eval (.Name x npos) env) = eval (.Name x npos) env)
    (h : ∀ h1 tk, (∀ b o, s.heap.get? b = some o → h1.get? b = some o) → Q u { s with heap := h1, toks := tk }) :
    wpAny (model prog w) A (call (.ref f) [.ref a]) Q E s := by
  refine wpAny_call (PySem.W.kla_callFunE hroom ho rfl hco hgen rfl hcd ?_)
  rw [hbind]
  refine wpAny_pure (wpAny_newFunctionEnv ?_ ?_ (fun h1 hns hsb => ⟨lim.fresh _ hsb, ?_⟩) hk)
  · intro y hy
    rw [hn] at hy
    cases List.mem_singleton.mp hy
    nofun
  · intro y hy
    cases List.mem_singleton.mp hy
    rw [hn]
    simp
  · have hk1 : ∀ b o, s.heap.get? b = some o → h1.get? b = some o := fun b o e => hsb.extBut b o (Nat.ne_of_lt (Heap.lt_size e)) (Heap.get?_push_of_some _ e)
    refine PySem.W.kla_codeExpr (attr_of (hbase _) ?_)
    refine wpAny_Name (wpAny_loadName_local (v := .ref a) hk ?_ hns ?_ ?_) hdb
    · show scope.names.lookup x = some .local
      rw [hn]
      simp
    · simp
    · have KX1 : K.In h1 := fun b o e => hk1 b o (KX b o e)
      obtain ⟨ob, ⟨od, es, ep, e1, e2⟩, ne⟩ := O
      refine get_map (s := { s with heap := h1, toks := _ }) KX1 (⟨hk1 _ _ ob, ⟨od, es, ep, hk1 _ _ e1, e2⟩, ne⟩ : ObjM h1 a dx C mA) (c.get fld) c.hd n hv hu ?_
      exact h h1 _ hk1
theorem ob_there {P : Program} {w : World} {H : Hp} {h : Heap} {a : Addr} {o : HO} (x : ObjOk P w H h a o) : ∃ ob, h.get? a = some ob := by
  cases o with
  | lst xs => obtain ⟨_, _, _, _, e⟩ := x; exact ⟨_, e⟩
  | tup xs => obtain ⟨_, _, _, _, e, _⟩ := x; exact ⟨_, e⟩
  | dK kvs => obtain ⟨_, _, _, _, o, _, _, e, _⟩ := x; exact ⟨_, e⟩
  | dT kvs => obtain ⟨_, _, _, _, o, _, _, e, _⟩ := x; exact ⟨_, e⟩
  | set S n => obtain ⟨o, _, _, _, e, _⟩ := x; exact ⟨_, e⟩
  | ins C dx fs => obtain ⟨_, _, _, e, _⟩ := x; exact ⟨_, e⟩
  | own y => exact x
  | xd fs => obtain ⟨_, ⟨_, _, _, e, _⟩, _⟩ := x; exact ⟨_, e⟩
  | rng lo hi => obtain ⟨_, _, _, e⟩ := x; exact ⟨_, e⟩
  | frz ob u => obtain ⟨e, _⟩ := x; exact ⟨_, e⟩
  | tbl ps => exact ⟨_, x⟩
  | met f y => exact ⟨_, x⟩
  | ext φ => exact x.2.1
def KeyAt (K : PySem.W.Frag) (H : Hp) (fld : Str) (a : Addr) (k : Int) : Prop := ∃ C dx fs, H a = some (.ins C dx fs) ∧ Cls K C ∧ NoAttr K C fld ∧ fs.lookup fld = some (.int k)
def tSortKey (K : PySem.W.Frag) (P : Addr) (lpos : Pos) (q fld : Str) (te : TA) : TE := fun σ H Q => te σ H fun vs H1 => ∃ (l : Addr) (as : List Addr) (ks : List Int), vs = [.ref l] ∧ lstOf (H1 l) = some (as.map V.ref) ∧ TabIs P lpos q H1 ∧ Paired (KeyAt K H1 fld) as ks ∧
  ∀ (H2 : Hp) (D : Addr) (ps : List (Int × Addr)), LamMade P lpos q H1 H2 → H2 D = none → ps.Perm (ks.zip as) → ps.Pairwise (fun x y => x.1 ≤ y.1) → Q (.ref D) (upd H2 D (.lst (ps.map fun p => V.ref p.2)))
def addrOf : Value → Addr
  | .ref a => a
  | _ => 0
theorem vals_refs : ∀ {as : List Addr} {us : List Value}, Vals (as.map V.ref) us → us = as.map Value.ref
  | [], us, h => by
    cases h
    rfl
  | a :: as, us, h => by
    cases h with
    | cons r t =>
      cases r
      rw [vals_refs t]
      rfl
theorem refs_vals : ∀ (as : List Addr), Vals (as.map V.ref) (as.map Value.ref)
  | [] => .nil
  | a :: as => .cons rfl (refs_vals as)
theorem zip_ref (ks : List Int) (as : List Addr) : ks.zip (as.map Value.ref) = (ks.zip as).map fun p => (p.1, Value.ref p.2) := by
  rw [List.zip_map_right]
  rfl
theorem paired_at {α β : Type} {F : α → β → Prop} {l : List α} {m : List β} (h : Paired F l m) {i : Nat} {b : β} (hb : m[i]? = some b) : ∃ a, l[i]? = some a ∧ F a b := by
  induction h generalizing i with
  | nil => simp at hb
  | cons r _ ih =>
    cases i with
    | zero =>
      have e := Option.some.inj hb
      subst e
      exact ⟨_, rfl, r⟩
    | succ i => exact ih (by simpa using hb)
theorem pe_sortKey {X : Cx} {P c : Addr} {q x fld : Str} {params : Arguments} {npos apos lpos p pos kpos : Pos} {scope : Scope} {e : Expr} {te : TA} {k : Nat} (hr : Room k X.A) (hq : X.env.qual ++ "<lambda>" = q) (hcode : X.env.code = .ref c) (C : PySem.W.CodeHd X.base c P) (hbm : BMain X.mg X.base)
    (hm : X.mg "sorted" = none) (ha : PA X [e] te) (hg : Gl X "sorted" := by rfl)
    (hcl : closureFor scope X.env = pure [] := by rfl) (hdef : defaultsOf params X.env = ([], []) := by rfl)
    (hbind : ∀ c' pm ctv v, bindArgs (PySem.W.kla_fn "<lambda>" q params (.Attribute (.Name x npos) fld apos) scope [] pm (.ref c') ctv) ⟨[v], []⟩ = pure [(x, v)] := by intros; rfl)
    (hco : scope.isCoroutine = false := by rfl) (hgen : scope.isGenerator = false := by rfl) (hk : scope.kind = .function := by rfl) (hn : scope.names = [(x, .local)] := by rfl) (hdb : (x == ("__debug__" : Str)) = false := by decide)
    (hbase : ∀ env : Env, attributeBase (.Name x npos) fld env (eval (.Name x npos) env) = eval (.Name x npos) env := by intros; rfl)
    (he : backTo pos (starEach [e] X.env) = (false, eval e X.env) :: backTo pos (starEach [] X.env) := by rfl) (hpl : (backTo pos (starEach [e] X.env)).any (·.1) = false := by rfl) :
    PE X (.Call (.Name "sorted" p) [e] [⟨some "key", .Lambda params (.Attribute (.Name x npos) fld apos) scope lpos, kpos⟩] pos) (tSortKey X.K P lpos q fld te) := by
  intro pins s σ H Q I h
  subst hq
  refine wpAny_Call_Name_kw (ld_blt I hg hm PyProof.Rows.boot_sorted ?_ (by decide) (by decide))
  have hA := ha pos pins s σ H _ I h
  refine PyProof.Rows.callWith_kw (thn hA fun us s1 ⟨vs, H1, I1, r1, l, as, ks, ev, hl, ht, hp, q⟩ => ?_) he hpl rfl rfl
  subst ev
  obtain ⟨ul, rfl, rl⟩ := r1.one
  obtain rfl : ul = Value.ref l := rl
  refine PyProof.Rows.kws_cons (lam_make I1 hcode C hbm hcl hdef ht fun f c' ctv s2 H2 I2 mk hf hfo hcd hfL hfb => PyProof.Rows.kws_nil ?_)
  show wpAny (model X.prog X.w) X.A (call (.builtin "sorted") [.ref l] [("key", .ref f)]) _ _ s2
  have lP : l ≠ P := by
    intro z
    subst z
    rcases ht with ht | ⟨_, ht, _⟩ <;> rw [ht] at hl <;> cases hl
  have hl2 : lstOf (H2 l) = some (as.map V.ref) := by
    cases el : H1 l with
    | none =>
      rw [el] at hl
      cases hl
    | some o =>
      rw [mk.keep l o el lP]
      rw [el] at hl
      exact hl
  obtain ⟨its, rv, ⟨ol, nl, e1, e2, e3, e4⟩, hz⟩ := I2.list (sq_lst (K := X.K) hl2)
  have eits := vals_refs rv
  subst eits
  have hp2 : Paired (KeyAt X.K H2 fld) as ks := Paired.imp' (fun a k ⟨C', dx, fs, z1, z2⟩ => ⟨C', dx, fs, mk.keep a _ z1 (fun z => by
    subst z
    rcases ht with ht | ⟨_, ht, _⟩ <;> rw [ht] at z1 <;> cases z1), z2⟩) hp
  have hlen : ks.length = (as.map Value.ref).length := by rw [List.length_map, Paired.length hp]
  obtain ⟨m, F⟩ := I2.fr
  have N := news_all (g := X.base) (h := s2.heap) (L := X.env.locals)
  have hdpt := hr.dp
  have lim := I2.mod.nolimit
  refine PyProof.Rows.ksk_sortedAny (b := false) (kz := ks) (f := .ref f) (vs := as.map Value.ref) F N ⟨ol, e1, e2, nl, e4⟩ hlen (by rw [List.length_map] at hz ⊢; exact hz) (PyProof.Rows.ksk_s1 _ _) (fun x => PyProof.Rows.ksk_l1 _ _) (fun x => PyProof.Rows.ksk_t1 f x) ?turn ?done
  case turn =>
    intro i v kv hv hkv h3 tk own F3 N3
    obtain ⟨a, ha1, C', dx, fs, z1, z2, z3, z4⟩ := paired_at hp2 hkv
    have ev : v = .ref a := by
      rw [List.getElem?_map, ha1] at hv
      exact (Option.some.inj hv).symm
    subst ev
    have kp : ∀ b o, b ≠ X.env.locals → s2.heap.get? b = some o → h3.get? b = some o := fun b o hb e => by
      cases eb : X.base.get? b with
      | some u =>
        have := I2.bk b u eb
        rw [e] at this
        cases this
        exact F3.keep b _ eb
      | none => exact (N3 (b, o) (List.mem_append_left _ (mem_allNews hb eb e))).1
    have nL : ∀ b u, H2 b = some u → b ≠ X.env.locals := fun b u e z => by
      rw [z, I2.free] at e
      cases e
    have hok3 : HOk X.prog X.w H2 h3 := fun b u e => (I2.hok b u e).stay (fun d o hd q => kp d o (by
      rcases hd with rfl | hd
      · exact nL _ _ e
      · exact nL _ _ hd) q) (fun _ q => q) (fun _ _ q => q)
    obtain ⟨mA, O, r, _, _, _⟩ := ins_get hok3 z1
    obtain ⟨u, hu, ru⟩ := RelO.some_of (v := V.int kv) (o := mA fld) (by rw [← z4]; exact r fld)
    obtain ⟨t, rfl⟩ := ru
    have KX3 : X.K.In h3 := fun b o e => F3.keep b o (I2.mod.kin b o e)
    have hcd3 : h3.CodeRec (.ref c') (X.env.qual ++ "<lambda>") := by
      obtain ⟨c2, oc, vs2, t2, w1, w2, w3, w4⟩ := hcd
      cases w1
      refine ⟨c', oc, vs2, t2, rfl, kp c' oc (fun z => ?_) w2, w3, w4⟩
      obtain ⟨oL, es, ep, w5, w6, _⟩ := F.ns
      rw [z, w5] at w2
      cases w2
      rw [w6] at w3
      cases w3
    refine lam_call (K := X.K) (s := { s2 with heap := h3, toks := tk }) (q := X.env.qual ++ "<lambda>") (by show X.A.depth < recursionLimit; omega) (lim.keeps F3.keep) KX3 (kp f _ hfL hfo) hcd3 (fun v => hbind c' _ ctv v) hco hgen hk hn hdb O z2 z3 hu rfl hbase fun h4 tk4 k4 => ?_
    exact ⟨h4, tk4, t, rfl, rfl, F3.kept k4, N3.grown k4⟩
  case done =>
    intro D h3 tk out cc F3 N3 hD ko
    obtain ⟨ps, pp, po, pw⟩ := ko
    rw [zip_ref] at pp
    have pm : ps = (ps.map fun p => (p.1, addrOf p.2)).map fun p => (p.1, Value.ref p.2) := by
      rw [List.map_map]
      have : ∀ p ∈ ps, ((fun p : Int × Addr => (p.1, Value.ref p.2)) ∘ fun p : Int × Value => (p.1, addrOf p.2)) p = p := fun p hp => by
        obtain ⟨z, _, rfl⟩ := List.mem_map.mp (pp.mem_iff.mp hp)
        rfl
      exact ((List.map_congr_left this).trans (List.map_id ps)).symm
    have pp2 : (ps.map fun p => (p.1, addrOf p.2)).Perm (ks.zip as) := by
      have := pp.map fun p : Int × Value => (p.1, addrOf p.2)
      rw [List.map_map] at this
      have e : (ks.zip as).map ((fun p : Int × Value => (p.1, addrOf p.2)) ∘ fun p : Int × Addr => (p.1, Value.ref p.2)) = ks.zip as := (List.map_congr_left (g := id) fun p _ => rfl).trans (List.map_id _)
      rw [e] at this
      exact this
    have pw2 : (ps.map fun p => (p.1, addrOf p.2)).Pairwise fun x y => x.1 ≤ y.1 := List.pairwise_map.mpr (pw.imp fun h => by simpa using h)
    generalize (ps.map fun p => (p.1, addrOf p.2)) = ps2 at pm pp2 pw2
    have eo : out.toList = (ps2.map fun p => p.2).map Value.ref := by
      rw [po, pm, List.map_map, List.map_map]
      rfl
    have nD := N3 (D, seqObj "list" out cc) (.head _)
    have kp : ∀ b o, b ≠ X.env.locals → s2.heap.get? b = some o → h3.get? b = some o := fun b o hb e => by
      cases eb : X.base.get? b with
      | some u =>
        have := I2.bk b u eb
        rw [e] at this
        cases this
        exact F3.keep b _ eb
      | none => exact (N3 (b, o) (.tail _ (mem_allNews hb eb e))).1
    have neD : ∀ b o, s2.heap.get? b = some o → b ≠ D := fun b o e z => by
      subst z
      exact absurd (hD (b, o) (mem_allNews nD.2.1 nD.2.2 e)) (Nat.lt_irrefl _)
    have fD : H2 D = none := by
      cases eD : H2 D with
      | none => rfl
      | some u =>
        obtain ⟨o, ho⟩ := ob_there (I2.hok D u eD)
        exact absurd rfl (neD D o ho)
    have eD3 : h3.get? D = some (seqObj "list" ((ps2.map fun p => p.2).map Value.ref).toArray cc) := by
      rw [← eo]
      have := nD.1
      rw [this]
    have I3 : Inv X pins σ (upd H2 D (.lst (ps2.map fun p => V.ref p.2))) { s2 with heap := h3, toks := tk } := by
      refine I2.step (g' := s2.gens) (d' := s2.drawn) (ch := []) (fun _ z => nomatch z) (fun b o hb _ _ e n => kp b o hb e) (fun b o hb _ _ e n => ⟨o.slots, kp b o hb e⟩) (fun b o _ e n => by rw [upd_ne (neD b o e)]; exact n) (fun b o _ e => ?_) (fun b xs e => ?_) (fun b o u e => ?_) (fun b ps e => ⟨#[], ?_⟩) (fun m' hm => ?_) (fun b u e => ?_) I2.bare
      · by_cases hb : b = X.env.locals
        · obtain ⟨oL, _, _, w1, _⟩ := F3.ns
          exact ⟨oL, by rw [hb]; exact w1⟩
        · exact ⟨o, kp b o hb e⟩
      · rw [upd_ne (ne_of_none e fD)]
        exact e
      · rw [upd_ne (ne_of_none e fD)]
        exact e
      · rw [upd_ne (ne_of_none e fD)]
        simpa using e
      · rw [hm.eq_nsMap, ← F.ns.eq_nsMap]
        exact F3.ns
      · have nL : ∀ b u, H2 b = some u → b ≠ X.env.locals := fun b u e z => by
          rw [z, I2.free] at e
          cases e
        by_cases hb : b = D
        · subst hb
          rw [upd_same] at e
          cases e
          refine ⟨?_, (ps2.map fun p => p.2).map Value.ref, cc, ?_, eD3⟩
          · rw [List.length_map, pp2.length_eq, List.length_zip]
            rw [List.length_map] at hz
            omega
          · have := refs_vals (ps2.map fun p => p.2)
            rw [List.map_map] at this
            exact this
        · rw [upd_ne hb] at e
          refine (I2.hok b u e).stay (fun d o hd q => kp d o ?_ q) (fun d q => by rw [upd_ne (ne_of_none q fD)]; exact q) (fun d xs q => by rw [upd_ne (ne_of_none q fD)]; exact q)
          rcases hd with rfl | hd
          · exact nL _ _ e
          · exact nL _ _ hd
    exact ⟨.ref D, _, I3, rfl, q H2 D ps2 mk fD pp2 pw2⟩
end L2
set_option Elab.async false
set_option linter.all false
set_option maxRecDepth 100000
set_option maxHeartbeats 2000000
namespace L2
open PySem PySem.Spec PyProof.Rows
open PySem.W (WData Codec OpenSpec Well WellAll ReadsW ReadsAllW)
theorem spec_callT {P : Program} {w : World} {K : PySem.W.Frag} {mg mb : Str → Option Value} {CX : CXT} {k : Nat} {fa : Addr} {fd : FuncData} {ps : List Str} {sp : Sp} {s₁ : Shared} {vals : List Value} {ds : List WData} {R : PySem.W.WRecords} {cl : Str → Option Addr} {d0 : WData} {cT PT : Addr}
    (hT : s₁.heap.get? PT = some (PySem.W.tabObj #[])) (hKP : K.lookup PT = none) (hC : PySem.W.codeHdIn K cT PT = true) (hBM : BMain mg s₁.heap)
    (KX : K.In s₁.heap) (hns : s₁.heap.Ns mainGlobals mg) (hb : s₁.heap.Ns builtinsNs mb) (hbb : ∀ x : Str, x ≠ "__name__" → mb x = bootBuiltins x) (hlim : s₁.heap.NoLimit) (hg : s₁.gens = #[])
    (hwl : WellAll w.params s₁.heap vals ds) (hpl : plWs ds = true) (hwt : ∀ d ∈ ds, d.weight ≤ 1048576) (hr : Room k callerA)
    (F : ∀ base : Heap, K.In base → base.Ns mainGlobals mg → BMain mg base → PySem.W.CodeHd base cT PT → FnOk P w K mg base CX k fa fd ps sp) (hbind : ∀ (s : Shared) (us : List Value), us.length = ps.length → BindsTo s fd ⟨us, []⟩ (ps.zip us)) (hlen : ds.length = ps.length)
    (hsp : ∀ (H : Hp) (xs : List V), OnlyF H → H PT = none → DwAll K H xs ds → sp xs (upd H PT (.tbl #[])) (fun v H' => Dw K H' v d0) fun _ _ _ => False)
    (hCX : ∀ H e s', CX [] H s₁ (fun _ _ _ => False) e s' → False) :
    codeAny (model P w) callerA (.call (.ref fa) ⟨vals, []⟩) (fun r s' => ∃ u as, r = .ok (.ret u) ∧ ReadsW R cl s'.heap u d0 as ∧ OldK s₁.heap s'.heap ∧ s'.os = s₁.os ∧ AllBare s'.gens) s₁ := by
  obtain ⟨A, ho, ar⟩ := area_all ds vals hwl hpl hwt
  have hO : OnlyF (argH K s₁.heap A) := argH_only ar
  have hok0 : HOk P w (argH K s₁.heap A) s₁.heap := argH_ok ar
  have hS := dw_all KX ar ds vals hwl hpl ho
  have hV := vals_toV ho
  have hK : ∀ b u, argH K s₁.heap A b = some u → K.lookup b = none := fun b u q => (argH_is ar q).1
  have noS : ∀ {b : Addr} {o : Obj}, s₁.heap.get? b = some o → (∀ xs n, o.data ≠ .seq xs n) → argH K s₁.heap A b = none := fun {b o} e d => by
    cases q : argH K s₁.heap A b with
    | none => rfl
    | some u =>
      obtain ⟨_, vs, _, _, ⟨e2, _⟩ | ⟨e2, _⟩⟩ := argH_is ar q
      · rw [e2] at e
        cases e
        exact absurd rfl (d _ _)
      · rw [e2] at e
        cases e
        exact absurd rfl (d _ _)
  have hPN : argH K s₁.heap A PT = none := noS hT (fun _ _ z => by cases z)
  have hsp' := hsp _ _ hO hPN hS
  generalize argH K s₁.heap A = H0 at hO hok0 hS hK noS hPN hsp'
  have hok : HOk P w (upd H0 PT (.tbl #[])) s₁.heap := fun b u e => by
    by_cases hbP : b = PT
    · subst hbP
      rw [upd_same] at e
      cases e
      exact hT
    · rw [upd_ne hbP] at e
      exact (hok0 b u e).stay (fun _ _ _ q => q) (fun c q => by rw [upd_ne (ne_of_none q hPN)]; exact q) (fun c xs q => by rw [upd_ne (ne_of_none q hPN)]; exact q)
  have hone : ∀ b, (upd H0 PT (.tbl #[])) b = none → H0 b = none := fun b e => by
    by_cases hbP : b = PT
    · subst hbP
      rw [upd_same] at e
      cases e
    · rw [upd_ne hbP] at e
      exact e
  have hnone : ∀ b, b ≠ PT → H0 b = none → (upd H0 PT (.tbl #[])) b = none := fun b n e => by
    rw [upd_ne n]
    exact e
  have neT : ∀ {b : Addr} {o : Obj}, s₁.heap.get? b = some o → (∀ vs, o.data ≠ .fields vs) → b ≠ PT := fun {b o} e d z => by
    subst z
    rw [hT] at e
    cases e
    exact absurd rfl (d _)
  have base_of : ∀ {b : Addr} {o : Obj}, s₁.heap.get? b = some o → (upd H0 PT (.tbl #[])) b = none → (hidT s₁.heap (upd H0 PT (.tbl #[]))).get? b = some o := fun e n => hidT_get e n
  have nsK : ∀ {b : Addr} {m : Str → Option Value}, s₁.heap.Ns b m → (hidT s₁.heap (upd H0 PT (.tbl #[]))).Ns b m := fun {b m} ⟨o, es, ep, e, d, r⟩ => ⟨o, es, ep, base_of e (hnone b (neT e (fun _ z => by rw [d] at z; cases z)) (noS e (fun _ _ z => by rw [d] at z; cases z))), d, r⟩
  have nK : ∀ b o, K.lookup b = some o → (upd H0 PT (.tbl #[])) b = none := fun b o e => by
    refine hnone b (fun z => ?_) ?_
    · subst z
      rw [hKP] at e
      cases e
    · cases q : H0 b with
      | none => rfl
      | some u =>
        rw [hK b u q] at e
        cases e
  have hKb : K.In (hidT s₁.heap (upd H0 PT (.tbl #[]))) := fun b o e => base_of (KX b o e) (nK b o e)
  have hBMb : BMain mg (hidT s₁.heap (upd H0 PT (.tbl #[]))) := by
    obtain ⟨bm, ob, b1, b2, b3, b4, b5, b6⟩ := hBM
    exact ⟨bm, ob, b1, b2, base_of b3 (hnone bm (neT b3 (fun _ z => by rw [b6] at z; cases z)) (noS b3 (fun _ _ z => by rw [b6] at z; cases z))), b4, b5, b6⟩
  have hM : Mod K mg (hidT s₁.heap (upd H0 PT (.tbl #[]))) := ⟨hKb, nsK hns, ⟨mb, nsK hb, hbb⟩, let ⟨mc, h1, h2⟩ := hlim; ⟨mc, nsK h1, h2⟩⟩
  have e0 : Env0 P w K mg (hidT s₁.heap (upd H0 PT (.tbl #[]))) callerA [] s₁ (upd H0 PT (.tbl #[])) := ⟨rfl, hM, fun b o e => of_hidT e, Nat.le_of_eq (hidT_size _ _), trivial, fun b hb => absurd (show b ∈ ([] : List Addr) from hb) (by simp), hok, .of_eq hg⟩
  have hl : vals.length = ps.length := by rw [wellAll_len hwl]; exact hlen
  refine codeAny_mono ((F _ hKb (nsK hns) hBMb (PySem.W.codeHd_of_K hKb hC)).run callerA [] s₁ _ ⟨vals, []⟩ vals (vals.map toV) _ _ hr e0 (hbind s₁ vals hl) hV hsp') fun r s' x => ?_
  cases r with
  | error e => exact (hCX _ e s' x).elim
  | ok fl =>
    cases fl with
    | next => exact False.elim x
    | brk => exact False.elim x
    | cont => exact False.elim x
    | ret u =>
      obtain ⟨v, H', os, bare, un, hok', r', q⟩ := x
      have kept : ∀ b o, b ≠ PT → s₁.heap.get? b = some o → s'.heap.get? b = some o := fun b o hbP e => by
        cases q2 : H0 b with
        | none => exact un.keep b o e (hnone b hbP q2) (by intro z; exact absurd (show b ∈ ([] : List Addr) from z) (by simp)) (by simp)
        | some u2 =>
          rcases hO b with z | ⟨ob, u3, z⟩
          · rw [q2] at z
            cases z
          · have z' : (upd H0 PT (.tbl #[])) b = some (.frz ob u3) := by
              rw [upd_ne hbP]
              exact z
            have z2 := un.frzs b ob _ z'
            obtain ⟨e1, _⟩ := hok b _ z'
            obtain ⟨e2, _⟩ := hok' b _ z2
            rw [e] at e1
            cases e1
            exact e2
      have KX' : K.In s'.heap := fun b o e => kept b o (fun z => by
        subst z
        rw [hKP] at e
        cases e) (KX b o e)
      obtain ⟨more, hmo⟩ := un.tbls PT #[] upd_same
      have tb : s'.heap.get? PT = some (PySem.W.tabObj (#[] ++ more)) := hok' PT _ hmo
      have C1 := PySem.W.codeHd_of_K KX hC
      have old : OldK s₁.heap s'.heap := by
        refine ⟨fun b o e => ?_, fun b o e => ?_⟩
        · by_cases hbP : b = PT
          · subst hbP
            rw [hT] at e
            cases e
            exact .inr (.inl ⟨(C1.tab hT).isCodeTable, rfl, #[], more, rfl, tb⟩)
          · exact .inl (kept b o hbP e)
        · by_cases hbP : b = PT
          · exact ⟨_, by rw [hbP]; exact tb⟩
          · exact ⟨o, kept b o hbP e⟩
      obtain ⟨as, hrd⟩ := Dw.reads (R := R) (cl := cl) hok' KX' d0 v u q r'
      exact ⟨u, as, rfl, hrd, old, os, bare⟩
theorem walk_specT {r : OpenSpec} {k : Nat} {q : Program} {loose : List Str} {XP : (Str → Option Value) → Heap → Prop} {YP : World → Heap → Prop} {d : DefRec} {K : Params → PySem.W.Frag} {ps : List Str} {sp : PySem.W.Frag → Sp} {cT PT : Addr}
    (hwell : r.wellSaid = true) (hdf : d.params.defaults = []) (hlen : r.args.length = ps.length) (hr : Room k callerA)
    (hY : ∀ (w : World) (h : Heap), YP w h → (K w.params).In h) (hY2 : ∀ (w : World) (h : Heap), YP w h → h.get? PT = some (PySem.W.tabObj #[]))
    (hKP : ∀ w : World, (K w.params).lookup PT = none) (hC : ∀ w : World, PySem.W.codeHdIn (K w.params) cT PT = true)
    (F : ∀ (w : World) (mg : Str → Option Value) (fa : Addr) (h : Heap), YP w h → (K w.params).In h → h.Ns mainGlobals mg → mg d.name = some (.ref fa) →
      ∃ fd : FuncData, (∀ (s : Shared) (us : List Value), us.length = ps.length → BindsTo s fd ⟨us, []⟩ (ps.zip us)) ∧
        ∀ base : Heap, (K w.params).In base → base.Ns mainGlobals mg → BMain mg base → PySem.W.CodeHd base cT PT → FnOk r.prog w (K w.params) mg base CX0 k fa fd ps (sp (K w.params)))
    (hsp : ∀ (K : PySem.W.Frag) (H : Hp) (xs : List V) (a : Codec.denoteAll r.args), OnlyF H → H PT = none → Codec.withinAll r.args a = true → Codec.app r.args r.asked a = true → DwAll K H xs (Codec.encAll r.args a) →
      sp K xs (upd H PT (.tbl #[])) (fun v H' => Dw K H' v (r.ret.enc (Codec.app r.args r.f a))) fun _ _ _ => False) :
    PySem.W.WalkOS q loose XP YP r d [] (fun f vs => PySem.call f vs) := by
  intro w s_0 s₁ mg mb G Y fa o pm cd doc dV kV ho hd hcd hD hmg hg args vals as hpre hlay hrd hwl hlo
  obtain ⟨a, e1, e2⟩ := PySem.W.os_pre_some hpre
  obtain ⟨e3, hwi⟩ := Codec.encAll_of_decAll r.args args a e1
  subst e3
  have KX := hY w _ Y
  obtain ⟨fd, hb, hF⟩ := F w mg fa _ Y KX G.T.g hmg
  refine PySem.W.enter_call (codeAny_mono (spec_callT (R := []) (cl := classAt s_0.heap) (d0 := r.ret.enc (Codec.app r.args r.f a)) (cT := cT) (PT := PT) (hY2 w _ Y) (hKP w) (hC w) G.T.bmain KX G.T.g G.T.b G.T.builtins G.T.nolimit hg hwl (pl_encAll _ _) (layable_weight hlay) hr hF hb (by rw [encAll_len]; exact hlen)
    (fun H xs hO hP hS => hsp (K w.params) H xs a hO hP hwi e2 hS) fun H e s' z => z) fun r' s' hq => ?_)
  obtain ⟨u, as', rfl, h1, h2, h3, h4⟩ := hq
  exact ⟨.inl ⟨u, _, as', rfl, fun _ => rfl, h1, (OpenSpec.post_iff hwell hwi _ _).mpr rfl, fun z => Bool.noConfusion (show false = true from z)⟩, h2, h3, h4⟩
theorem Fun.okc {P : Program} {w : World} {K : PySem.W.Frag} {mg : Str → Option Value} {base : Heap} {x qual : Str} {st : Stmt} {f : Addr} {fd : FuncData} {N ps : List Str} {k : Nat} {sp : Sp} (F : Fun K x qual st f fd) (S : FnScope N ps (defScope st)) (len : ∀ vs H Q E, sp vs H Q E → vs.length = ps.length)
    (hbody : ∀ (A : Around) (outer : List Env) (s : Shared) (H : Hp) (vs : List V) (Q : VK) (E : XK), Room k (A.deeper (envOfC qual (defScope st) s.heap.objs.size f fd.code)) → sp vs H Q E →
      ∃ t, PSs (cxOf CX0 P w K mg base N qual (defScope st) f fd.code A outer s H E).nox (defBody st) t ∧ t { nx := fun _ H' => Q .non H', rt := Q } (start N vs) H) : FnOk P w K mg base CX0 (k + 1) f fd ps sp := by
  obtain ⟨oc, od, kV, doc, pm, an, cdv, ct, osl, rfl, lk, hcd⟩ := F.ex
  refine fn_of lk hcd S len fun A outer s H vs Q E hr hsp => ?_
  obtain ⟨t, h, q⟩ := hbody A outer s H vs Q E hr hsp
  exact ⟨t, h.nox, q⟩
theorem rd_tDGet {td ty : TE} {σ : St} {H : Hp} {Q : VK} : tDGet td ty σ H Q = (td σ H fun x H1 => ty σ H1 fun y H2 => ∃ a v, x = .ref a ∧ DGet H2 a y (some v) ∧ Q v H2) := rfl
theorem rd_tDIn {td ty : TE} {σ : St} {H : Hp} {Q : VK} : tDIn ty td σ H Q = (ty σ H fun y H1 => td σ H1 fun x H2 => ∃ a o, x = .ref a ∧ DGet H2 a y o ∧ Q (.bl o.isSome) H2) := rfl
theorem rd_sDPut {td ty tv : TE} {D : Ends} {σ : St} {H : Hp} : sDPut td ty tv D σ H = (tv σ H fun v H1 => td σ H1 fun x H2 => ty σ H2 fun y H3 => ∃ a H4, x = .ref a ∧ DPut H3 a y v H4 ∧ D.nx σ H4) := rfl
theorem rd_tDNewK {σ : St} {H : Hp} {Q : VK} : tDNewK σ H Q = (∀ p, H p = none → Q (.ref p) (upd H p (.dK []))) := rfl
theorem rd_iRng3 {ta : TA} {σ : St} {H : Hp} {R : It → Hp → Prop} : iRng3 ta σ H R = (ta σ H fun vs H1 => ∃ (i j c : Int) (n : Nat), vs = [.int i, .int j, .int c] ∧ RgC i j c n ∧ R (Itc i c n) H1) := rfl
theorem rd_iEnum {K : PySem.W.Frag} {ta : TA} {σ : St} {H : Hp} {R : It → Hp → Prop} : iEnum K ta σ H R = (ta σ H fun vs H1 => ∃ a xs, vs = [.ref a] ∧ SqL K H1 a xs ∧ R (Ite K a) H1) := rfl
theorem rd_rNeD {K : PySem.W.Frag} {x y : V} {H : Hp} {Q : VK} : rNeD K x y H Q = (∃ d e, Dp K H x d ∧ Dp K H y e ∧ SeqAt.shaped d = true ∧ SeqAt.shaped e = true ∧ Q (.bl (!PyData.eqv d e)) H) := rfl
theorem rd_rIn {K : PySem.W.Frag} {neg : Bool} {x y : V} {H : Hp} {Q : VK} : rIn K neg x y H Q = (∃ p xs, y = .ref p ∧ (SqL K H p xs ∨ SqT K H p xs) ∧ flatV x = true ∧ xs.all flatV = true ∧ Q (.bl (if neg then !inV x xs else inV x xs)) H) := rfl
theorem rd_rIndex {K : PySem.W.Frag} {x : V} {xs : List V} {H : Hp} {Q : VK} : rIndex K x xs H Q = (∃ (a : Addr) (ys : List V) (y : V) (j : Nat) (z : V), x = V.ref a ∧ xs = [y] ∧ SqL K H a ys ∧ flatV y = true ∧ ys.all flatV = true ∧ ys[j]? = some z ∧ eqV z y = true ∧
  (∀ (m : Nat) (z' : V), m < j → ys[m]? = some z' → eqV z' y = false) ∧ Q (.int (j : Nat)) H) := rfl
theorem rd_rMin {K : PySem.W.Frag} {vs : List V} {H : Hp} {Q : VK} : rMin K vs H Q = (∃ (a : Addr) (ns : List Int), vs = [V.ref a] ∧ SqL K H a (ns.map V.int) ∧ 0 < ns.length ∧ ∀ m, m ∈ ns → (∀ y, y ∈ ns → m ≤ y) → Q (.int m) H) := rfl
theorem rd_rMax {K : PySem.W.Frag} {vs : List V} {H : Hp} {Q : VK} : rMax K vs H Q = (∃ (a : Addr) (ns : List Int), vs = [V.ref a] ∧ SqL K H a (ns.map V.int) ∧ 0 < ns.length ∧ ∀ m, m ∈ ns → (∀ y, y ∈ ns → y ≤ m) → Q (.int m) H) := rfl
theorem rd_rIxT {K : PySem.W.Frag} {x y : V} {H : Hp} {Q : VK} : rIxT K x y H Q = (∃ p xs i v, x = .ref p ∧ y = .int i ∧ SqT K H p xs ∧ atI xs i = some v ∧ Q v H) := rfl
theorem rd_tSortKey {K : PySem.W.Frag} {P : Addr} {lpos : Pos} {q fld : Str} {te : TA} {σ : St} {H : Hp} {Q : VK} : tSortKey K P lpos q fld te σ H Q = (te σ H fun vs H1 => ∃ (l : Addr) (as : List Addr) (ks : List Int), vs = [.ref l] ∧ lstOf (H1 l) = some (as.map V.ref) ∧ TabIs P lpos q H1 ∧ Paired (KeyAt K H1 fld) as ks ∧
  ∀ (H2 : Hp) (D : Addr) (ps : List (Int × Addr)), LamMade P lpos q H1 H2 → H2 D = none → ps.Perm (ks.zip as) → ps.Pairwise (fun x y => x.1 ≤ y.1) → Q (.ref D) (upd H2 D (.lst (ps.map fun p => V.ref p.2)))) := rfl
section
variable {X : Cx}
def rIxQ (K : PySem.W.Frag) (xs : List V) : R2 := fun x y H Q => ∃ p i v, x = .ref p ∧ y = .int i ∧ SqL K H p xs ∧ atI xs i = some v ∧ Q v H
theorem rd_rIxQ {K : PySem.W.Frag} {xs : List V} {x y : V} {H : Hp} {Q : VK} : rIxQ K xs x y H Q = (∃ p i v, x = .ref p ∧ y = .int i ∧ SqL K H p xs ∧ atI xs i = some v ∧ Q v H) := rfl
theorem ix_sq (xs : List V) : IxR X (rIxQ X.K xs) := fun value slice pins s σ H x y v u Q I rx ry ⟨p, i, z, h1, h2, h3, h4, q⟩ hs => ix_list value slice pins s σ H x y v u Q I rx ry ⟨p, xs, i, z, h1, h2, h3, h4, q⟩ hs
def rLenQ (K : PySem.W.Frag) (xs : List V) : List V → Hp → VK → Prop := fun vs H Q => ∃ p, vs = [.ref p] ∧ SqL K H p xs ∧ Q (.int xs.length) H
theorem rd_rLenQ {K : PySem.W.Frag} {xs vs : List V} {H : Hp} {Q : VK} : rLenQ K xs vs H Q = (∃ p, vs = [.ref p] ∧ SqL K H p xs ∧ Q (.int xs.length) H) := rfl
theorem call_len_q (ys : List V) : CallR X (.builtin "len") (rLenQ X.K ys) := fun pins s σ H xs us Q I r ⟨p, h1, h2, q⟩ => call_len_seq pins s σ H xs us Q I r ⟨p, ys, h1, .inl h2, q⟩
def rSlQ (K : PySem.W.Frag) (xs : List V) : V → Option Int → Option Int → Hp → VK → Prop := fun x lo hi H Q => ∃ a, x = .ref a ∧ SqL K H a xs ∧ ∀ p, H p = none → Q (.ref p) (upd H p (.lst (cutV xs lo hi)))
theorem rd_rSlQ {K : PySem.W.Frag} {xs : List V} {x : V} {lo hi : Option Int} {H : Hp} {Q : VK} : rSlQ K xs x lo hi H Q = (∃ a, x = .ref a ∧ SqL K H a xs ∧ ∀ p, H p = none → Q (.ref p) (upd H p (.lst (cutV xs lo hi)))) := rfl
theorem sl_sq (xs : List V) : SlR X (rSlQ X.K xs) := fun pins s σ H x v vl vu lo hi sl Q I rx hs pl pu ⟨a, h1, h2, q⟩ => sl_list pins s σ H x v vl vu lo hi sl Q I rx hs pl pu ⟨a, xs, h1, h2, q⟩
end
end L2
namespace Mx
open Kct9
def Chain (l : List Note) : Prop := l.Pairwise fun a b => ends a ≤ b.start
structure WfP (all : Nat) (p : Player) : Prop where
  sh1 : -24 ≤ p.shift
  sh2 : p.shift ≤ 24
  low0 : 0 ≤ p.low
  lt : p.low ≤ p.top
  top : p.top ≤ 127
  len : p.notes.length ≤ 256
  ch : Chain p.notes
  pos : ∀ n ∈ p.notes, 0 < n.long
  en : ∀ n ∈ p.notes, ends n ≤ all
  rg : ∀ n ∈ p.notes, p.low ≤ n.high ∧ n.high ≤ p.top
structure Wf (s : Abs) : Prop where
  blen : s.bars.length ≤ 64
  bars : ∀ b ∈ s.bars, 1 ≤ b ∧ b ≤ 64
  plen : s.players.length ≤ 16
  pl : ∀ p ∈ s.players, WfP (total s) p
theorem sumOf_append (l m : List Nat) : sumOf (l ++ m) = sumOf l + sumOf m := by
  induction l with
  | nil => simp [sumOf]
  | cons a l ih => simp [sumOf, ih, Nat.add_assoc]
theorem sumOf_le {l : List Nat} (h : ∀ b ∈ l, b ≤ 64) : sumOf l ≤ 64 * l.length := by
  induction l with
  | nil => simp [sumOf]
  | cons a l ih =>
    have h1 := h a (by simp)
    have h2 := ih fun b hb => h b (by simp [hb])
    simp only [sumOf, List.length_cons]
    omega
theorem Wf.tot {s : Abs} (w : Wf s) : total s ≤ 4096 := by
  have h := sumOf_le (l := s.bars) fun b hb => (w.bars b hb).2
  have := w.blen
  unfold total
  omega
theorem WfP.mono {a b : Nat} {p : Player} (w : WfP a p) (h : a ≤ b) : WfP b p :=
  ⟨w.sh1, w.sh2, w.low0, w.lt, w.top, w.len, w.ch, w.pos, fun n hn => Nat.le_trans (w.en n hn) h, w.rg⟩
theorem wf_first : Wf first := ⟨by decide, by simp [first], by decide, by simp [first]⟩
theorem insert_mem {n m : Note} : ∀ {l : List Note}, m ∈ Kct9.insert n l ↔ m = n ∨ m ∈ l
  | [] => by simp [Kct9.insert]
  | a :: l => by
    unfold Kct9.insert
    split
    · simp
    · simp [insert_mem (l := l)]
      constructor
      · rintro (h | h | h)
        · exact .inr (.inl h)
        · exact .inl h
        · exact .inr (.inr h)
      · rintro (h | h | h)
        · exact .inr (.inl h)
        · exact .inl h
        · exact .inr (.inr h)
theorem insert_len (n : Note) : ∀ l : List Note, (Kct9.insert n l).length = l.length + 1
  | [] => rfl
  | a :: l => by
    unfold Kct9.insert
    split
    · rfl
    · simp [insert_len n l]
theorem insert_chain {n : Note} (hn : 0 < n.long) : ∀ {l : List Note}, Chain l → (∀ m ∈ l, 0 < m.long) → l.any (meets n) = false → Chain (Kct9.insert n l)
  | [], _, _, _ => List.pairwise_singleton _ _
  | a :: l, hc, hp, hm => by
    have hc' := List.pairwise_cons.mp hc
    rw [List.any_cons, Bool.or_eq_false_iff] at hm
    have ha := hp a (by simp)
    have hma : ¬ (n.start < ends a ∧ a.start < ends n) := by
      intro ⟨h1, h2⟩
      have := hm.1
      simp [meets, h1, h2] at this
    unfold Kct9.insert
    split
    · rename_i hlt
      refine List.pairwise_cons.mpr ⟨?_, hc⟩
      intro b hb
      have h1 : ends n ≤ a.start := by
        unfold ends at *
        omega
      rcases List.mem_cons.mp hb with rfl | hb
      · exact h1
      · have := hc'.1 b hb
        unfold ends at *
        omega
    · rename_i hlt
      refine List.pairwise_cons.mpr ⟨?_, insert_chain hn hc'.2 (fun m hm => hp m (by simp [hm])) hm.2⟩
      intro b hb
      rcases insert_mem.mp hb with rfl | hb
      · unfold ends at *
        omega
      · exact hc'.1 b hb
theorem mem_set_or {α : Type} {l : List α} {i : Nat} {x y : α} (h : y ∈ l.set i x) : y = x ∨ y ∈ l := by
  rcases List.mem_or_eq_of_mem_set h with h | h
  · exact .inr h
  · exact .inl h
theorem wf_setAt {s : Abs} {i : Nat} {p : Player} (w : Wf s) (hp : WfP (total s) p) : Wf (setAt s i p) := by
  refine ⟨w.blen, w.bars, by simp [setAt]; exact w.plen, fun q hq => ?_⟩
  rcases mem_set_or hq with rfl | hq
  · exact hp
  · exact w.pl q hq
theorem get_mem {α : Type} {l : List α} {i : Nat} {x : α} (h : l[i]? = some x) : x ∈ l := List.mem_of_getElem? h
def timeOf (bars : List Nat) : Bytes → Nat → Option Nat
  | [], a => some a
  | [_], _ => none
  | x :: n :: r, a => if x = 255 then (match barsFrom bars a n with
      | none => none
      | some k => timeOf bars r (a + k)) else timeOf bars r (a + n)
structure Rev (a : Nat) (l : List Note) : Prop where
  ch : l.Pairwise fun x y => ends y ≤ x.start
  en : ∀ n ∈ l, ends n ≤ a
theorem Rev.mono {a b : Nat} {l : List Note} (h : Rev a l) (hab : a ≤ b) : Rev b l := ⟨h.ch, fun n hn => Nat.le_trans (h.en n hn) hab⟩
theorem taken_time {s : Abs} {p : Player} : ∀ (b : Bytes) (a : Nat) (l r : List Note), taken s p b a l = some r → Rev a l → ∃ t, timeOf s.bars b a = some t ∧ a ≤ t ∧ Rev t r
  | [], a, l, r, h, hl => by
    rw [taken] at h
    cases h
    exact ⟨a, by rw [timeOf], Nat.le_refl _, hl⟩
  | [x], a, l, r, h, hl => by
    rw [taken] at h
    cases h
  | x :: n :: b, a, l, r, h, hl => by
    rw [taken.eq_def] at h
    dsimp only at h
    rw [timeOf]
    by_cases h255 : x = 255
    · rw [if_pos h255] at h ⊢
      cases e : barsFrom s.bars a n with
      | none =>
        rw [e] at h
        cases h
      | some k =>
        rw [e] at h
        obtain ⟨t, h1, h2, h3⟩ := taken_time b (a + k) l r h (hl.mono (by omega))
        exact ⟨t, h1, by omega, h3⟩
    · rw [if_neg h255] at h ⊢
      by_cases h254 : x = 254
      · rw [if_pos h254] at h
        obtain ⟨t, h1, h2, h3⟩ := taken_time b (a + n) l r h (hl.mono (by omega))
        exact ⟨t, h1, by omega, h3⟩
      · rw [if_neg h254] at h
        by_cases h253 : x = 253
        · rw [if_pos h253] at h
          cases l with
          | nil => cases h
          | cons m q =>
            dsimp only at h
            by_cases hm : ends m = a
            · rw [if_pos hm] at h
              have c := List.pairwise_cons.mp hl.ch
              obtain ⟨t, h1, h2, h3⟩ := taken_time b (a + n) _ r h ⟨List.pairwise_cons.mpr ⟨fun y hy => c.1 y hy, c.2⟩, fun y hy => by
                rcases List.mem_cons.mp hy with rfl | hy
                · unfold ends at *
                  dsimp only
                  omega
                · have := hl.en y (by simp [hy])
                  omega⟩
              exact ⟨t, h1, by omega, h3⟩
            · rw [if_neg hm] at h
              cases h
        · rw [if_neg h253] at h
          obtain ⟨t, h1, h2, h3⟩ := taken_time b (a + n) _ r h ⟨List.pairwise_cons.mpr ⟨fun y hy => hl.en y hy, hl.ch⟩, fun y hy => by
                rcases List.mem_cons.mp hy with rfl | hy
                · unfold ends
                  dsimp only
                  omega
                · have := hl.en y hy
                  omega⟩
          exact ⟨t, h1, by omega, h3⟩
def ilen : Item → Nat
  | .rest n => n
  | .note _ n => n
  | .on n => n
def ilens : List Item → Nat
  | [] => 0
  | i :: l => ilen i + ilens l
theorem ilens_app (l m : List Item) : ilens (l ++ m) = ilens l + ilens m := by
  induction l with
  | nil => simp [ilens]
  | cons a l ih => simp [ilens, ih, Nat.add_assoc]
theorem ilens_rest (n : Nat) : ilens (restOf n) = n := by
  unfold restOf
  split
  · rename_i h
    subst h
    rfl
  · rfl
theorem fill_len (p : Player) : ∀ (l : List Note) (a e : Nat), a ≤ e → ilens (fill p l a e) = e - a
  | [], a, e, h => by
    rw [fill, ilens_rest]
  | n :: l, a, e, h => by
    rw [fill]
    by_cases h1 : e ≤ n.start
    · rw [if_pos h1, ilens_rest]
    · rw [if_neg h1]
      by_cases h2 : ends n ≤ a
      · rw [if_pos h2]
        exact fill_len p l a e h
      · rw [if_neg h2]
        dsimp only
        rw [ilens_app, ilens_rest, ilens]
        have hz : (if ends n < e then ends n else e) ≤ e := by split <;> omega
        rw [fill_len p l _ e hz]
        have h3 : ∀ k, ilen (if n.start < a then Item.on k else Item.note (written p n.high) k) = k := by
          intro k
          split <;> rfl
        rw [h3]
        unfold ends at *
        split <;> split <;> omega
def low3 : Item → Prop
  | .note w _ => w < 253
  | _ => True
theorem fill_low {p : Player} (hs : p.shift ≤ 24) (ht : p.top ≤ 127) : ∀ (l : List Note) (a e : Nat), (∀ n ∈ l, n.high ≤ p.top) → ∀ i ∈ fill p l a e, low3 i
  | [], a, e, _ => by
    intro i hi
    rw [fill, restOf] at hi
    split at hi
    · cases hi
    · simp at hi
      subst hi
      trivial
  | n :: l, a, e, h => by
    intro i hi
    rw [fill] at hi
    have hr : ∀ k, i ∈ restOf k → low3 i := by
      intro k hk
      rw [restOf] at hk
      split at hk
      · cases hk
      · simp at hk
        subst hk
        trivial
    split at hi
    · exact hr _ hi
    · split at hi
      · exact fill_low hs ht l a e (fun m hm => h m (by simp [hm])) i hi
      · dsimp only at hi
        rcases List.mem_append.mp hi with hi | hi
        · exact hr _ hi
        · rcases List.mem_cons.mp hi with rfl | hi
          · split
            · trivial
            · show written p n.high < 253
              have := h n (by simp)
              unfold written
              omega
          · exact fill_low hs ht l _ e (fun m hm => h m (by simp [hm])) i hi
theorem time_items {bars : List Nat} (r : Bytes) : ∀ (l : List Item) (a : Nat), (∀ i ∈ l, low3 i) → timeOf bars (l.flatMap itemBytes ++ r) a = timeOf bars r (a + ilens l)
  | [], a, _ => by simp [ilens]
  | i :: l, a, h => by
    have ih := time_items (bars := bars) r l (a + ilen i) fun j hj => h j (by simp [hj])
    have h0 := h i (by simp)
    rw [ilens, ← Nat.add_assoc, ← ih, List.flatMap_cons, List.append_assoc]
    cases i with
    | rest n =>
      show timeOf bars (254 :: n :: _) a = _
      rw [timeOf, if_neg (by decide)]
      rfl
    | note w n =>
      show timeOf bars (w :: n :: _) a = _
      rw [timeOf, if_neg (by have : w < 253 := h0; omega)]
      rfl
    | on n =>
      show timeOf bars (253 :: n :: _) a = _
      rw [timeOf, if_neg (by decide)]
      rfl
theorem barsFrom_at (k : Nat) : ∀ (l m : List Nat), (∀ b ∈ l, 1 ≤ b) → k ≤ m.length → barsFrom (l ++ m) (sumOf l) k = some (sumOf (m.take k))
  | [], m, _, h => by
    show barsFrom m 0 k = _
    rw [barsFrom, if_neg (by omega)]
  | b :: l, m, hl, h => by
    have hb := hl b (by simp)
    have e : sumOf (b :: l) = (b - 1 + sumOf l) + 1 := by
      rw [sumOf]
      omega
    rw [e]
    show barsFrom (b :: (l ++ m)) (b - 1 + sumOf l + 1) k = _
    rw [barsFrom, if_neg (by omega)]
    have e2 : b - 1 + sumOf l + 1 - b = sumOf l := by omega
    rw [e2]
    exact barsFrom_at k l m (fun c hc => hl c (by simp [hc])) h
theorem time_write {p : Player} (hs : p.shift ≤ 24) (ht : p.top ≤ 127) (hh : ∀ n ∈ p.notes, n.high ≤ p.top) (bars : List Nat) (hb : ∀ b ∈ bars, 1 ≤ b) : ∀ (l em pre : List Nat), bars = pre ++ em ++ l →
    timeOf bars (write em.length (barsOf p l (sumOf pre + sumOf em))) (sumOf pre) = some (sumOf bars)
  | [], em, pre, e => by
    rw [barsOf, write]
    have e' : bars = pre ++ em := by rw [e, List.append_nil]
    split
    · rename_i h0
      have : em = [] := List.eq_nil_of_length_eq_zero h0
      subst this
      rw [timeOf, e', List.append_nil]
    · rw [timeOf, if_pos rfl]
      rw [e', barsFrom_at em.length pre em (fun b hb' => hb b (by rw [e']; simp [hb'])) (Nat.le_refl _), List.take_length]
      dsimp only
      rw [timeOf, sumOf_append]
  | n :: l, em, pre, e => by
    rw [barsOf, write]
    by_cases h1 : isEmpty (fill p p.notes (sumOf pre + sumOf em) (sumOf pre + sumOf em + n)) = true
    · rw [if_pos h1]
      have ih := time_write hs ht hh bars hb l (em ++ [n]) pre (by rw [e]; simp)
      rw [List.length_append, sumOf_append] at ih
      have e3 : sumOf pre + (sumOf em + sumOf [n]) = sumOf pre + sumOf em + n := by simp [sumOf, Nat.add_assoc]
      rw [e3] at ih
      exact ih
    · rw [if_neg h1]
      have ih := time_write hs ht hh bars hb l [] (pre ++ em ++ [n]) (by rw [e]; simp)
      have e3 : sumOf (pre ++ em ++ [n]) + sumOf [] = sumOf pre + sumOf em + n := by
        rw [sumOf_append, sumOf_append]
        simp [sumOf]
      rw [e3] at ih
      have e4 : sumOf (pre ++ em ++ [n]) = sumOf pre + sumOf em + n := by
        rw [sumOf_append, sumOf_append]
        simp [sumOf]
      rw [e4] at ih
      have hl := fill_low hs ht p.notes (sumOf pre + sumOf em) (sumOf pre + sumOf em + n) hh
      have hlen := fill_len p p.notes (sumOf pre + sumOf em) (sumOf pre + sumOf em + n) (by omega)
      have body : timeOf bars ((fill p p.notes (sumOf pre + sumOf em) (sumOf pre + sumOf em + n)).flatMap itemBytes ++ write 0 (barsOf p l (sumOf pre + sumOf em + n))) (sumOf pre + sumOf em) = some (sumOf bars) := by
        rw [time_items _ _ _ hl, hlen]
        have : sumOf pre + sumOf em + (sumOf pre + sumOf em + n - (sumOf pre + sumOf em)) = sumOf pre + sumOf em + n := by omega
        rw [this]
        exact ih
      split
      · rename_i h0
        have : em = [] := List.eq_nil_of_length_eq_zero h0
        subst this
        simpa [sumOf] using body
      · rw [List.append_assoc]
        show timeOf bars (255 :: em.length :: _) _ = _
        rw [timeOf, if_pos rfl]
        have e' : bars = pre ++ (em ++ n :: l) := by rw [e]; simp
        rw [show barsFrom bars (sumOf pre) em.length = some (sumOf em) by
          rw [e', barsFrom_at em.length pre _ (fun b hb' => hb b (by rw [e']; simp [hb'])) (by simp)]
          simp]
        exact body
theorem same_eq : ∀ {a b : Bytes}, same a b = true → a = b
  | [], [], _ => rfl
  | [], _ :: _, h => by simp [same] at h
  | _ :: _, [], h => by simp [same] at h
  | x :: a, y :: b, h => by
    rw [same, Bool.and_eq_true] at h
    rw [eq_of_beq h.1, same_eq h.2]
theorem same_refl : ∀ a : Bytes, same a a = true
  | [] => rfl
  | x :: a => by rw [same, same_refl a]; simp
theorem notesOf_wf {s : Abs} {p : Player} {b : Bytes} {l : List Note} (w : Wf s) (wp : WfP (total s) p) (h : notesOf s p b = some l) : WfP (total s) { p with notes := l } := by
  unfold notesOf at h
  cases e : taken s p b 0 [] with
  | none =>
    rw [e] at h
    cases h
  | some r =>
    rw [e] at h
    dsimp only at h
    split at h
    · rename_i hc
      cases h
      obtain ⟨h1, h2, h3⟩ := hc
      obtain ⟨t, t1, t2, t3⟩ := taken_time b 0 [] r e ⟨List.Pairwise.nil, by simp⟩
      have hall : ∀ n ∈ r.reverse, 0 < n.long ∧ p.low ≤ n.high ∧ n.high ≤ p.top := by
        intro n hn
        have := List.all_eq_true.mp h2 n hn
        simp [inRange] at this
        exact this
      have tt : t = total s := by
        have q := time_write (p := { p with notes := r.reverse }) wp.sh2 wp.top (fun n hn => (hall n hn).2.2) s.bars (fun b hb => (w.bars b hb).1) s.bars [] [] (by simp)
        have e5 : part s { p with notes := r.reverse } = b := same_eq h3
        unfold part at e5
        rw [show sumOf ([] : List Nat) + sumOf [] = 0 from rfl, List.length_nil, e5, show sumOf ([] : List Nat) = 0 from rfl, t1] at q
        exact Option.some.inj q
      refine ⟨wp.sh1, wp.sh2, wp.low0, wp.lt, wp.top, h1, ?_, fun n hn => (hall n hn).1, fun n hn => ?_, fun n hn => (hall n hn).2⟩
      · exact List.pairwise_reverse.mpr t3.ch
      · rw [← tt]
        exact t3.en n (List.mem_reverse.mp hn)
    · cases h
theorem wf_step {s : Abs} (w : Wf s) (c : Call) : Wf (step s c).1 := by
  cases c with
  | begin_ => exact wf_first
  | bar n =>
    unfold step
    dsimp only
    split
    · exact w
    · rename_i h
      split
      · exact w
      · rename_i h2
        unfold BARS LONG at *
        refine ⟨by simp; omega, fun b hb => ?_, w.plen, fun p hp => (w.pl p hp).mono ?_⟩
        · rcases List.mem_append.mp hb with hb | hb
          · exact w.bars b hb
          · simp at hb
            subst hb
            omega
        · show sumOf s.bars ≤ sumOf (s.bars ++ [n])
          rw [sumOf_append]
          omega
  | player sh a z =>
    unfold step
    dsimp only
    split
    · exact w
    · rename_i h
      split
      · exact w
      · rename_i h2
        unfold PLAYERS at *
        refine ⟨w.blen, w.bars, by simp; omega, fun p hp => ?_⟩
        rcases List.mem_append.mp hp with hp | hp
        · exact w.pl p hp
        · simp at hp
          subst hp
          exact ⟨by simp only; omega, by simp only; omega, by simp only; omega, by simp only; omega, by simp only; omega, by simp, List.Pairwise.nil, by simp, by simp, by simp⟩
  | note i a n h =>
    unfold step
    dsimp only
    split
    · exact w
    · rename_i p hp
      have wp := w.pl p (get_mem hp)
      split
      · exact w
      · rename_i h1
        split
        · exact w
        · rename_i h2
          split
          · exact w
          · rename_i h3
            split
            · exact w
            · rename_i h4
              unfold NOTES at *
              have h3' : p.notes.any (meets ⟨a, n, h⟩) = false := by simpa using h3
              have h2' : p.low ≤ (h : Int) ∧ (h : Int) ≤ p.top := by simpa [inRange] using h2
              refine wf_setAt w ⟨wp.sh1, wp.sh2, wp.low0, wp.lt, wp.top, by simp only; rw [insert_len]; omega, insert_chain (by simp only; omega) wp.ch wp.pos h3', ?_, ?_, ?_⟩
              · intro m hm
                rcases insert_mem.mp hm with rfl | hm
                · simp only
                  omega
                · exact wp.pos m hm
              · intro m hm
                rcases insert_mem.mp hm with rfl | hm
                · unfold ends
                  simp only
                  omega
                · exact wp.en m hm
              · intro m hm
                rcases insert_mem.mp hm with rfl | hm
                · exact h2'
                · exact wp.rg m hm
  | drop i a =>
    unfold step
    dsimp only
    split
    · exact w
    · rename_i p hp
      have wp := w.pl p (get_mem hp)
      split
      · exact w
      · refine wf_setAt w ⟨wp.sh1, wp.sh2, wp.low0, wp.lt, wp.top, Nat.le_trans (List.length_filter_le _ _) wp.len, wp.ch.filter _, fun n hn => wp.pos n (List.mem_filter.mp hn).1, fun n hn => wp.en n (List.mem_filter.mp hn).1, fun n hn => wp.rg n (List.mem_filter.mp hn).1⟩
  | part i =>
    unfold step
    dsimp only
    split <;> exact w
  | read i b =>
    unfold step
    dsimp only
    split
    · exact w
    · rename_i p hp
      have wp := w.pl p (get_mem hp)
      split
      · exact w
      · rename_i l hl
        exact wf_setAt w (notesOf_wf w wp hl)
  | pages i m r =>
    unfold step
    dsimp only
    split
    · exact w
    · split <;> exact w
  | sounds t =>
    unfold step
    dsimp only
    split <;> exact w
  | move k =>
    unfold step
    dsimp only
    split
    · exact w
    · rename_i h
      refine ⟨w.blen, w.bars, by simp; exact w.plen, fun q hq => ?_⟩
      obtain ⟨p, hp, rfl⟩ := List.mem_map.mp hq
      have wp := w.pl p hp
      have hr : ∀ n ∈ p.notes, p.low ≤ n.high + k ∧ n.high + k ≤ p.top := by
        intro n hn
        have h0 : (s.players.any fun p => (moved k p).notes.any fun n => !inRange p n.high) = false := by simpa using h
        rw [List.any_eq_false] at h0
        have h1 := h0 p hp
        simp [moved, inRange] at h1
        exact h1 n hn
      refine ⟨wp.sh1, wp.sh2, wp.low0, wp.lt, wp.top, by simp [moved]; exact wp.len, ?_, ?_, ?_, ?_⟩
      · exact List.pairwise_map.mpr (wp.ch.imp fun h => h)
      · intro n hn
        obtain ⟨m, hm, rfl⟩ := List.mem_map.mp hn
        exact wp.pos m hm
      · intro n hn
        obtain ⟨m, hm, rfl⟩ := List.mem_map.mp hn
        exact wp.en m hm
      · intro n hn
        obtain ⟨m, hm, rfl⟩ := List.mem_map.mp hn
        exact hr m hm
  | parallels i j =>
    unfold step
    dsimp only
    split
    · split <;> exact w
    · exact w
end Mx
set_option linter.all false
namespace Mm
open Kct9 PySem
theorem sounds_none {l : List Note} {t : Nat} (h : ∀ n ∈ l, ¬ (n.start ≤ t ∧ t < ends n)) : soundsAt l t = none := by
  unfold soundsAt
  have : l.find? (fun n => decide (n.start ≤ t) && decide (t < ends n)) = none := by
    rw [List.find?_eq_none]
    intro n hn
    simpa using h n hn
  rw [this]
  rfl
theorem sounds_at {l : List Note} (hc : Mx.Chain l) : ∀ {i t : Nat} {n : Note}, l[i]? = some n → n.start ≤ t → t < ends n → soundsAt l t = some n.high := by
  induction l with
  | nil => intro i t n h; simp at h
  | cons a l ih =>
    intro i t n h h1 h2
    have hc' := List.pairwise_cons.mp hc
    cases i with
    | zero =>
      simp at h
      subst h
      simp [soundsAt, List.find?_cons, h1, h2]
    | succ i =>
      have hn : n ∈ l := List.mem_of_getElem? (by simpa using h)
      have := hc'.1 n hn
      have e : (decide (a.start ≤ t) && decide (t < ends a)) = false := by
        simp
        intro _
        omega
      have r := ih hc'.2 (by simpa using h) h1 h2
      unfold soundsAt at r ⊢
      rw [List.find?_cons, e]
      exact r
theorem paired_of {α β : Type} {R : α → β → Prop} : ∀ {l : List α} {m : List β}, l.length = m.length → (∀ (j : Nat) a b, l[j]? = some a → m[j]? = some b → R a b) → Paired R l m
  | [], [], _, _ => .nil
  | [], _ :: _, h, _ => by simp at h
  | _ :: _, [], h, _ => by simp at h
  | a :: l, b :: m, h, k => .cons (k 0 a b rfl rfl) (paired_of (by simpa using h) fun j x y hx hy => k (j + 1) x y (by simpa using hx) (by simpa using hy))
theorem paired_map {α β γ : Type} {R : α → γ → Prop} {f : β → γ} {l : List α} {m : List β} (h : Paired (fun a b => R a (f b)) l m) : Paired R l (m.map f) := by
  induction h with
  | nil => exact .nil
  | cons r _ ih => exact .cons r ih
theorem paired_len {α β : Type} {R : α → β → Prop} {l : List α} {m : List β} (h : Paired R l m) : l.length = m.length := by
  induction h with
  | nil => rfl
  | cons r _ ih => simp [ih]
def ins2 (k : Int) (b : Nat) : List (Int × Nat) → List (Int × Nat)
  | [] => [(k, b)]
  | x :: l => if k < x.1 then (k, b) :: x :: l else x :: ins2 k b l
theorem ins2_perm (k : Int) (b : Nat) : ∀ l, (ins2 k b l).Perm (l ++ [(k, b)])
  | [] => .refl _
  | x :: l => by
    unfold ins2
    split
    · exact (List.perm_append_comm (l₁ := x :: l) (l₂ := [(k, b)])).symm
    · exact (ins2_perm k b l).cons x
theorem ins2_sorted (k : Int) (b : Nat) : ∀ l : List (Int × Nat), l.Pairwise (fun x y => x.1 ≤ y.1) → (ins2 k b l).Pairwise (fun x y => x.1 ≤ y.1)
  | [], _ => List.pairwise_singleton _ _
  | x :: l, h => by
    have h' := List.pairwise_cons.mp h
    unfold ins2
    split
    · refine List.pairwise_cons.mpr ⟨fun y hy => ?_, h⟩
      rcases List.mem_cons.mp hy with rfl | hy
      · show k ≤ _; omega
      · have := h'.1 y hy
        show k ≤ _
        omega
    · refine List.pairwise_cons.mpr ⟨fun y hy => ?_, ins2_sorted k b l h'.2⟩
      rcases List.mem_append.mp ((ins2_perm k b l).mem_iff.mp hy) with hy | hy
      · exact h'.1 y hy
      · simp at hy
        subst hy
        show x.1 ≤ k
        omega
theorem ins2_paired {R : Nat → Note → Prop} {b : Nat} {n : Note} (hb : R b n) : ∀ {as : List Nat} {ns : List Note}, Paired R as ns → Paired R ((ins2 n.start b ((ns.map fun m => (m.start : Int)).zip as)).map (·.2)) (Kct9.insert n ns)
  | _, _, .nil => .cons hb .nil
  | _, _, .cons (a := a) (b := m) (l₁ := as) (l₂ := ns) r h => by
    have key : ((m :: ns).map fun m => (m.start : Int)).zip (a :: as) = ((m.start : Int), a) :: (ns.map fun m => (m.start : Int)).zip as := rfl
    rw [key, ins2, Kct9.insert]
    have hz : ((ns.map fun m => (m.start : Int)).zip as).map (·.2) = as := by
      rw [List.map_snd_zip]
      rw [List.length_map, paired_len h]
      exact Nat.le_refl _
    by_cases hlt : n.start < m.start
    · rw [if_pos (show (n.start : Int) < _ by simpa using hlt), if_pos hlt]
      rw [List.map_cons, List.map_cons, hz]
      exact .cons hb (.cons r h)
    · rw [if_neg (show ¬ (n.start : Int) < _ by simpa using hlt), if_neg hlt]
      exact .cons r (ins2_paired hb h)
theorem sorted_insert {R : Nat → Note → Prop} {as : List Nat} {b : Nat} {ns : List Note} {n : Note} {ps : List (Int × Nat)} (h : Paired R (as ++ [b]) (ns ++ [n])) (hc : Mx.Chain ns) (hpos : ∀ m ∈ ns, 0 < m.long) (hne : ∀ m ∈ ns, m.start ≠ n.start)
    (pp : ps.Perm (((ns ++ [n]).map fun m => (m.start : Int)).zip (as ++ [b]))) (pw : ps.Pairwise fun x y => x.1 ≤ y.1) : Paired R (ps.map (·.2)) (Kct9.insert n ns) ∧ (ps.map (·.2)).Perm (as ++ [b]) := by
  have hlen : as.length = ns.length := by
    have := paired_len h
    simp at this
    exact this
  have split2 : ∀ {l : List Nat} {m : List Note}, Paired R (l ++ [b]) (m ++ [n]) → l.length = m.length → Paired R l m ∧ R b n := by
    intro l
    induction l with
    | nil =>
      intro m hp hl
      cases m with
      | nil =>
        cases hp with
        | cons r _ => exact ⟨.nil, r⟩
      | cons x m => simp at hl
    | cons a l ih =>
      intro m hp hl
      cases m with
      | nil => simp at hl
      | cons x m =>
        cases hp with
        | cons r hp =>
          obtain ⟨h1, h2⟩ := ih hp (by simpa using hl)
          exact ⟨.cons r h1, h2⟩
  obtain ⟨hp, hb⟩ := split2 h hlen
  have ez : ((ns ++ [n]).map fun m => (m.start : Int)).zip (as ++ [b]) = (ns.map fun m => (m.start : Int)).zip as ++ [((n.start : Int), b)] := by
    rw [List.map_append, List.zip_append (by rw [List.length_map, hlen])]
    rfl
  rw [ez] at pp
  have hsorted : ((ns.map fun m => (m.start : Int)).zip as).Pairwise (fun x y => x.1 < y.1) := by
    have h1 : (ns.map fun m => (m.start : Int)).Pairwise (· < ·) := by
      rw [List.pairwise_map]
      refine hc.imp_of_mem fun {x y} hx hy hxy => ?_
      have := hpos x hx
      unfold ends at hxy
      omega
    have h2 : (((ns.map fun m => (m.start : Int)).zip as).map (·.1)).Pairwise (· < ·) := by
      rw [List.map_fst_zip]
      · exact h1
      · rw [List.length_map, hlen]
        exact Nat.le_refl _
    exact List.pairwise_map.mp h2
  have pe : ps = ins2 n.start b ((ns.map fun m => (m.start : Int)).zip as) := by
    refine List.Perm.eq_of_pairwise (le := fun x y => x.1 ≤ y.1) (fun x y hx hy h1 h2 => ?_) pw (ins2_sorted _ _ _ (hsorted.imp fun h => by omega)) (pp.trans (ins2_perm _ _ _).symm)
    have hx' := pp.mem_iff.mp hx
    have hy' := (ins2_perm _ _ _).mem_iff.mp hy
    have exy : x.1 = y.1 := by omega
    have hnk : ∀ z ∈ (ns.map fun m => (m.start : Int)).zip as, z.1 ≠ (n.start : Int) := by
      intro z hz
      obtain ⟨k1, a1⟩ := z
      have := (List.of_mem_zip hz).1
      obtain ⟨m, hm, e⟩ := List.mem_map.mp this
      have := hne m hm
      simp only at e ⊢
      omega
    rcases List.mem_append.mp hx' with hx' | hx' <;> rcases List.mem_append.mp hy' with hy' | hy'
    · obtain ⟨i, hi⟩ := List.getElem?_of_mem hx'
      obtain ⟨j, hj⟩ := List.getElem?_of_mem hy'
      obtain ⟨li, ei⟩ := List.getElem?_eq_some_iff.mp hi
      obtain ⟨lj, ej⟩ := List.getElem?_eq_some_iff.mp hj
      have hp' := List.pairwise_iff_getElem.mp hsorted
      rcases Nat.lt_trichotomy i j with h | h | h
      · have := hp' i j li lj h
        rw [ei, ej] at this
        omega
      · subst h
        rw [ei] at ej
        exact ej
      · have := hp' j i lj li h
        rw [ei, ej] at this
        omega
    · simp at hy'
      have := hnk x hx'
      rw [exy, hy'] at this
      exact absurd rfl this
    · simp at hx'
      have := hnk y hy'
      rw [← exy, hx'] at this
      exact absurd rfl this
    · simp at hx' hy'
      rw [hx', hy']
  constructor
  · rw [pe]
    exact ins2_paired hb hp
  · have := pp.map (·.2)
    rw [List.map_append, List.map_snd_zip (by rw [List.length_map, hlen]; exact Nat.le_refl _)] at this
    exact this
theorem paired_mem {α β : Type} {F G : α → β → Prop} : ∀ {l : List α} {m : List β}, (∀ a ∈ l, ∀ b ∈ m, F a b → G a b) → Paired F l m → Paired G l m
  | _, _, _, .nil => .nil
  | _, _, k, .cons r t => .cons (k _ (by simp) _ (by simp) r) (paired_mem (fun a ha b hb => k a (by simp [ha]) b (by simp [hb])) t)
theorem step_bar (s : Abs) (n : Nat) : step s (.bar n) = if n = 0 ∨ 64 < n then (s, .num (-22)) else if 64 ≤ s.bars.length then (s, .num (-28)) else ({ s with bars := s.bars ++ [n] }, .num s.bars.length) := rfl
theorem step_player (s : Abs) (h : Int) (a z : Nat) : step s (.player h a z) = if h < -24 ∨ 24 < h ∨ z < a ∨ 127 < z then (s, .num (-22)) else if 16 ≤ s.players.length then (s, .num (-28)) else ({ s with players := s.players ++ [⟨h, a, z, []⟩] }, .num s.players.length) := rfl
theorem step_note {s : Abs} {i : Nat} {p : Player} (a n h : Nat) (hp : s.players[i]? = some p) : step s (.note i a n h) = if n = 0 ∨ total s < a + n then (s, .num (-22)) else if inRange p h = false then (s, .num (-34)) else if p.notes.any (meets ⟨a, n, h⟩) = true then (s, .num (-17)) else if 256 ≤ p.notes.length then (s, .num (-28)) else
        (setAt s i { p with notes := Kct9.insert ⟨a, n, h⟩ p.notes }, .num (p.notes.length + 1)) := by
  unfold Kct9.step
  simp only [hp]
  rfl
theorem step_move (s : Abs) (k : Int) : Kct9.step s (.move k) = if s.players.any (fun p => (moved k p).notes.any fun n => !inRange p n.high) = true then (s, .num (-34)) else ({ s with players := s.players.map (moved k) }, .num 0) := rfl
theorem move_all_any (s : Abs) (k : Int) : ((s.players.map fun p => p.notes.all fun n => inRange p (n.high + k)).all id = false) ↔ (s.players.any (fun p => (moved k p).notes.any fun n => !inRange p n.high) = true) := by
  rw [List.all_eq_false, List.any_eq_true]
  constructor
  · rintro ⟨b, hb, h⟩
    obtain ⟨p, hp, rfl⟩ := List.mem_map.mp hb
    refine ⟨p, hp, ?_⟩
    have h' : (p.notes.all fun n => inRange p (n.high + k)) = false := by simpa using h
    obtain ⟨n, hn, h2⟩ := List.all_eq_false.mp h'
    exact List.any_eq_true.mpr ⟨{ n with high := n.high + k }, List.mem_map_of_mem hn, by simpa using h2⟩
  · rintro ⟨p, hp, h⟩
    obtain ⟨m, hm, h2⟩ := List.any_eq_true.mp h
    obtain ⟨n, hn, rfl⟩ := List.mem_map.mp hm
    refine ⟨_, List.mem_map_of_mem hp, ?_⟩
    have : (p.notes.all fun n => inRange p (n.high + k)) = false := List.all_eq_false.mpr ⟨n, hn, by simpa using h2⟩
    simp [this]
theorem fill_turn {p : Player} {n : Note} {l : List Note} {a e : Nat} (h1 : n.start < e) (h2 : a < ends n) :
    fill p (n :: l) a e = restOf (max n.start a - a) ++ (if n.start < a then Item.on (min (ends n) e - max n.start a) else Item.note (written p n.high) (min (ends n) e - max n.start a)) :: fill p l (min (ends n) e) e := by
  rw [fill, if_neg (by omega), if_neg (by omega)]
  have e1 : (if a < n.start then n.start else a) = max n.start a := by
    split <;> omega
  have e2 : (if ends n < e then ends n else e) = min (ends n) e := by
    split <;> omega
  simp only [e1, e2]
theorem fill_stop {p : Player} {l : List Note} {a e : Nat} (h : ∀ n l', l = n :: l' → e ≤ n.start) : fill p l a e = restOf (e - a) := by
  cases l with
  | nil => rw [fill]
  | cons n l => rw [fill, if_pos (h n l rfl)]
theorem fill_skip {p : Player} {a e : Nat} : ∀ {f : Nat} {l : List Note}, a < e → (∀ n ∈ l.take f, ends n ≤ a) → fill p l a e = fill p (l.drop f) a e
  | 0, l, _, _ => rfl
  | f + 1, [], _, _ => rfl
  | f + 1, n :: l, h, k => by
    have h0 := k n (by simp)
    rw [fill, if_neg (by unfold ends at h0; omega), if_pos h0, List.drop_succ_cons]
    exact fill_skip h fun m hm => k m (by simp [hm])
theorem fill_len2 (p : Player) : ∀ (l : List Note) (a e : Nat), (fill p l a e).length ≤ 2 * l.length + 1
  | [], a, e => by
    rw [fill, restOf]
    split <;> simp
  | n :: l, a, e => by
    rw [fill]
    have hr : ∀ k, (restOf k).length ≤ 1 := fun k => by
      rw [restOf]
      split <;> simp
    split
    · have := hr (e - a)
      simp only [List.length_cons]
      omega
    · split
      · have := fill_len2 p l a e
        simp only [List.length_cons]
        omega
      · simp only [List.length_append, List.length_cons]
        have h1 := hr ((if a < n.start then n.start else a) - a)
        have h2 := fill_len2 p l (if ends n < e then ends n else e) e
        omega
theorem isEmpty_iff {l : List Item} : isEmpty l = true ↔ ∃ n, l = [.rest n] := by
  constructor
  · intro h
    match l, h with
    | [.rest n], _ => exact ⟨n, rfl⟩
  · rintro ⟨n, rfl⟩
    rfl
def isRest : Item → Bool
  | .rest _ => true
  | _ => false
theorem not_empty {d l : List Item} {it : Item} (h : isRest it = false) : isEmpty (d ++ it :: l) = false := by
  cases e : isEmpty (d ++ it :: l) with
  | false => rfl
  | true =>
    obtain ⟨n, hn⟩ := isEmpty_iff.mp e
    have : it ∈ [Item.rest n] := by rw [← hn]; simp
    simp at this
    subst this
    cases h
theorem barsOf_len (p : Player) : ∀ (l : List Nat) (a : Nat), (barsOf p l a).length = l.length
  | [], _ => rfl
  | n :: l, a => by simp [barsOf, barsOf_len p l]
theorem sumOf_take_succ {l : List Nat} {i n : Nat} (h : l[i]? = some n) : sumOf (l.take (i + 1)) = sumOf (l.take i) + n := by
  rw [List.take_succ, h, Mx.sumOf_append]
  simp [sumOf]
theorem barsOf_get (p : Player) : ∀ {l : List Nat} {a i n : Nat}, l[i]? = some n → (barsOf p l a)[i]? = some (fill p p.notes (a + sumOf (l.take i)) (a + sumOf (l.take i) + n))
  | [], a, i, n, h => by simp at h
  | m :: l, a, 0, n, h => by
    simp at h
    subst h
    simp [barsOf, sumOf]
  | m :: l, a, i + 1, n, h => by
    have := barsOf_get p (l := l) (a := a + m) (i := i) (n := n) (by simpa using h)
    simp only [barsOf, List.getElem?_cons_succ, List.take_succ_cons, sumOf]
    rw [this]
    simp only [Nat.add_assoc]
theorem write_len {N : Nat} : ∀ (l : List (List Item)) (k : Nat), (∀ b ∈ l, b.length ≤ N) → (write k l).length ≤ l.length * (2 * N + 2) + 2
  | [], k, _ => by
    rw [write]
    split <;> simp
  | b :: l, k, h => by
    rw [write]
    have h0 := h b (by simp)
    have h1 := fun k => write_len l k fun x hx => h x (by simp [hx])
    have e : (b :: l).length * (2 * N + 2) = l.length * (2 * N + 2) + (2 * N + 2) := by
      rw [List.length_cons, Nat.succ_mul]
    have hb : (b.flatMap itemBytes).length = 2 * b.length := by
      clear h h0 h1 e
      induction b with
      | nil => rfl
      | cons x b ih =>
        rw [List.flatMap_cons, List.length_append, ih]
        cases x <;> simp [itemBytes] <;> omega
    rw [e]
    split
    · have := h1 (k + 1)
      omega
    · rw [List.length_append, List.length_append, hb]
      have h2 := h1 0
      split <;> simp <;> omega
theorem paired_snoc_inv {α β : Type} {R : α → β → Prop} {a : α} {b : β} : ∀ {l : List α} {m : List β}, Paired R (l ++ [a]) (m ++ [b]) → Paired R l m ∧ R a b
  | [], [], h => by
    cases h with
    | cons r _ => exact ⟨.nil, r⟩
  | [], x :: m, h => by
    have := paired_len h
    simp at this
  | x :: l, [], h => by
    have := paired_len h
    simp at this
  | x :: l, y :: m, h => by
    cases h with
    | cons r t =>
      obtain ⟨h1, h2⟩ := paired_snoc_inv t
      exact ⟨.cons r h1, h2⟩
end Mm
set_option linter.all false
namespace Mm
open Kct9
def gB (t : Nat) (a : Nat) (n : Note) : Nat := if n.start < t then (if ends n < t then (if a < ends n then ends n else a) else t) else a
def gH (t : Nat) (a : Nat) (n : Note) : Nat := if t < ends n then (if n.start < t then t else if n.start < a then n.start else a) else a
theorem before_eq (l : List Note) (t : Nat) : before l t = t - l.foldl (gB t) 0 := rfl
theorem behind_eq (l : List Note) (t all : Nat) : behind l t all = l.foldl (gH t) all - t := rfl
theorem gB_late {t : Nat} : ∀ {l : List Note} {a : Nat}, (∀ n ∈ l, t ≤ n.start) → l.foldl (gB t) a = a
  | [], _, _ => rfl
  | n :: l, a, h => by
    rw [List.foldl_cons]
    have h0 := h n (by simp)
    have e : gB t a n = a := by
      unfold gB
      rw [if_neg (by omega)]
    rw [e]
    exact gB_late fun m hm => h m (by simp [hm])
theorem gB_early {t : Nat} : ∀ {l : List Note} {a : Nat} {z : Note}, Mx.Chain (l ++ [z]) → (∀ n ∈ l ++ [z], 0 < n.long) → (∀ n ∈ l ++ [z], n.start < t) → (∀ n ∈ l ++ [z], a ≤ n.start) → (l ++ [z]).foldl (gB t) a = min (ends z) t
  | [], a, z, _, hp, hs, ha => by
    have h1 := hs z (by simp)
    have h2 := ha z (by simp)
    have h3 := hp z (by simp)
    simp only [List.nil_append, List.foldl_cons, List.foldl_nil]
    unfold gB
    rw [if_pos h1]
    unfold ends
    split
    · split <;> omega
    · omega
  | n :: l, a, z, hc, hp, hs, ha => by
    have hc' := List.pairwise_cons.mp (show (n :: (l ++ [z])).Pairwise _ from hc)
    have h1 := hs n (by simp)
    have h2 := ha n (by simp)
    have h3 := hp n (by simp)
    have hz : z ∈ l ++ [z] := by simp
    have h4 := hc'.1 z hz
    have h5 := hs z (by simp)
    rw [List.cons_append, List.foldl_cons]
    have e : gB t a n = ends n := by
      unfold gB
      rw [if_pos h1, if_pos (by omega)]
      unfold ends at *
      split <;> omega
    rw [e]
    exact gB_early hc'.2 (fun m hm => hp m (by simp at hm ⊢; exact .inr hm)) (fun m hm => hs m (by simp at hm ⊢; exact .inr hm)) hc'.1
theorem gH_late {t : Nat} : ∀ {l : List Note} {a : Nat}, (∀ n ∈ l, a ≤ n.start) → (∀ n ∈ l, t ≤ n.start) → l.foldl (gH t) a = a
  | [], _, _, _ => rfl
  | n :: l, a, h, ht => by
    rw [List.foldl_cons]
    have h0 := h n (by simp)
    have h1 := ht n (by simp)
    have e : gH t a n = a := by
      unfold gH
      split
      · rw [if_neg (by omega), if_neg (by omega)]
      · rfl
    rw [e]
    exact gH_late (fun m hm => h m (by simp [hm])) fun m hm => ht m (by simp [hm])
theorem gH_early {t all : Nat} : ∀ {l : List Note} {z : Note}, Mx.Chain (l ++ [z]) → (∀ n ∈ l ++ [z], 0 < n.long) → (∀ n ∈ l ++ [z], n.start < t) → (l ++ [z]).foldl (gH t) all = if t < ends z then t else all
  | [], z, _, hp, hs => by
    have h1 := hs z (by simp)
    simp only [List.nil_append, List.foldl_cons, List.foldl_nil]
    unfold gH
    rw [if_pos h1]
  | n :: l, z, hc, hp, hs => by
    have hc' := List.pairwise_cons.mp (show (n :: (l ++ [z])).Pairwise _ from hc)
    have hz : z ∈ l ++ [z] := by simp
    have h4 := hc'.1 z hz
    have h5 := hs z (by simp)
    rw [List.cons_append, List.foldl_cons]
    have e : gH t all n = all := by
      unfold gH
      rw [if_neg (by omega)]
    rw [e]
    exact gH_early hc'.2 (fun m hm => hp m (by simp at hm ⊢; exact .inr hm)) (fun m hm => hs m (by simp at hm ⊢; exact .inr hm))
theorem chain_drop {l : List Note} {k : Nat} (h : Mx.Chain l) : Mx.Chain (l.drop k) := List.Pairwise.sublist (List.drop_sublist k l) h
theorem chain_take {l : List Note} {k : Nat} (h : Mx.Chain l) : Mx.Chain (l.take k) := List.Pairwise.sublist (List.take_sublist k l) h
theorem silent {ns : List Note} {k t all sf st : Nat} (hc : Mx.Chain ns) (hp : ∀ n ∈ ns, 0 < n.long) (he : ∀ n ∈ ns, ends n ≤ all) (ht : t ≤ all) (h1 : ∀ n ∈ ns.take k, n.start < t) (h2 : ∀ n ∈ ns.drop k, t ≤ n.start)
    (hsf : sf = match (ns.take k).getLast? with | none => 0 | some z => ends z) (hst : st = match (ns.drop k).head? with | none => all | some z => z.start) :
    before ns t + behind ns t all = if t < sf then 0 else st - sf := by
  have hsplit : ns = ns.take k ++ ns.drop k := (List.take_append_drop k ns).symm
  rw [before_eq, behind_eq]
  have hbt : ∀ a, ns.foldl (gB t) a = (ns.take k).foldl (gB t) a := fun a => by
    conv => lhs; rw [hsplit]
    rw [List.foldl_append, gB_late h2]
  have hht : ∀ a, ns.foldl (gH t) a = (ns.drop k).foldl (gH t) ((ns.take k).foldl (gH t) a) := fun a => by
    conv => lhs; rw [hsplit]
    rw [List.foldl_append]
  rw [hbt, hht]
  have hct := chain_take (k := k) hc
  have hcd := chain_drop (k := k) hc
  have hpt : ∀ n ∈ ns.take k, 0 < n.long := fun n hn => hp n (List.mem_of_mem_take hn)
  have hpd : ∀ n ∈ ns.drop k, 0 < n.long := fun n hn => hp n (List.mem_of_mem_drop hn)
  have hed : ∀ n ∈ ns.drop k, ends n ≤ all := fun n hn => he n (List.mem_of_mem_drop hn)
  generalize ns.take k = L at *
  generalize ns.drop k = R at *
  have late : ∀ a, t ≤ a → a = t ∨ a = all → R.foldl (gH t) a = if a = t then t else st := by
    intro a _ hor
    cases R with
    | nil =>
      simp only [List.head?_nil] at hst
      simp only [List.foldl_nil]
      split
      · assumption
      · rcases hor with h | h
        · contradiction
        · rw [h, hst]
    | cons n R =>
      simp only [List.head?_cons] at hst
      have q1 := h2 n (by simp)
      have q2 := hpd n (by simp)
      have q3 := hed n (by simp)
      have hcd' := List.pairwise_cons.mp hcd
      rw [List.foldl_cons]
      by_cases hat : a = t
      · rw [if_pos hat, hat]
        have e : gH t t n = t := by
          unfold gH
          split
          · rw [if_neg (by omega), if_neg (by omega)]
          · rfl
        rw [e]
        exact gH_late (fun m hm => h2 m (by simp [hm])) (fun m hm => h2 m (by simp [hm]))
      · rw [if_neg hat]
        have ha : a = all := by
          rcases hor with h | h
          · contradiction
          · exact h
        have e : gH t a n = n.start := by
          unfold gH
          unfold ends at q3 ⊢
          rw [if_pos (by omega), if_neg (by omega), if_pos (by omega)]
        rw [e, hst]
        refine gH_late (fun m hm => ?_) (fun m hm => h2 m (by simp [hm]))
        have := hcd'.1 m hm
        unfold ends at this
        omega
  have hst2 : t ≤ st := by
    rw [hst]
    cases R with
    | nil => exact ht
    | cons n R => exact h2 n (by simp)
  have hL : L = [] ∨ ∃ l z, L = l ++ [z] := by
    rcases List.eq_nil_or_concat L with h | ⟨l, z, h⟩
    · exact .inl h
    · exact .inr ⟨l, z, by rw [h, List.concat_eq_append]⟩
  rcases hL with rfl | ⟨l, z, rfl⟩
  · simp only [List.getLast?_nil] at hsf
    subst hsf
    rw [List.foldl_nil, List.foldl_nil, late all ht (.inr rfl), if_neg (show ¬ t < 0 by omega)]
    by_cases h : all = t
    · rw [if_pos h]
      have : st ≤ all := by
        rw [hst]
        cases R with
        | nil => exact Nat.le_refl _
        | cons n R =>
          have := hed n (by simp)
          simp only [List.head?_cons]
          unfold ends at this
          omega
      omega
    · rw [if_neg h]
      omega
  · rw [List.getLast?_concat] at hsf
    simp only at hsf
    subst hsf
    rw [gB_early hct hpt h1 (fun n hn => Nat.zero_le _), gH_early hct hpt h1]
    by_cases h : t < ends z
    · rw [if_pos h, if_pos h, late t (Nat.le_refl _) (.inl rfl), if_pos rfl]
      omega
    · rw [if_neg h, if_neg h, late all ht (.inr rfl)]
      by_cases h3 : all = t
      · rw [if_pos h3]
        have : st ≤ all := by
          rw [hst]
          cases R with
          | nil => exact Nat.le_refl _
          | cons n R =>
            have := hed n (by simp)
            simp only [List.head?_cons]
            unfold ends at this
            omega
        omega
      · rw [if_neg h3]
        omega
theorem weight_snoc (b : List Item) : ∀ (l : List (List Item)) (w : Bool), weight w (l ++ [b]) = weight w l + (if isEmpty b then (if (match l.getLast? with | none => w | some x => isEmpty x) then 0 else 1) else b.length)
  | [], w => by
    simp only [List.nil_append, weight, List.getLast?_nil]
    cases w <;> by_cases h : isEmpty b = true <;> simp [h]
  | x :: l, w => by
    have ih := fun w => weight_snoc b l w
    rw [List.cons_append, weight, weight]
    have hl : ∀ w, (match (x :: l).getLast? with | none => w | some x => isEmpty x) = (match l.getLast? with | none => isEmpty x | some x => isEmpty x) := fun w => by
      cases l with
      | nil => rfl
      | cons y l =>
        rw [List.getLast?_cons_cons]
        cases e : (y :: l).getLast? with
        | none => simp at e
        | some z => rfl
    rw [hl]
    by_cases h : isEmpty x = true
    · rw [if_pos h, if_pos h, ih true, h]
      omega
    · have h' : isEmpty x = false := by simpa using h
      rw [if_neg h, if_neg h, ih false, h']
      omega
theorem weight_take_mono (l : List (List Item)) (w : Bool) {i j : Nat} (h : i ≤ j) : weight w (l.take i) ≤ weight w (l.take j) := by
  induction j with
  | zero =>
    have : i = 0 := by omega
    subst this
    exact Nat.le_refl _
  | succ j ih =>
    by_cases hij : i = j + 1
    · rw [hij]
      exact Nat.le_refl _
    · refine Nat.le_trans (ih (by omega)) ?_
      cases e : l[j]? with
      | none =>
        have : l.length ≤ j := by simpa using e
        rw [List.take_of_length_le this, List.take_of_length_le (by omega)]
        exact Nat.le_refl _
      | some b =>
        rw [List.take_succ, e]
        simp only [Option.toList]
        rw [weight_snoc]
        omega
theorem weight_flag : ∀ (l : List (List Item)), weight false l ≤ weight true l + 1 ∧ weight true l ≤ weight false l
  | [] => by simp [weight]
  | b :: l => by
    rw [weight, weight]
    split <;> simp <;> omega
theorem weight_drop : ∀ (l : List (List Item)) (i : Nat), weight false (l.drop i) ≤ weight false l
  | l, 0 => Nat.le_refl _
  | [], i + 1 => Nat.le_refl _
  | b :: l, i + 1 => by
    rw [List.drop_succ_cons]
    refine Nat.le_trans (weight_drop l i) ?_
    have := weight_flag l
    rw [weight]
    split <;> simp <;> omega
theorem better_none (x : Option (List Nat)) : better x none = x := by
  cases x <;> rfl
theorem fold_none : ∀ {cs : List (Option (List Nat))} {x : Option (List Nat)}, (∀ c ∈ cs, c = none) → cs.foldl better x = x
  | [], _, _ => rfl
  | c :: cs, x, h => by
    rw [List.foldl_cons, h c (by simp), better_none]
    exact fold_none fun d hd => h d (by simp [hd])
theorem fold_mem : ∀ {cs : List (Option (List Nat))} {x : Option (List Nat)} {l : List Nat}, cs.foldl better x = some l → x = some l ∨ some l ∈ cs
  | [], x, l, h => .inl h
  | c :: cs, x, l, h => by
    rw [List.foldl_cons] at h
    rcases fold_mem h with h | h
    · cases x with
      | none => exact .inr (by simp [show c = some l from h])
      | some a =>
        cases c with
        | none => exact .inl h
        | some b =>
          simp only [better] at h
          split at h
          · exact .inl h
          · exact .inr (by simp [h])
    · exact .inr (by simp [h])
theorem fold_le : ∀ {cs : List (Option (List Nat))} {x : Option (List Nat)} {l : List Nat}, (x = some l ∨ some l ∈ cs) → ∃ l', cs.foldl better x = some l' ∧ l'.length ≤ l.length
  | [], x, l, h => by
    rcases h with h | h
    · exact ⟨l, h, Nat.le_refl _⟩
    · cases h
  | c :: cs, x, l, h => by
    rw [List.foldl_cons]
    rcases h with h | h
    · subst h
      cases c with
      | none => exact fold_le (.inl rfl)
      | some b =>
        simp only [better]
        split
        · exact fold_le (.inl rfl)
        · obtain ⟨l', h1, h2⟩ := fold_le (cs := cs) (x := some b) (l := b) (.inl rfl)
          exact ⟨l', h1, by omega⟩
    · rcases List.mem_cons.mp h with h | h
      · subst h
        cases x with
        | none => exact fold_le (.inl rfl)
        | some a =>
          simp only [better]
          split
          · obtain ⟨l', h1, h2⟩ := fold_le (cs := cs) (x := some a) (l := a) (.inl rfl)
            exact ⟨l', h1, by omega⟩
          · exact fold_le (.inl rfl)
      · exact fold_le (.inr h)
theorem fold_last {pre post : List (Option (List Nat))} {l : List Nat} (h1 : ∀ li, some li ∈ pre → l.length ≤ li.length) (h2 : ∀ c ∈ post, c = none) : (pre ++ some l :: post).foldl better none = some l := by
  rw [List.foldl_append, List.foldl_cons]
  have e : better (pre.foldl better none) (some l) = some l := by
    cases q : pre.foldl better none with
    | none => rfl
    | some a =>
      rcases fold_mem q with z | z
      · cases z
      · have := h1 a z
        simp only [better]
        rw [if_neg (by omega)]
  rw [e]
  exact fold_none h2
theorem foldl_same {α β : Type} {f g : α → β → α} : ∀ (l : List β) (x : α), (∀ a, ∀ i ∈ l, f a i = g a i) → l.foldl f x = l.foldl g x
  | [], _, _ => rfl
  | i :: l, x, h => by
    rw [List.foldl_cons, List.foldl_cons, h x i (by simp)]
    exact foldl_same l _ fun a j hj => h a j (by simp [hj])
def best (f : Nat → Nat → Bool) (n k : Nat) : Option (List Nat) := match plans f n (n - k) with
  | x :: _ => x
  | [] => none
theorem plans_len (f : Nat → Nat → Bool) (n : Nat) : ∀ j, (plans f n j).length = j + 1
  | 0 => rfl
  | j + 1 => by simp [plans, plans_len f n j]
theorem plans_get (f : Nat → Nat → Bool) (n : Nat) : ∀ (j i : Nat), j ≤ n → i ≤ j → (plans f n j)[i]? = some (best f n (n - j + i))
  | 0, i, _, h => by
    have : i = 0 := by omega
    subst this
    simp [plans, best]
  | j + 1, 0, hj, _ => by
    have e : n - (n - (j + 1) + 0) = j + 1 := by omega
    unfold best
    rw [e]
    simp [plans]
  | j + 1, i + 1, hj, h => by
    have ih := plans_get f n j i (by omega) (by omega)
    have e : n - (j + 1) + (i + 1) = n - j + i := by omega
    rw [e, ← ih]
    simp [plans]
def cand (f : Nat → Nat → Bool) (n k e : Nat) : Option (List Nat) := if f k e then (best f n e).map (fun l => e :: l) else none
theorem best_eq {f : Nat → Nat → Bool} {n k : Nat} (h : k < n) : best f n k = ((List.range (n - k)).map fun i => cand f n k (k + 1 + i)).foldl better none := by
  have e : n - k = (n - k - 1) + 1 := by omega
  unfold best
  rw [e]
  simp only [plans]
  have e2 : n - (n - k - 1 + 1) = k := by omega
  rw [e2]
  unfold bestFrom
  rw [plans_len, List.foldl_map]
  refine foldl_same _ _ fun a i hi => ?_
  have hi' := List.mem_range.mp hi
  rw [plans_get f n (n - k - 1) i (by omega) (by omega)]
  have e3 : n - (n - k - 1) + i = k + 1 + i := by omega
  rw [e3]
  unfold cand
  rfl
theorem best_end (f : Nat → Nat → Bool) (n : Nat) : best f n n = some [] := by
  unfold best
  rw [Nat.sub_self]
  rfl
theorem cand_mem {f : Nat → Nat → Bool} {n k e : Nat} (h1 : k < e) (h2 : e ≤ n) : cand f n k e ∈ (List.range (n - k)).map fun i => cand f n k (k + 1 + i) := by
  refine List.mem_map.mpr ⟨e - k - 1, List.mem_range.mpr (by omega), ?_⟩
  have : k + 1 + (e - k - 1) = e := by omega
  rw [this]
theorem best_mono {f : Nat → Nat → Bool} {n : Nat} (hf : ∀ a a' e, f a e = true → a ≤ a' → a' < e → f a' e = true) : ∀ (d a a' : Nat), n - a = d → a ≤ a' → a' ≤ n → ∀ l, best f n a = some l → ∃ l', best f n a' = some l' ∧ l'.length ≤ l.length := by
  intro d
  induction d using Nat.strongRecOn with
  | _ d ih =>
    intro a a' hd haa ha' l hl
    by_cases han : a = n
    · have : a' = n := by omega
      subst this
      rw [han] at hl
      exact ⟨l, hl, Nat.le_refl _⟩
    · have hlt : a < n := by omega
      have hl0 := hl
      rw [best_eq hlt] at hl
      rcases fold_mem hl with z | z
      · cases z
      · obtain ⟨i, hi, e⟩ := List.mem_map.mp z
        have hi' := List.mem_range.mp hi
        unfold cand at e
        split at e
        · rename_i hfe
          cases q : best f n (a + 1 + i) with
          | none =>
            rw [q] at e
            cases e
          | some l1 =>
            rw [q] at e
            have e' : (a + 1 + i) :: l1 = l := Option.some.inj e
            subst e'
            by_cases h : a + 1 + i ≤ a'
            · obtain ⟨l', q1, q2⟩ := ih (n - (a + 1 + i)) (by omega) (a + 1 + i) a' rfl h ha' l1 q
              exact ⟨l', q1, by simp; omega⟩
            · have hf' := hf a a' (a + 1 + i) hfe haa (by omega)
              have hc : cand f n a' (a + 1 + i) = some ((a + 1 + i) :: l1) := by
                unfold cand
                rw [if_pos hf', q]
                rfl
              rw [best_eq (by omega)]
              exact fold_le (.inr (by rw [← hc]; exact cand_mem (by omega) (by omega)))
        · cases e
theorem best_step {f : Nat → Nat → Bool} {n k r : Nat} (hf : ∀ a a' e, f a e = true → a ≤ a' → a' < e → f a' e = true) (hk : k < n) (h1 : k < r) (h2 : r ≤ n) (h3 : f k r = true) (h4 : ∀ e, r < e → e ≤ n → f k e = false) : best f n k = (best f n r).map (fun l => r :: l) := by
  rw [best_eq hk]
  have hsplit : List.range (n - k) = List.range (r - k - 1) ++ (r - k - 1) :: (List.range (n - r)).map (fun i => r - k + i) := by
    have e1 : n - k = (r - k - 1) + ((n - r) + 1) := by omega
    rw [e1, List.range_add, List.range_succ_eq_map, List.map_cons, List.map_map]
    congr 2
    refine List.map_congr_left fun i _ => ?_
    simp only [Function.comp_apply]
    omega
  have hpost : ∀ c ∈ ((List.range (n - r)).map (fun i => r - k + i)).map (fun i => cand f n k (k + 1 + i)), c = none := fun c hc => by
    rw [List.map_map] at hc
    obtain ⟨i, hi, rfl⟩ := List.mem_map.mp hc
    have hi' := List.mem_range.mp hi
    simp only [Function.comp_apply]
    unfold cand
    rw [h4 _ (by omega) (by omega)]
    rfl
  have hr : k + 1 + (r - k - 1) = r := by omega
  rw [hsplit, List.map_append, List.map_cons, hr]
  cases q : best f n r with
  | none =>
    refine fold_none fun c hc => ?_
    have none_of : ∀ e, e ≤ r → cand f n k e = none := fun e he => by
      unfold cand
      split
      · cases q2 : best f n e with
        | none => rfl
        | some l =>
          obtain ⟨l', q3, _⟩ := best_mono hf _ e r rfl he h2 l q2
          rw [q] at q3
          cases q3
      · rfl
    rcases List.mem_append.mp hc with hc | hc
    · obtain ⟨i, hi, rfl⟩ := List.mem_map.mp hc
      have := List.mem_range.mp hi
      exact none_of _ (by omega)
    · rcases List.mem_cons.mp hc with rfl | hc
      · exact none_of r (Nat.le_refl _)
      · exact hpost c hc
  | some lr =>
    have hc : cand f n k r = some (r :: lr) := by
      unfold cand
      rw [if_pos h3, q]
      rfl
    rw [hc]
    refine fold_last (fun li hli => ?_) hpost
    obtain ⟨i, hi, e⟩ := List.mem_map.mp hli
    have hi' := List.mem_range.mp hi
    unfold cand at e
    split at e
    · cases q2 : best f n (k + 1 + i) with
      | none =>
        rw [q2] at e
        cases e
      | some l1 =>
        rw [q2] at e
        have e' : (k + 1 + i) :: l1 = li := Option.some.inj e
        subst e'
        obtain ⟨l', q3, q4⟩ := best_mono hf _ (k + 1 + i) r rfl (by omega) h2 l1 q2
        rw [q] at q3
        cases q3
        simp
        omega
    · cases e
theorem best_no {f : Nat → Nat → Bool} {n k : Nat} (hk : k < n) (h : ∀ e, e ≤ n → f k e = false) : best f n k = none := by
  rw [best_eq hk]
  refine fold_none fun c hc => ?_
  obtain ⟨i, hi, rfl⟩ := List.mem_map.mp hc
  have := List.mem_range.mp hi
  unfold cand
  rw [h _ (by omega)]
  rfl
theorem pages_eq (s : Abs) (p : Player) (most rest : Nat) : pages s p most rest = best (isPage s p most rest) s.bars.length 0 := by
  unfold pages best
  rfl
theorem isPage_mono (s : Abs) (p : Player) (most rest : Nat) : ∀ a a' e, isPage s p most rest a e = true → a ≤ a' → a' < e → isPage s p most rest a' e = true := by
  intro a a' e h h1 h2
  unfold isPage at h ⊢
  simp only [Bool.and_eq_true, decide_eq_true_eq] at h ⊢
  refine ⟨⟨h2, ?_⟩, h.2⟩
  refine Nat.le_trans ?_ h.1.2
  have e1 : ((barsOf p s.bars 0).drop a').take (e - a') = (((barsOf p s.bars 0).drop a).take (e - a)).drop (a' - a) := by
    rw [List.drop_take, List.drop_drop]
    congr 1
    · omega
    · congr 1
      omega
  rw [e1]
  exact weight_drop _ _
end Mm
set_option linter.all false
namespace Mm
open Kct9
def stepsOf : List Note → List (Int × (Int × Int))
  | a :: b :: l => if ends a = b.start then ((b.start : Int), (a.high, b.high)) :: stepsOf (b :: l) else stepsOf (b :: l)
  | _ => []
def goesPar (a b : Int × Int) : Bool := isPerfect (a.1 - b.1) && isPerfect (a.2 - b.2) && ((decide (a.1 < a.2) && decide (b.1 < b.2)) || (decide (a.2 < a.1) && decide (b.2 < b.1)))
theorem steps_snoc : ∀ (l : List Note) (a b : Note), stepsOf (l ++ [a] ++ [b]) = stepsOf (l ++ [a]) ++ (if ends a = b.start then [((b.start : Int), (a.high, b.high))] else [])
  | [], a, b => by
    show stepsOf [a, b] = stepsOf [a] ++ _
    simp [stepsOf]
  | [x], a, b => by
    show stepsOf [x, a, b] = stepsOf [x, a] ++ _
    simp only [stepsOf]
    split <;> split <;> simp
  | x :: y :: l, a, b => by
    have ih := steps_snoc (y :: l) a b
    simp only [List.cons_append] at ih ⊢
    rw [stepsOf, stepsOf, ih]
    split <;> simp
theorem mem_steps : ∀ {l : List Note} {k : Int} {w y : Int}, (k, (w, y)) ∈ stepsOf l ↔ ∃ (i : Nat) (a b : Note), l[i]? = some a ∧ l[i + 1]? = some b ∧ ends a = b.start ∧ k = (b.start : Int) ∧ w = a.high ∧ y = b.high
  | [], k, w, y => by
    simp [stepsOf]
  | [x], k, w, y => by
    simp [stepsOf]
  | a :: b :: l, k, w, y => by
    have ih := mem_steps (l := b :: l) (k := k) (w := w) (y := y)
    have hs : (∃ (i : Nat) (a' b' : Note), (a :: b :: l)[i]? = some a' ∧ (a :: b :: l)[i + 1]? = some b' ∧ ends a' = b'.start ∧ k = (b'.start : Int) ∧ w = a'.high ∧ y = b'.high) ↔
        (ends a = b.start ∧ k = (b.start : Int) ∧ w = a.high ∧ y = b.high) ∨ ∃ (i : Nat) (a' b' : Note), (b :: l)[i]? = some a' ∧ (b :: l)[i + 1]? = some b' ∧ ends a' = b'.start ∧ k = (b'.start : Int) ∧ w = a'.high ∧ y = b'.high := by
      constructor
      · rintro ⟨i, a', b', h1, h2, h3⟩
        cases i with
        | zero =>
          simp at h1 h2
          subst h1 h2
          exact .inl h3
        | succ i => exact .inr ⟨i, a', b', by simpa using h1, by simpa using h2, h3⟩
      · rintro (h | ⟨i, a', b', h1, h2, h3⟩)
        · exact ⟨0, a, b, rfl, rfl, h⟩
        · exact ⟨i + 1, a', b', by simpa using h1, by simpa using h2, h3⟩
    rw [hs, ← ih, stepsOf]
    split
    · rename_i h
      simp [h]
    · rename_i h
      simp [h]
theorem steps_gt : ∀ {l : List Note} {a : Note} {k : Int} {v : Int × Int}, Mx.Chain (a :: l) → (∀ n ∈ a :: l, 0 < n.long) → (k, v) ∈ stepsOf (a :: l) → (a.start : Int) < k := by
  intro l a k v hc hp h
  obtain ⟨i, x, y, h1, h2, h3, rfl, _⟩ := mem_steps.mp h
  have hc' := List.pairwise_cons.mp hc
  have hy : y ∈ l := List.mem_of_getElem? (by simpa using h2)
  have := hc'.1 y hy
  have h0 := hp a (by simp)
  unfold ends at this
  omega
theorem steps_sorted : ∀ {l : List Note}, Mx.Chain l → (∀ n ∈ l, 0 < n.long) → (stepsOf l).Pairwise (fun x y => x.1 < y.1)
  | [], _, _ => List.Pairwise.nil
  | [x], _, _ => List.Pairwise.nil
  | a :: b :: l, hc, hp => by
    have hc' := List.pairwise_cons.mp hc
    have ih := steps_sorted hc'.2 fun n hn => hp n (by simp at hn ⊢; exact .inr hn)
    rw [stepsOf]
    split
    · refine List.pairwise_cons.mpr ⟨fun z hz => ?_, ih⟩
      obtain ⟨k, v⟩ := z
      exact steps_gt hc'.2 (fun n hn => hp n (by simp at hn ⊢; exact .inr hn)) hz
    · exact ih
theorem sounds_some {l : List Note} {t : Nat} {h : Int} (e : soundsAt l t = some h) : ∃ (i : Nat) (n : Note), l[i]? = some n ∧ n.start ≤ t ∧ t < ends n ∧ n.high = h := by
  unfold soundsAt at e
  cases q : l.find? fun n => decide (n.start ≤ t) && decide (t < ends n) with
  | none =>
    rw [q] at e
    cases e
  | some n =>
    rw [q] at e
    have hn := List.find?_some q
    obtain ⟨i, hi⟩ := List.getElem?_of_mem (List.mem_of_find?_eq_some q)
    simp at hn
    exact ⟨i, n, hi, hn.1, hn.2, Option.some.inj e⟩
theorem steps_of_sounds {l : List Note} (hc : Mx.Chain l) (hp : ∀ n ∈ l, 0 < n.long) {t : Nat} {w y : Int} (h1 : soundsAt l t = some w) (h2 : soundsAt l (t + 1) = some y) (hne : w ≠ y) : (((t + 1 : Nat) : Int), (w, y)) ∈ stepsOf l := by
  obtain ⟨i, a, ha, a1, a2, rfl⟩ := sounds_some h1
  obtain ⟨j, b, hb, b1, b2, rfl⟩ := sounds_some h2
  have hch := List.pairwise_iff_getElem.mp hc
  obtain ⟨li, ei⟩ := List.getElem?_eq_some_iff.mp ha
  obtain ⟨lj, ej⟩ := List.getElem?_eq_some_iff.mp hb
  have hij : i < j := by
    rcases Nat.lt_trichotomy i j with h | h | h
    · exact h
    · subst h
      rw [ei] at ej
      subst ej
      exact absurd rfl hne
    · have := hch j i lj li h
      rw [ei, ej] at this
      unfold ends at *
      omega
  have hj1 : j = i + 1 := by
    by_cases h : j = i + 1
    · exact h
    · have lm : i + 1 < l.length := by omega
      have q1 := hch i (i + 1) li lm (by omega)
      have q2 := hch (i + 1) j lm lj (by omega)
      have q3 := hp l[i + 1] (List.getElem_mem lm)
      rw [ei] at q1
      rw [ej] at q2
      unfold ends at *
      omega
  subst hj1
  have q := hch i (i + 1) li lj (by omega)
  rw [ei, ej] at q
  have e : ends a = b.start := by omega
  have e2 : t + 1 = b.start := by omega
  exact mem_steps.mpr ⟨i, a, b, ha, hb, e, by rw [e2], rfl, rfl⟩
theorem sounds_of_steps {l : List Note} (hc : Mx.Chain l) (hp : ∀ n ∈ l, 0 < n.long) {k : Int} {w y : Int} (h : (k, (w, y)) ∈ stepsOf l) : ∃ t : Nat, k = ((t + 1 : Nat) : Int) ∧ soundsAt l t = some w ∧ soundsAt l (t + 1) = some y ∧ ∃ n ∈ l, t + 1 < ends n := by
  obtain ⟨i, a, b, ha, hb, e, rfl, rfl, rfl⟩ := mem_steps.mp h
  have p1 := hp a (List.mem_of_getElem? ha)
  have p2 := hp b (List.mem_of_getElem? hb)
  have hb1 : 1 ≤ b.start := by unfold ends at e; omega
  have et : b.start - 1 + 1 = b.start := by omega
  refine ⟨b.start - 1, by omega, sounds_at hc ha (by unfold ends at e; omega) (by omega), ?_, b, List.mem_of_getElem? hb, by unfold ends; omega⟩
  rw [et]
  exact sounds_at hc hb (Nat.le_refl _) (by unfold ends; omega)
def lookS (l : List (Int × (Int × Int))) (k : Int) : Option (Int × Int) := (l.find? fun x => decide (x.1 = k)).map (·.2)
theorem lookS_mem {l : List (Int × (Int × Int))} (hs : l.Pairwise fun x y => x.1 < y.1) {k : Int} {v : Int × Int} : lookS l k = some v ↔ (k, v) ∈ l := by
  unfold lookS
  constructor
  · intro h
    cases q : l.find? fun x => decide (x.1 = k) with
    | none =>
      rw [q] at h
      cases h
    | some x =>
      rw [q] at h
      have h1 := List.find?_some q
      have h2 := List.mem_of_find?_eq_some q
      simp at h1
      have h3 : x.2 = v := Option.some.inj h
      rw [← h1, ← h3]
      exact h2
  · intro h
    induction l with
    | nil => cases h
    | cons x l ih =>
      have hs' := List.pairwise_cons.mp hs
      rcases List.mem_cons.mp h with h | h
      · subst h
        simp [List.find?_cons]
      · have := hs'.1 _ h
        rw [List.find?_cons]
        have e : decide (x.1 = k) = false := by
          simp
          simp at this
          omega
        rw [e]
        exact ih hs'.2 h
def counts (l m : List (Int × (Int × Int))) : List (Int × (Int × Int)) := l.filter fun x => match lookS m x.1 with | none => false | some v => goesPar x.2 v
theorem par_iff {ns ms : List Note} {t : Nat} : isParallel ns ms t = true ↔ ∃ w x y z, soundsAt ns t = some w ∧ soundsAt ms t = some x ∧ soundsAt ns (t + 1) = some y ∧ soundsAt ms (t + 1) = some z ∧ goesPar (w, y) (x, z) = true := by
  unfold isParallel
  constructor
  · intro h
    split at h
    · rename_i w x y z e1 e2 e3 e4
      exact ⟨w, x, y, z, e1, e2, e3, e4, h⟩
    · cases h
  · rintro ⟨w, x, y, z, e1, e2, e3, e4, h⟩
    rw [e1, e2, e3, e4]
    exact h
theorem goesPar_ne {w x y z : Int} (h : goesPar (w, y) (x, z) = true) : w ≠ y ∧ x ≠ z := by
  unfold goesPar at h
  simp at h
  omega
theorem count_eq {ns ms : List Note} {all : Nat} (hc : Mx.Chain ns) (hp : ∀ n ∈ ns, 0 < n.long) (hc2 : Mx.Chain ms) (hp2 : ∀ n ∈ ms, 0 < n.long) (he : ∀ n ∈ ns, ends n ≤ all) :
    (counts (stepsOf ns) (stepsOf ms)).length = ((List.range all).filter (isParallel ns ms)).length := by
  have hs := steps_sorted hc hp
  have hs2 := steps_sorted hc2 hp2
  have hmem : ∀ {k : Int} {v : Int × Int}, (k, v) ∈ counts (stepsOf ns) (stepsOf ms) ↔ (k, v) ∈ stepsOf ns ∧ ∃ u, (k, u) ∈ stepsOf ms ∧ goesPar v u = true := by
    intro k v
    unfold counts
    rw [List.mem_filter]
    refine and_congr_right fun _ => ?_
    constructor
    · intro h
      cases q : lookS (stepsOf ms) k with
      | none =>
        simp only [q] at h
        cases h
      | some u =>
        simp only [q] at h
        exact ⟨u, (lookS_mem hs2).mp q, h⟩
    · rintro ⟨u, hu, h⟩
      simp only [(lookS_mem hs2).mpr hu]
      exact h
  have hcs : (counts (stepsOf ns) (stepsOf ms)).Pairwise (fun x y => x.1 < y.1) := hs.filter _
  have key : ((counts (stepsOf ns) (stepsOf ms)).map fun x => x.1.toNat - 1) = (List.range all).filter (isParallel ns ms) := by
    have pos : ∀ x ∈ counts (stepsOf ns) (stepsOf ms), 1 ≤ x.1 := fun x hx => by
      obtain ⟨k, w, y⟩ := x
      obtain ⟨t, rfl, _⟩ := sounds_of_steps hc hp (hmem.mp hx).1
      simp
      omega
    have h1 : ((counts (stepsOf ns) (stepsOf ms)).map fun x => x.1.toNat - 1).Pairwise (· < ·) := by
      rw [List.pairwise_map]
      refine hcs.imp_of_mem fun {x y} hx hy hxy => ?_
      have := pos x hx
      omega
    have h2 : ((List.range all).filter (isParallel ns ms)).Pairwise (· < ·) := List.pairwise_lt_range.filter _
    have nd1 : ((counts (stepsOf ns) (stepsOf ms)).map fun x => x.1.toNat - 1).Nodup := h1.imp fun h => Nat.ne_of_lt h
    have nd2 : ((List.range all).filter (isParallel ns ms)).Nodup := h2.imp fun h => Nat.ne_of_lt h
    refine List.Perm.eq_of_pairwise (le := (· < ·)) (fun a b _ _ x y => by omega) h1 h2 ((List.perm_ext_iff_of_nodup nd1 nd2).mpr fun t => ?_)
    rw [List.mem_map, List.mem_filter, List.mem_range, par_iff]
    constructor
    · rintro ⟨⟨k, w, y⟩, hx, rfl⟩
      obtain ⟨hx1, ⟨x, z⟩, hx2, hg⟩ := hmem.mp hx
      obtain ⟨t, rfl, e1, e3, n, hn, hlt⟩ := sounds_of_steps hc hp hx1
      obtain ⟨t', et, e2, e4, _⟩ := sounds_of_steps hc2 hp2 hx2
      have : t' = t := by omega
      subst this
      have := he n hn
      have ee : ((t' + 1 : Nat) : Int).toNat - 1 = t' := by omega
      simp only [ee]
      exact ⟨by omega, w, x, y, z, e1, e2, e3, e4, hg⟩
    · rintro ⟨_, w, x, y, z, e1, e2, e3, e4, hg⟩
      obtain ⟨n1, n2⟩ := goesPar_ne hg
      refine ⟨(((t + 1 : Nat) : Int), (w, y)), hmem.mpr ⟨steps_of_sounds hc hp e1 e3 n1, (x, z), steps_of_sounds hc2 hp2 e2 e4 n2, hg⟩, ?_⟩
      simp only
      omega
  have := congrArg List.length key
  rw [List.length_map] at this
  exact this
theorem counts_none {l m : List (Int × (Int × Int))} {x : Int × (Int × Int)} (h : lookS m x.1 = none) : (counts (l ++ [x]) m).length = (counts l m).length := by
  unfold counts
  rw [List.filter_append, List.length_append]
  have : ([x].filter fun x => match lookS m x.1 with | none => false | some v => goesPar x.2 v) = [] := by
    rw [List.filter_eq_nil_iff]
    intro y hy
    simp at hy
    subst hy
    rw [h]
    simp
  rw [this]
  rfl
theorem counts_some {l m : List (Int × (Int × Int))} {x : Int × (Int × Int)} {v : Int × Int} (h : lookS m x.1 = some v) : (counts (l ++ [x]) m).length = (counts l m).length + (if goesPar x.2 v = true then 1 else 0) := by
  unfold counts
  rw [List.filter_append, List.length_append]
  congr 1
  by_cases hg : goesPar x.2 v = true
  · have : ([x].filter fun x => match lookS m x.1 with | none => false | some v => goesPar x.2 v) = [x] := by
      rw [List.filter_eq_self]
      intro y hy
      simp at hy
      subst hy
      rw [h]
      exact hg
    rw [this, if_pos hg]
    rfl
  · have : ([x].filter fun x => match lookS m x.1 with | none => false | some v => goesPar x.2 v) = [] := by
      rw [List.filter_eq_nil_iff]
      intro y hy
      simp at hy
      subst hy
      rw [h]
      exact hg
    rw [this, if_neg hg]
    rfl
end Mm
set_option linter.all false
namespace Mm
open Kct9
def spelled (bars : List Nat) (sh : Int) : List Nat → Nat → List Note → Option (List Note)
  | [], _, l => some l
  | [_], _, _ => none
  | x :: n :: r, a, l =>
    match (if x = 255 then barsFrom bars a n else some n) with
    | none => none
    | some m => if n = 0 then none else
      if x = 253 then (match l.getLast? with | none => none | some z => spelled bars sh r (a + m) (l.dropLast ++ [{ z with long := a + m - z.start }]))
      else if x = 254 ∨ x = 255 then spelled bars sh r (a + m) l
      else spelled bars sh r (a + m) (l ++ [⟨a, m, (x : Int) - sh - 24⟩])
theorem spelled_ord {bars : List Nat} {sh : Int} : ∀ (b : List Nat) (a : Nat) (l r : List Note), spelled bars sh b a l = some r → Mx.Chain l → (∀ n ∈ l, 0 < n.long) → (∀ n ∈ l, ends n ≤ a) →
    Mx.Chain r ∧ (∀ n ∈ r, 0 < n.long) ∧ ∃ t, Mx.timeOf bars b a = some t ∧ ∀ n ∈ r, ends n ≤ t
  | [], a, l, r, h, hc, hp, he => by
    rw [spelled] at h
    cases h
    exact ⟨hc, hp, a, by rw [Mx.timeOf], he⟩
  | [x], a, l, r, h, hc, hp, he => by
    rw [spelled] at h
    cases h
  | x :: n :: b, a, l, r, h, hc, hp, he => by
    rw [spelled] at h
    have ht : ∀ m, (if x = 255 then barsFrom bars a n else some n) = some m → Mx.timeOf bars (x :: n :: b) a = Mx.timeOf bars b (a + m) := fun m e => by
      rw [Mx.timeOf]
      by_cases h255 : x = 255
      · rw [if_pos h255] at e ⊢
        rw [e]
      · rw [if_neg h255] at e ⊢
        cases e
        rfl
    cases e : (if x = 255 then barsFrom bars a n else some n) with
    | none =>
      rw [e] at h
      cases h
    | some m =>
      rw [ht m e]
      rw [e] at h
      simp only at h
      by_cases h0 : n = 0
      · rw [if_pos h0] at h
        cases h
      · rw [if_neg h0] at h
        have he' : ∀ n ∈ l, ends n ≤ a + m := fun n hn => Nat.le_trans (he n hn) (by omega)
        by_cases h253 : x = 253
        · rw [if_pos h253] at h
          have em : m = n := by
            rw [if_neg (by omega)] at e
            exact (Option.some.inj e).symm
          subst em
          rcases List.eq_nil_or_concat l with hl | ⟨l', z, hl⟩
          · subst hl
            simp at h
          · rw [List.concat_eq_append] at hl
            subst hl
            rw [List.getLast?_concat] at h
            simp only [List.dropLast_concat] at h
            have hz1 := hp z (by simp)
            have hz2 := he z (by simp)
            have hc' := List.pairwise_append.mp hc
            refine spelled_ord b (a + m) _ r h ?_ ?_ ?_
            · refine List.pairwise_append.mpr ⟨hc'.1, List.pairwise_singleton _ _, fun x hx y hy => ?_⟩
              simp at hy
              subst hy
              exact hc'.2.2 x hx z (by simp)
            · intro y hy
              rcases List.mem_append.mp hy with hy | hy
              · exact hp y (by simp [hy])
              · simp at hy
                subst hy
                unfold ends at hz2
                simp only
                omega
            · intro y hy
              rcases List.mem_append.mp hy with hy | hy
              · exact he' y (by simp [hy])
              · simp at hy
                subst hy
                unfold ends at hz2 ⊢
                simp only
                omega
        · rw [if_neg h253] at h
          by_cases h45 : x = 254 ∨ x = 255
          · rw [if_pos h45] at h
            exact spelled_ord b (a + m) l r h hc hp he'
          · rw [if_neg h45] at h
            have em : m = n := by
              rw [if_neg (by omega)] at e
              exact (Option.some.inj e).symm
            subst em
            refine spelled_ord b (a + m) _ r h ?_ ?_ ?_
            · refine List.pairwise_append.mpr ⟨hc, List.pairwise_singleton _ _, fun x hx y hy => ?_⟩
              simp at hy
              subst hy
              exact he x hx
            · intro y hy
              rcases List.mem_append.mp hy with hy | hy
              · exact hp y hy
              · simp at hy
                subst hy
                simp only
                omega
            · intro y hy
              rcases List.mem_append.mp hy with hy | hy
              · exact he' y hy
              · simp at hy
                subst hy
                exact Nat.le_refl _
def posLens : List Nat → Prop
  | _ :: n :: r => n ≠ 0 ∧ posLens r
  | _ => True
theorem taken_spelled {s : Abs} {p : Player} : ∀ (b : List Nat) (a : Nat) (l r : List Note), taken s p b a l = some r → posLens b → spelled s.bars p.shift b a l.reverse = some r.reverse
  | [], a, l, r, h, _ => by
    rw [taken] at h
    cases h
    rw [spelled]
  | [x], a, l, r, h, _ => by
    rw [taken] at h
    cases h
  | x :: n :: b, a, l, r, h, hp => by
    obtain ⟨hn, hp⟩ := hp
    rw [taken.eq_def] at h
    dsimp only at h
    rw [spelled]
    by_cases h255 : x = 255
    · rw [if_pos h255] at h ⊢
      cases e : barsFrom s.bars a n with
      | none =>
        rw [e] at h
        cases h
      | some k =>
        rw [e] at h
        simp only
        rw [if_neg hn, if_neg (by omega), if_pos (Or.inr h255)]
        exact taken_spelled b (a + k) l r h hp
    · rw [if_neg h255] at h ⊢
      simp only
      rw [if_neg hn]
      by_cases h254 : x = 254
      · rw [if_pos h254] at h
        rw [if_neg (by omega), if_pos (Or.inl h254)]
        exact taken_spelled b (a + n) l r h hp
      · rw [if_neg h254] at h
        by_cases h253 : x = 253
        · rw [if_pos h253] at h ⊢
          cases l with
          | nil => cases h
          | cons m q =>
            dsimp only at h
            by_cases hm : ends m = a
            · rw [if_pos hm] at h
              rw [List.reverse_cons, List.getLast?_concat]
              simp only [List.dropLast_concat]
              have := taken_spelled b (a + n) _ r h hp
              rw [List.reverse_cons] at this
              have e1 : a + n - m.start = m.long + n := by
                unfold ends at hm
                omega
              rw [e1]
              exact this
            · rw [if_neg hm] at h
              cases h
        · rw [if_neg h253] at h
          rw [if_neg h253, if_neg (by omega)]
          have := taken_spelled b (a + n) _ r h hp
          rw [List.reverse_cons] at this
          have e1 : (x : Int) - p.shift - 24 = (x : Int) - 24 - p.shift := by omega
          rw [e1]
          exact this
def trN (a : Nat) (n : Note) : Option Note := if n.start < a then some ⟨n.start, min (ends n) a - n.start, n.high⟩ else none
def tr (a : Nat) (l : List Note) : List Note := l.filterMap (trN a)
theorem tr_none {a : Nat} {l : List Note} (h : ∀ n ∈ l, a ≤ n.start) : tr a l = [] := by
  unfold tr
  rw [List.filterMap_eq_nil_iff]
  intro n hn
  unfold trN
  rw [if_neg (by have := h n hn; omega)]
theorem tr_cons_yes {a : Nat} {n : Note} {l : List Note} (h : n.start < a) : tr a (n :: l) = ⟨n.start, min (ends n) a - n.start, n.high⟩ :: tr a l := by
  unfold tr
  rw [List.filterMap_cons]
  unfold trN
  rw [if_pos h]
theorem taken_rest {s : Abs} {p : Player} (k a : Nat) (r : List Nat) (acc : List Note) : taken s p ((restOf k).flatMap itemBytes ++ r) a acc = taken s p r (a + k) acc := by
  unfold restOf
  split
  · rename_i h
    subst h
    rfl
  · show taken s p (254 :: k :: r) a acc = _
    rw [taken.eq_def]
    dsimp only
    rw [if_neg (by decide), if_pos rfl]
theorem taken_fill {s : Abs} {p p' : Player} (hsh : p'.shift = p.shift) (h1 : -24 ≤ p.shift) (h2 : p.shift ≤ 24) : ∀ (l : List Note) (acc : List Note) (a e : Nat) (r : List Nat), a ≤ e → Mx.Chain l → (∀ n ∈ l, 0 < n.long) → (∀ n ∈ l, 0 ≤ n.high ∧ n.high ≤ 127) →
    taken s p ((fill p' l a e).flatMap itemBytes ++ r) a ((tr a l).reverse ++ acc) = taken s p r e ((tr e l).reverse ++ acc)
  | [], acc, a, e, r, hae, _, _, _ => by
    rw [fill, taken_rest]
    have : a + (e - a) = e := by omega
    rw [this]
    rfl
  | n :: l, acc, a, e, r, hae, hc, hp, hh => by
    have hc' := List.pairwise_cons.mp hc
    have hn := hp n (by simp)
    have hnh := hh n (by simp)
    have hpl : ∀ m ∈ l, 0 < m.long := fun m hm => hp m (by simp [hm])
    have hhl : ∀ m ∈ l, 0 ≤ m.high ∧ m.high ≤ 127 := fun m hm => hh m (by simp [hm])
    have ih := fun acc a e r hae => taken_fill (s := s) (p := p) (p' := p') hsh h1 h2 l acc a e r hae hc'.2 hpl hhl
    by_cases hes : e ≤ n.start
    · have hall : ∀ m ∈ n :: l, e ≤ m.start := fun m hm => by
        rcases List.mem_cons.mp hm with rfl | hm
        · exact hes
        · have := hc'.1 m hm
          unfold ends at this
          omega
      rw [fill, if_pos hes, taken_rest, tr_none hall, tr_none (fun m hm => Nat.le_trans hae (hall m hm))]
      have : a + (e - a) = e := by omega
      rw [this]
    · by_cases hea : ends n ≤ a
      · rw [fill, if_neg hes, if_pos hea]
        rw [tr_cons_yes (by unfold ends at hea; omega), tr_cons_yes (by omega)]
        have e1 : min (ends n) a = ends n := by omega
        have e2 : min (ends n) e = ends n := by omega
        rw [e1, e2, List.reverse_cons, List.reverse_cons, List.append_assoc, List.append_assoc]
        exact ih _ a e r hae
      · rw [fill_turn (by omega) (by omega), List.flatMap_append, List.flatMap_cons, List.append_assoc, List.append_assoc, taken_rest]
        have hlz : ∀ m ∈ l, min (ends n) e ≤ m.start := fun m hm => by
          have := hc'.1 m hm
          omega
        have hta : tr a l = [] := tr_none fun m hm => by
          have := hc'.1 m hm
          omega
        have htz : tr (min (ends n) e) l = [] := tr_none hlz
        have hz := ih (⟨n.start, min (ends n) e - n.start, n.high⟩ :: acc) (min (ends n) e) e r (by omega)
        rw [htz] at hz
        have hend : (tr e (n :: l)).reverse ++ acc = (tr e l).reverse ++ (⟨n.start, min (ends n) e - n.start, n.high⟩ :: acc) := by
          rw [tr_cons_yes (by omega), List.reverse_cons, List.append_assoc]
          rfl
        rw [hend, ← hz]
        by_cases hsa : n.start < a
        · rw [if_pos hsa, tr_cons_yes hsa, hta]
          have e1 : max n.start a = a := by omega
          rw [e1, Nat.sub_self, Nat.add_zero]
          show taken s p (253 :: (min (ends n) e - a) :: ((fill p' l (min (ends n) e) e).flatMap itemBytes ++ r)) a (⟨n.start, min (ends n) a - n.start, n.high⟩ :: acc) = _
          rw [taken.eq_def]
          dsimp only
          rw [if_neg (by decide), if_neg (by decide), if_pos rfl, if_pos (by show n.start + (min (ends n) a - n.start) = a; omega)]
          have e2 : a + (min (ends n) e - a) = min (ends n) e := by omega
          have e3 : min (ends n) a - n.start + (min (ends n) e - a) = min (ends n) e - n.start := by omega
          rw [e2, e3]
          rfl
        · rw [if_neg hsa]
          have e1 : max n.start a = n.start := by omega
          have hta2 : tr a (n :: l) = [] := tr_none fun m hm => by
            rcases List.mem_cons.mp hm with rfl | hm
            · omega
            · have := hc'.1 m hm
              unfold ends at this
              omega
          rw [e1, hta2]
          have e4 : a + (n.start - a) = n.start := by omega
          rw [e4]
          have hw : ((written p' n.high : Nat) : Int) = n.high + p.shift + 24 := by
            unfold written
            rw [hsh]
            omega
          show taken s p (written p' n.high :: (min (ends n) e - n.start) :: ((fill p' l (min (ends n) e) e).flatMap itemBytes ++ r)) n.start acc = _
          rw [taken.eq_def]
          dsimp only
          rw [if_neg (by omega), if_neg (by omega), if_neg (by omega)]
          have e2 : n.start + (min (ends n) e - n.start) = min (ends n) e := by unfold ends at *; omega
          have e3 : ((written p' n.high : Nat) : Int) - 24 - p.shift = n.high := by omega
          rw [e2, e3]
          rfl
theorem taken_write {s : Abs} {p p' : Player} (hsh : p'.shift = p.shift) (h1 : -24 ≤ p.shift) (h2 : p.shift ≤ 24) (hb : ∀ b ∈ s.bars, 1 ≤ b) (hc : Mx.Chain p'.notes) (hp : ∀ n ∈ p'.notes, 0 < n.long) (hh : ∀ n ∈ p'.notes, 0 ≤ n.high ∧ n.high ≤ 127) :
    ∀ (l em pre : List Nat), s.bars = pre ++ em ++ l → tr (sumOf pre) p'.notes = tr (sumOf pre + sumOf em) p'.notes →
      taken s p (write em.length (barsOf p' l (sumOf pre + sumOf em))) (sumOf pre) (tr (sumOf pre) p'.notes).reverse = some (tr (sumOf s.bars) p'.notes).reverse
  | [], em, pre, e, ht => by
    rw [barsOf, write]
    have e' : s.bars = pre ++ em := by rw [e, List.append_nil]
    have es : sumOf s.bars = sumOf pre + sumOf em := by rw [e', Mx.sumOf_append]
    split
    · rw [taken, es, ht]
    · have hbf : barsFrom s.bars (sumOf pre) em.length = some (sumOf em) := by
        rw [e', Mx.barsFrom_at em.length pre em (fun b hb' => hb b (by rw [e']; simp [hb'])) (Nat.le_refl _), List.take_length]
      rw [taken.eq_def]
      dsimp only
      rw [if_pos rfl, hbf]
      dsimp only
      rw [taken, es, ht]
  | n :: l, em, pre, e, ht => by
    rw [barsOf, write]
    have hf := fun r => taken_fill (s := s) hsh h1 h2 p'.notes [] (sumOf pre + sumOf em) (sumOf pre + sumOf em + n) r (by omega) hc hp hh
    simp only [List.append_nil] at hf
    by_cases hemp : isEmpty (fill p' p'.notes (sumOf pre + sumOf em) (sumOf pre + sumOf em + n)) = true
    · rw [if_pos hemp]
      have hsame : tr (sumOf pre + sumOf em) p'.notes = tr (sumOf pre + sumOf em + n) p'.notes := by
        obtain ⟨k, hk⟩ := isEmpty_iff.mp hemp
        have := hf []
        rw [hk] at this
        have e1 : taken s p (([Item.rest k]).flatMap itemBytes ++ []) (sumOf pre + sumOf em) (tr (sumOf pre + sumOf em) p'.notes).reverse = some (tr (sumOf pre + sumOf em) p'.notes).reverse := by
          show taken s p [254, k] _ _ = _
          rw [taken.eq_def]
          dsimp only
          rw [if_neg (by decide), if_pos rfl, taken]
        rw [e1, taken] at this
        exact List.reverse_inj.mp (Option.some.inj this)
      have e3 : sumOf pre + sumOf (em ++ [n]) = sumOf pre + sumOf em + n := by
        rw [Mx.sumOf_append]
        simp [sumOf, Nat.add_assoc]
      have ih := taken_write hsh h1 h2 hb hc hp hh l (em ++ [n]) pre (by rw [e]; simp) (by rw [e3, ht, hsame])
      rw [e3, List.length_append] at ih
      exact ih
    · rw [if_neg hemp]
      have e4 : sumOf (pre ++ em ++ [n]) = sumOf pre + sumOf em + n := by
        rw [Mx.sumOf_append, Mx.sumOf_append]
        simp [sumOf]
      have ih := taken_write hsh h1 h2 hb hc hp hh l [] (pre ++ em ++ [n]) (by rw [e]; simp) (by simp [sumOf])
      have e5 : sumOf (pre ++ em ++ [n]) + sumOf [] = sumOf pre + sumOf em + n := by
        rw [e4]
        rfl
      rw [e5, e4] at ih
      have body := hf (write 0 (barsOf p' l (sumOf pre + sumOf em + n)))
      have ih' : taken s p (write 0 (barsOf p' l (sumOf pre + sumOf em + n))) (sumOf pre + sumOf em + n) (tr (sumOf pre + sumOf em + n) p'.notes).reverse = some (tr (sumOf s.bars) p'.notes).reverse := ih
      rw [ih'] at body
      split
      · rename_i h0
        have : em = [] := List.eq_nil_of_length_eq_zero h0
        subst this
        simpa [sumOf] using body
      · rw [List.append_assoc]
        show taken s p (255 :: em.length :: _) _ _ = _
        have e' : s.bars = pre ++ (em ++ n :: l) := by rw [e]; simp
        have hbf : barsFrom s.bars (sumOf pre) em.length = some (sumOf em) := by
          rw [e', Mx.barsFrom_at em.length pre _ (fun b hb' => hb b (by rw [e']; simp [hb'])) (by simp)]
          simp
        rw [taken.eq_def]
        dsimp only
        rw [if_pos rfl, hbf]
        dsimp only
        rw [ht]
        exact body
theorem tr_all {a : Nat} {l : List Note} (hp : ∀ n ∈ l, 0 < n.long) (he : ∀ n ∈ l, ends n ≤ a) : tr a l = l := by
  induction l with
  | nil => rfl
  | cons n l ih =>
    have h1 := hp n (by simp)
    have h2 := he n (by simp)
    have e : min (ends n) a - n.start = n.long := by
      unfold ends at *
      omega
    rw [tr_cons_yes (by unfold ends at h2; omega), e, ih (fun m hm => hp m (by simp [hm])) (fun m hm => he m (by simp [hm]))]
theorem taken_part {s : Abs} {p p' : Player} (w : Mx.Wf s) (hsh : p'.shift = p.shift) (h1 : -24 ≤ p.shift) (h2 : p.shift ≤ 24) (hc : Mx.Chain p'.notes) (hp : ∀ n ∈ p'.notes, 0 < n.long) (hh : ∀ n ∈ p'.notes, 0 ≤ n.high ∧ n.high ≤ 127) (he : ∀ n ∈ p'.notes, ends n ≤ total s) :
    taken s p (part s p') 0 [] = some p'.notes.reverse := by
  have h := taken_write (s := s) hsh h1 h2 (fun b hb => (w.bars b hb).1) hc hp hh s.bars [] [] (by simp) rfl
  have e0 : sumOf ([] : List Nat) = 0 := rfl
  rw [e0, tr_none (a := 0) (fun n _ => Nat.zero_le _)] at h
  rw [tr_all (a := sumOf s.bars) hp he] at h
  exact h
theorem posLens_items {r : List Nat} (hr : posLens r) : ∀ (l : List Item), (∀ i ∈ l, Mx.ilen i ≠ 0) → posLens (l.flatMap itemBytes ++ r)
  | [], _ => hr
  | i :: l, h => by
    have ih := posLens_items hr l fun j hj => h j (by simp [hj])
    have h0 := h i (by simp)
    rw [List.flatMap_cons, List.append_assoc]
    cases i <;> exact ⟨h0, ih⟩
theorem fill_pos (p : Player) : ∀ (l : List Note) (a e : Nat), Mx.Chain l → (∀ n ∈ l, 0 < n.long) → (a < e ∨ ∀ n ∈ l, e ≤ n.start) → ∀ i ∈ fill p l a e, Mx.ilen i ≠ 0
  | [], a, e, _, _, _ => by
    intro i hi
    rw [fill, restOf] at hi
    split at hi
    · cases hi
    · simp at hi
      subst hi
      assumption
  | n :: l, a, e, hc, h, hae => by
    have hr : ∀ k i, i ∈ restOf k → Mx.ilen i ≠ 0 := by
      intro k i hi
      rw [restOf] at hi
      split at hi
      · cases hi
      · simp at hi
        subst hi
        assumption
    have hc' := List.pairwise_cons.mp hc
    have hn := h n (by simp)
    have hl : ∀ m ∈ l, 0 < m.long := fun m hm => h m (by simp [hm])
    intro i hi
    by_cases hes : e ≤ n.start
    · rw [fill, if_pos hes] at hi
      exact hr _ i hi
    · have hae' : a < e := by
        rcases hae with h | h
        · exact h
        · exact absurd (h n (by simp)) hes
      by_cases hea : ends n ≤ a
      · rw [fill, if_neg hes, if_pos hea] at hi
        exact fill_pos p l a e hc'.2 hl (.inl hae') i hi
      · rw [fill_turn (by omega) (by omega)] at hi
        rcases List.mem_append.mp hi with hi | hi
        · exact hr _ i hi
        · rcases List.mem_cons.mp hi with hi | hi
          · subst hi
            split
            · show _ - _ ≠ 0
              unfold ends at *
              omega
            · show _ - _ ≠ 0
              unfold ends at *
              omega
          · refine fill_pos p l _ e hc'.2 hl ?_ i hi
            by_cases hz : ends n < e
            · left
              omega
            · right
              intro m hm
              have := hc'.1 m hm
              omega
theorem posLens_write {p : Player} (hc : Mx.Chain p.notes) (hp : ∀ n ∈ p.notes, 0 < n.long) : ∀ (l : List Nat) (a k : Nat), (∀ b ∈ l, 1 ≤ b) → posLens (write k (barsOf p l a))
  | [], a, k, _ => by
    rw [barsOf, write]
    split
    · trivial
    · exact ⟨by assumption, trivial⟩
  | n :: l, a, k, hb => by
    have hn := hb n (by simp)
    have ih := fun a k => posLens_write hc hp l a k fun b hb' => hb b (by simp [hb'])
    rw [barsOf, write]
    split
    · exact ih _ _
    · have body := posLens_items (ih (a + n) 0) (fill p p.notes a (a + n)) (fill_pos p p.notes a (a + n) hc hp (.inl (by omega)))
      split
      · exact body
      · rw [List.append_assoc]
        exact ⟨by assumption, body⟩
def inR (p : Player) (n : Note) : Bool := inRange p n.high
theorem read_some {s : Abs} {p : Player} {b : List Nat} {l : List Note} (w : Mx.Wf s) (wp : Mx.WfP (total s) p) (h : spelled s.bars p.shift b 0 [] = some l) (hl : l.length ≤ 256) (hr : ∀ n ∈ l, inRange p n.high = true) (hw : part s { p with notes := l } = b) : notesOf s p b = some l := by
  obtain ⟨hc, hp, t, ht, he⟩ := spelled_ord b 0 [] l h List.Pairwise.nil (by simp) (by simp)
  have hr' : ∀ n ∈ l, p.low ≤ n.high ∧ n.high ≤ p.top := fun n hn => by simpa [inRange] using hr n hn
  have htt : t = total s := by
    have q := Mx.time_write (p := { p with notes := l }) wp.sh2 wp.top (fun n hn => (hr' n hn).2) s.bars (fun b hb => (w.bars b hb).1) s.bars [] [] (by simp)
    have e5 : part s { p with notes := l } = b := hw
    unfold part at e5
    rw [show sumOf ([] : List Nat) + sumOf [] = 0 from rfl, List.length_nil, e5, show sumOf ([] : List Nat) = 0 from rfl, ht] at q
    exact Option.some.inj q
  have htk : taken s p b 0 [] = some l.reverse := by
    have := taken_part (p := p) (p' := { p with notes := l }) w rfl wp.sh1 wp.sh2 hc hp (fun n hn => by
      have h1 := hr' n hn
      have h2 := wp.low0
      have h3 := wp.top
      omega) (fun n hn => by rw [← htt]; exact he n hn)
    rw [hw] at this
    exact this
  unfold notesOf
  rw [htk]
  simp only [List.reverse_reverse]
  rw [if_pos]
  refine ⟨hl, ?_, by rw [hw]; exact Mx.same_refl b⟩
  rw [List.all_eq_true]
  intro n hn
  rw [hr n hn, Bool.and_true]
  simpa using hp n hn
theorem read_of {s : Abs} {p : Player} {b : List Nat} {l : List Note} (w : Mx.Wf s) (wp : Mx.WfP (total s) p) (h : notesOf s p b = some l) : spelled s.bars p.shift b 0 [] = some l ∧ l.length ≤ 256 ∧ (∀ n ∈ l, inRange p n.high = true) ∧ part s { p with notes := l } = b := by
  have wl := Mx.notesOf_wf w wp h
  unfold notesOf at h
  cases e : taken s p b 0 [] with
  | none =>
    rw [e] at h
    cases h
  | some r =>
    rw [e] at h
    dsimp only at h
    split at h
    · rename_i hc
      cases h
      obtain ⟨h1, h2, h3⟩ := hc
      have h3' := Mx.same_eq h3
      have hpos : posLens b := by
        rw [← h3']
        exact posLens_write (p := { p with notes := r.reverse }) wl.ch wl.pos s.bars 0 0 fun b hb => (w.bars b hb).1
      refine ⟨taken_spelled b 0 [] r e hpos, h1, fun n hn => ?_, h3'⟩
      have := List.all_eq_true.mp h2 n hn
      rw [Bool.and_eq_true] at this
      exact this.2
    · cases h
theorem taken_odd {s : Abs} {p : Player} : ∀ (b : List Nat) (a : Nat) (l : List Note), b.length % 2 = 1 → taken s p b a l = none
  | [], a, l, h => by simp at h
  | [x], a, l, h => by rw [taken]
  | x :: n :: b, a, l, h => by
    have ih := fun a l => taken_odd (s := s) (p := p) b a l (by simp at h; omega)
    rw [taken.eq_def]
    dsimp only
    split
    · cases barsFrom s.bars a n with
      | none => rfl
      | some k => exact ih _ _
    · split
      · exact ih _ _
      · split
        · cases l with
          | nil => rfl
          | cons m q =>
            dsimp only
            split
            · exact ih _ _
            · rfl
        · exact ih _ _
theorem read_odd {s : Abs} {p : Player} {b : List Nat} (h : b.length % 2 = 1) : notesOf s p b = none := by
  unfold notesOf
  rw [taken_odd b 0 [] h]
def begins : List Nat → Nat → List Nat
  | [], a => [a]
  | n :: l, a => a :: begins l (a + n)
theorem begins_len : ∀ (l : List Nat) (a : Nat), (begins l a).length = l.length + 1
  | [], _ => rfl
  | n :: l, a => by simp [begins, begins_len l]
theorem begins_get : ∀ (l : List Nat) (a i : Nat), i ≤ l.length → (begins l a)[i]? = some (a + sumOf (l.take i))
  | [], a, i, h => by
    have : i = 0 := by simpa using h
    subst this
    simp [begins, sumOf]
  | n :: l, a, 0, h => by simp [begins, sumOf]
  | n :: l, a, i + 1, h => by
    have := begins_get l (a + n) i (by simpa using h)
    simp only [begins, List.getElem?_cons_succ, List.take_succ_cons, sumOf]
    rw [this]
    simp only [Nat.add_assoc]
theorem begins_snoc : ∀ (l : List Nat) (a n : Nat), begins (l ++ [n]) a = begins l a ++ [a + sumOf l + n]
  | [], a, n => by simp [begins, sumOf]
  | m :: l, a, n => by
    simp only [List.cons_append, begins, sumOf]
    rw [begins_snoc l (a + m) n]
    simp [Nat.add_assoc]
theorem begins_sorted {l : List Nat} (h : ∀ b ∈ l, 1 ≤ b) : ∀ {i j : Nat}, i < j → j ≤ l.length → sumOf (l.take i) < sumOf (l.take j) := by
  intro i j hij hj
  induction j with
  | zero => omega
  | succ j ih =>
    obtain ⟨n, hn⟩ : ∃ n, l[j]? = some n := ⟨_, List.getElem?_eq_getElem (by omega)⟩
    rw [sumOf_take_succ hn]
    have h1 := h n (List.mem_of_getElem? hn)
    by_cases hij2 : i = j
    · subst hij2
      omega
    · have := ih (by omega) (by omega)
      omega
theorem barsFrom_no {k : Nat} : ∀ {l : List Nat} {a : Nat}, (∀ b ∈ l, 1 ≤ b) → (∀ i, i ≤ l.length → a ≠ sumOf (l.take i)) → barsFrom l a k = none
  | l, 0, hb, h => by
    exact absurd rfl (h 0 (Nat.zero_le _))
  | [], a + 1, hb, h => by rw [barsFrom]
  | n :: l, a + 1, hb, h => by
    rw [barsFrom]
    split
    · rfl
    · rename_i h1
      refine barsFrom_no (fun b hb' => hb b (by simp [hb'])) fun i hi z => ?_
      refine h (i + 1) (by simpa using hi) ?_
      simp only [List.take_succ_cons, sumOf]
      omega
theorem barsFrom_yes {k : Nat} {l : List Nat} {i : Nat} (hb : ∀ b ∈ l, 1 ≤ b) (hi : i ≤ l.length) : barsFrom l (sumOf (l.take i)) k = if l.length < i + k then none else some (sumOf (l.take (i + k)) - sumOf (l.take i)) := by
  induction i generalizing l with
  | zero =>
    show barsFrom l 0 k = _
    cases l with
    | nil =>
      rw [barsFrom]
      simp [sumOf]
    | cons n l =>
      rw [barsFrom]
      simp [sumOf]
  | succ i ih =>
    cases l with
    | nil => simp at hi
    | cons n l =>
      have hn := hb n (by simp)
      have e : sumOf ((n :: l).take (i + 1)) = (n - 1 + sumOf (l.take i)) + 1 := by
        simp only [List.take_succ_cons, sumOf]
        omega
      rw [e, barsFrom, if_neg (by omega)]
      have e2 : n - 1 + sumOf (l.take i) + 1 - n = sumOf (l.take i) := by omega
      rw [e2, ih (fun b hb' => hb b (by simp [hb'])) (by simpa using hi)]
      have e3 : i + 1 + k = (i + k) + 1 := by omega
      rw [e3]
      simp only [List.length_cons, List.take_succ_cons, sumOf, Nat.add_lt_add_iff_right]
      split
      · rfl
      · congr 1
        omega
theorem part_len {s : Abs} {p : Player} (w : Mx.Wf s) (wp : Mx.WfP (total s) p) : (part s p).length ≤ 70000 := by
  have h1 := write_len (N := 513) (barsOf p s.bars 0) 0 fun b' hb' => by
    obtain ⟨j, hj⟩ := List.getElem?_of_mem hb'
    have hi := (List.getElem?_eq_some_iff.mp hj).1
    rw [barsOf_len] at hi
    obtain ⟨n, hn⟩ : ∃ n, s.bars[j]? = some n := ⟨_, List.getElem?_eq_getElem hi⟩
    rw [barsOf_get p hn] at hj
    cases hj
    have h2 := fill_len2 p p.notes (0 + sumOf (s.bars.take j)) (0 + sumOf (s.bars.take j) + n)
    have h3 := wp.len
    omega
  rw [barsOf_len] at h1
  have h4 := w.blen
  have h5 : s.bars.length * (2 * 513 + 2) ≤ 64 * (2 * 513 + 2) := Nat.mul_le_mul_right _ h4
  unfold part
  omega
end Mm
set_option linter.all false
namespace Mm
open Kct9
def CallIs (n : Int) (ns : List Int) (cl : Call) : Prop :=
  (n = 0 ∧ cl = .begin_) ∨ (∃ a : Nat, n = 1 ∧ ns = [(a : Int)] ∧ cl = .bar a) ∨ (∃ (h : Int) (a z : Nat), n = 2 ∧ ns = [h, (a : Int), (z : Int)] ∧ cl = .player h a z) ∨
  (∃ i a m h : Nat, n = 3 ∧ ns = [(i : Int), (a : Int), (m : Int), (h : Int)] ∧ cl = .note i a m h) ∨ (∃ i a : Nat, n = 4 ∧ ns = [(i : Int), (a : Int)] ∧ cl = .drop i a) ∨ (∃ i : Nat, n = 5 ∧ ns = [(i : Int)] ∧ cl = .part i) ∨
  (∃ (i : Nat) (k : Int) (b : List Nat), n = 6 ∧ ns = (i : Int) :: k :: b.map (fun z : Nat => (z : Int)) ∧ b.length ≤ 30000 ∧ (∀ z ∈ b, z < 256) ∧ cl = .read i b) ∨ (∃ i m t : Nat, n = 7 ∧ ns = [(i : Int), (m : Int), (t : Int)] ∧ cl = .pages i m t) ∨
  (∃ t : Nat, n = 8 ∧ ns = [(t : Int)] ∧ cl = .sounds t) ∨ (∃ k : Int, n = 9 ∧ ns = [k] ∧ cl = .move k) ∨ (∃ i j : Nat, n = 10 ∧ ns = [(i : Int), (j : Int)] ∧ cl = .parallels i j)
def sizeOf' (p : Int) : Int := if p = 0 then 0 else if p = 1 then 1 else if p = 2 then 3 else if p = 3 then 4 else if p = 4 then 2 else if p = 5 then 1 else if p = 6 then 2 else if p = 7 then 3 else if p = 8 then 1 else if p = 9 then 1 else 2
def PlainIs (p : Int) (r : List Int) : Prop :=
  (p = 0 ∧ r = []) ∨ (∃ a, p = 1 ∧ r = [a]) ∨ (∃ a b d, p = 2 ∧ r = [a, b, d]) ∨ (∃ a b d e, p = 3 ∧ r = [a, b, d, e]) ∨ (∃ a b, p = 4 ∧ r = [a, b]) ∨ (∃ a, p = 5 ∧ r = [a]) ∨
  (∃ a b d, p = 7 ∧ r = [a, b, d]) ∨ (∃ a, p = 8 ∧ r = [a]) ∨ (∃ a, p = 9 ∧ r = [a]) ∨ (∃ a b, p = 10 ∧ r = [a, b])
theorem len0 {r : List Int} (h : r.length = 0) : r = [] := match r, h with | [], _ => rfl
theorem len1 {r : List Int} (h : r.length = 1) : ∃ a, r = [a] := match r, h with | [a], _ => ⟨a, rfl⟩
theorem len2 {r : List Int} (h : r.length = 2) : ∃ a b, r = [a, b] := match r, h with | [a, b], _ => ⟨a, b, rfl⟩
theorem len3 {r : List Int} (h : r.length = 3) : ∃ a b d, r = [a, b, d] := match r, h with | [a, b, d], _ => ⟨a, b, d, rfl⟩
theorem len4 {r : List Int} (h : r.length = 4) : ∃ a b d e, r = [a, b, d, e] := match r, h with | [a, b, d, e], _ => ⟨a, b, d, e, rfl⟩
theorem shape_ite {p q : Int} {z : Option (Nat × Nat)} {x y : Nat × Nat} (h : (if p = q then some x else z) = some y) : (p = q ∧ x = y) ∨ (p ≠ q ∧ z = some y) := by
  by_cases e : p = q
  · rw [if_pos e] at h
    exact .inl ⟨e, Option.some.inj h⟩
  · rw [if_neg e] at h
    exact .inr ⟨e, h⟩
theorem shape_six {p : Int} {n k : Nat} (h : PyKct9.shape p = some (n, k)) : 0 ≤ p ∧ p ≤ 10 ∧ ((p ≠ 6 ∧ k = 0 ∧ sizeOf' p = n ∧ ∀ r : List Int, r.length = n → PlainIs p r) ∨ (p = 6 ∧ n = 1 ∧ k = 1)) := by
  unfold PyKct9.shape at h
  rcases shape_ite h with ⟨rfl, e⟩ | ⟨-, h⟩
  · cases e
    exact ⟨by decide, by decide, .inl ⟨by decide, rfl, rfl, fun r hr => .inl ⟨rfl, len0 hr⟩⟩⟩
  rcases shape_ite h with ⟨rfl, e⟩ | ⟨-, h⟩
  · cases e
    exact ⟨by decide, by decide, .inl ⟨by decide, rfl, rfl, fun r hr => .inr (.inl ((len1 hr).imp fun a e => ⟨rfl, e⟩))⟩⟩
  rcases shape_ite h with ⟨rfl, e⟩ | ⟨-, h⟩
  · cases e
    exact ⟨by decide, by decide, .inl ⟨by decide, rfl, rfl, fun r hr => .inr (.inr (.inl (let ⟨a, b, d, e⟩ := len3 hr; ⟨a, b, d, rfl, e⟩)))⟩⟩
  rcases shape_ite h with ⟨rfl, e⟩ | ⟨-, h⟩
  · cases e
    exact ⟨by decide, by decide, .inl ⟨by decide, rfl, rfl, fun r hr => .inr (.inr (.inr (.inl (let ⟨a, b, d, e, q⟩ := len4 hr; ⟨a, b, d, e, rfl, q⟩))))⟩⟩
  rcases shape_ite h with ⟨rfl, e⟩ | ⟨-, h⟩
  · cases e
    exact ⟨by decide, by decide, .inl ⟨by decide, rfl, rfl, fun r hr => .inr (.inr (.inr (.inr (.inl (let ⟨a, b, e⟩ := len2 hr; ⟨a, b, rfl, e⟩)))))⟩⟩
  rcases shape_ite h with ⟨rfl, e⟩ | ⟨-, h⟩
  · cases e
    exact ⟨by decide, by decide, .inl ⟨by decide, rfl, rfl, fun r hr => .inr (.inr (.inr (.inr (.inr (.inl ((len1 hr).imp fun a e => ⟨rfl, e⟩))))))⟩⟩
  rcases shape_ite h with ⟨rfl, e⟩ | ⟨-, h⟩
  · cases e
    exact ⟨by decide, by decide, .inr ⟨rfl, rfl, rfl⟩⟩
  rcases shape_ite h with ⟨rfl, e⟩ | ⟨-, h⟩
  · cases e
    exact ⟨by decide, by decide, .inl ⟨by decide, rfl, rfl, fun r hr => .inr (.inr (.inr (.inr (.inr (.inr (.inl (let ⟨a, b, d, e⟩ := len3 hr; ⟨a, b, d, rfl, e⟩)))))))⟩⟩
  rcases shape_ite h with ⟨rfl, e⟩ | ⟨-, h⟩
  · cases e
    exact ⟨by decide, by decide, .inl ⟨by decide, rfl, rfl, fun r hr => .inr (.inr (.inr (.inr (.inr (.inr (.inr (.inl ((len1 hr).imp fun a e => ⟨rfl, e⟩))))))))⟩⟩
  rcases shape_ite h with ⟨rfl, e⟩ | ⟨-, h⟩
  · cases e
    exact ⟨by decide, by decide, .inl ⟨by decide, rfl, rfl, fun r hr => .inr (.inr (.inr (.inr (.inr (.inr (.inr (.inr (.inl ((len1 hr).imp fun a e => ⟨rfl, e⟩)))))))))⟩⟩
  rcases shape_ite h with ⟨rfl, e⟩ | ⟨-, h⟩
  · cases e
    exact ⟨by decide, by decide, .inl ⟨by decide, rfl, rfl, fun r hr => .inr (.inr (.inr (.inr (.inr (.inr (.inr (.inr (.inr (let ⟨a, b, e⟩ := len2 hr; ⟨a, b, rfl, e⟩)))))))))⟩⟩
  cases h
theorem whole_plain {p : Int} {r : List Int} (h : PlainIs p r) : PyKct9.whole [p :: r] = [p :: r] := by
  rcases h with ⟨rfl, rfl⟩ | ⟨a, rfl, rfl⟩ | ⟨a, b, d, rfl, rfl⟩ | ⟨a, b, d, e, rfl, rfl⟩ | ⟨a, b, rfl, rfl⟩ | ⟨a, rfl, rfl⟩ | ⟨a, b, d, rfl, rfl⟩ | ⟨a, rfl, rfl⟩ | ⟨a, rfl, rfl⟩ | ⟨a, b, rfl, rfl⟩ <;> rfl
theorem and2 {a b : Bool} (h : (a && b) = true) : a = true ∧ b = true := by rwa [Bool.and_eq_true] at h
theorem nat32 {z : Int} (h : Kct9Neutral.natural z 32 = true) : ∃ n : Nat, z = (n : Int) := by
  unfold Kct9Neutral.natural at h
  simp at h
  exact ⟨z.toNat, by omega⟩
theorem bytes_of : ∀ {l : List Int}, (l.all fun z => Kct9Neutral.natural z 8) = true → ∃ b : List Nat, l = b.map (fun z : Nat => (z : Int)) ∧ (∀ z ∈ b, z < 256) ∧ l.map Int.toNat = b
  | [], _ => ⟨[], rfl, by simp, rfl⟩
  | z :: l, h => by
    rw [List.all_cons, Bool.and_eq_true] at h
    obtain ⟨b, e, hb, e2⟩ := bytes_of h.2
    have h1 := h.1
    unfold Kct9Neutral.natural at h1
    simp at h1
    refine ⟨z.toNat :: b, ?_, fun x hx => ?_, by rw [List.map_cons, e2]⟩
    · rw [List.map_cons, ← e]
      congr 1
      omega
    · rcases List.mem_cons.mp hx with rfl | hx
      · omega
      · exact hb x hx
theorem callIs_plain {p : Int} {r : List Int} (hp : PlainIs p r) (h : Kct9Neutral.asked1 [p :: r] = true) : CallIs p r (Kct9Neutral.call [p :: r]) := by
  rcases hp with ⟨rfl, rfl⟩ | ⟨a, rfl, rfl⟩ | ⟨a, b, d, rfl, rfl⟩ | ⟨a, b, d, e, rfl, rfl⟩ | ⟨a, b, rfl, rfl⟩ | ⟨a, rfl, rfl⟩ | ⟨a, b, d, rfl, rfl⟩ | ⟨a, rfl, rfl⟩ | ⟨a, rfl, rfl⟩ | ⟨a, b, rfl, rfl⟩
  · exact .inl ⟨rfl, rfl⟩
  · obtain ⟨a, rfl⟩ := nat32 (show Kct9Neutral.natural a 32 = true from h)
    exact .inr (.inl ⟨a, rfl, rfl, rfl⟩)
  · have h := and2 (show (Kct9Neutral.whole32 a && Kct9Neutral.natural b 32 && Kct9Neutral.natural d 32) = true from h)
    obtain ⟨b, rfl⟩ := nat32 (and2 h.1).2
    obtain ⟨d, rfl⟩ := nat32 h.2
    exact .inr (.inr (.inl ⟨_, b, d, rfl, rfl, rfl⟩))
  · have h := and2 (show (Kct9Neutral.natural a 32 && Kct9Neutral.natural b 32 && Kct9Neutral.natural d 32 && Kct9Neutral.natural e 32) = true from h)
    have h1 := and2 h.1
    obtain ⟨a, rfl⟩ := nat32 (and2 h1.1).1
    obtain ⟨b, rfl⟩ := nat32 (and2 h1.1).2
    obtain ⟨d, rfl⟩ := nat32 h1.2
    obtain ⟨e, rfl⟩ := nat32 h.2
    exact .inr (.inr (.inr (.inl ⟨a, b, d, e, rfl, rfl, rfl⟩)))
  · have h := and2 (show (Kct9Neutral.natural a 32 && Kct9Neutral.natural b 32) = true from h)
    obtain ⟨a, rfl⟩ := nat32 h.1
    obtain ⟨b, rfl⟩ := nat32 h.2
    exact .inr (.inr (.inr (.inr (.inl ⟨a, b, rfl, rfl, rfl⟩))))
  · obtain ⟨a, rfl⟩ := nat32 (show Kct9Neutral.natural a 32 = true from h)
    exact .inr (.inr (.inr (.inr (.inr (.inl ⟨a, rfl, rfl, rfl⟩)))))
  · have h := and2 (show (Kct9Neutral.natural a 32 && Kct9Neutral.natural b 32 && Kct9Neutral.natural d 32) = true from h)
    obtain ⟨a, rfl⟩ := nat32 (and2 h.1).1
    obtain ⟨b, rfl⟩ := nat32 (and2 h.1).2
    obtain ⟨d, rfl⟩ := nat32 h.2
    exact .inr (.inr (.inr (.inr (.inr (.inr (.inr (.inl ⟨a, b, d, rfl, rfl, rfl⟩)))))))
  · obtain ⟨a, rfl⟩ := nat32 (show Kct9Neutral.natural a 32 = true from h)
    exact .inr (.inr (.inr (.inr (.inr (.inr (.inr (.inr (.inl ⟨a, rfl, rfl, rfl⟩))))))))
  · exact .inr (.inr (.inr (.inr (.inr (.inr (.inr (.inr (.inr (.inl ⟨_, rfl, rfl, rfl⟩)))))))))
  · have h := and2 (show (Kct9Neutral.natural a 32 && Kct9Neutral.natural b 32) = true from h)
    obtain ⟨a, rfl⟩ := nat32 h.1
    obtain ⟨b, rfl⟩ := nat32 h.2
    exact .inr (.inr (.inr (.inr (.inr (.inr (.inr (.inr (.inr (.inr ⟨a, b, rfl, rfl, rfl⟩)))))))))
theorem callIs_read {i k : Int} {b : List Int} (hb : b.length ≤ 30000) (h : Kct9Neutral.asked1 [[6, i], b] = true) : CallIs 6 (i :: k :: b) (Kct9Neutral.call [[6, i], b]) := by
  have h' : (Kct9Neutral.natural i 32 && b.all fun z => Kct9Neutral.natural z 8) = true := h
  rw [Bool.and_eq_true] at h'
  obtain ⟨n, rfl⟩ := nat32 h'.1
  obtain ⟨c, rfl, hc, e2⟩ := bytes_of h'.2
  refine .inr (.inr (.inr (.inr (.inr (.inr (.inl ⟨n, k, c, rfl, rfl, by simpa using hb, hc, ?_⟩))))))
  show Call.read _ ((c.map fun z : Nat => (z : Int)).map Int.toNat) = _
  rw [e2]
  rfl
theorem parse {cs : List Int} {kk f : Nat} {ccs : List (List (List Int))} (h : PyFlat.calls PyKct9.shape f (cs.drop kk) = some ccs) (hk : kk < cs.length) (hl : cs.length ≤ 30000) :
    ∃ (p : Int) (c : List (List Int)) (ccs' : List (List (List Int))) (b f' : Nat), cs[kk]? = some p ∧ 0 ≤ p ∧ p ≤ 10 ∧ (p = 6 → kk + 2 < cs.length) ∧ ccs = c :: ccs' ∧ (b : Int) = (kk : Int) + 1 + sizeOf' p + (if p = 6 then (cs[kk + 2]?).getD 0 else 0) ∧ kk + 1 ≤ b ∧ b ≤ cs.length ∧
      PyFlat.calls PyKct9.shape f' (cs.drop b) = some ccs' ∧ (Kct9Neutral.asked1 c = true → CallIs p ((cs.drop (kk + 1)).take (b - (kk + 1))) (Kct9Neutral.call c)) := by
  have hd : cs.drop kk = cs[kk] :: cs.drop (kk + 1) := List.drop_eq_getElem_cons hk
  rw [hd] at h
  cases f with
  | zero => simp [PyFlat.calls] at h
  | succ f =>
    rw [PyFlat.calls] at h
    generalize hp : cs[kk] = p at h
    have hp' : cs[kk]? = some p := by rw [List.getElem?_eq_getElem hk, hp]
    have hdl : (cs.drop (kk + 1)).length = cs.length - (kk + 1) := List.length_drop
    cases hc : PyFlat.call PyKct9.shape (p :: cs.drop (kk + 1)) with
    | none =>
      rw [hc] at h
      cases h
    | some ct =>
      obtain ⟨c, t⟩ := ct
      rw [hc] at h
      simp only at h
      cases hq : PyFlat.calls PyKct9.shape f t with
      | none =>
        rw [hq] at h
        cases h
      | some ccs' =>
        rw [hq] at h
        cases h
        unfold PyFlat.call at hc
        dsimp only at hc
        cases hsh : PyKct9.shape p with
        | none =>
          rw [hsh] at hc
          cases hc
        | some nk =>
          obtain ⟨n, k⟩ := nk
          rw [hsh] at hc
          simp only at hc
          obtain ⟨p0, p1, hcase⟩ := shape_six hsh
          by_cases hlen : (cs.drop (kk + 1)).length < n
          · rw [if_pos hlen] at hc
            cases hc
          · rw [if_neg hlen] at hc
            rcases hcase with ⟨hp6, rfl, hsz, hpl⟩ | ⟨rfl, rfl, rfl⟩
            · simp only [PyFlat.rows] at hc
              cases hc
              refine ⟨p, _, ccs', kk + 1 + n, f, hp', p0, p1, fun z => absurd z hp6, rfl, ?_, by omega, by omega, ?_, fun ha => ?_⟩
              · rw [if_neg hp6, hsz]
                omega
              · rw [List.drop_drop] at hq
                exact hq
              · rw [show kk + 1 + n - (kk + 1) = n by omega]
                exact callIs_plain (hpl _ (by rw [List.length_take]; omega)) ha
            · cases hr : cs.drop (kk + 1) with
              | nil =>
                rw [hr] at hlen
                simp at hlen
              | cons i r2 =>
                rw [hr] at hc hdl
                simp only [List.drop_succ_cons, List.drop_zero, PyFlat.rows] at hc
                cases r2 with
                | nil => simp [PyFlat.row] at hc
                | cons m r3 =>
                  rw [PyFlat.row] at hc
                  by_cases hm : 0 ≤ m ∧ m.toNat ≤ r3.length
                  · rw [if_pos hm] at hc
                    simp only at hc
                    cases hc
                    have hdl' : r3.length + 2 = cs.length - (kk + 1) := by simpa using hdl
                    have hm2 : cs[kk + 2]? = some m := by
                      have : (cs.drop (kk + 1))[1]? = some m := by rw [hr]; rfl
                      rw [List.getElem?_drop] at this
                      exact this
                    have hd3 : cs.drop (kk + 3) = r3 := by
                      have : (cs.drop (kk + 1)).drop 2 = r3 := by rw [hr]; rfl
                      rw [List.drop_drop] at this
                      exact this
                    refine ⟨6, _, ccs', kk + 3 + m.toNat, f, hp', by decide, by decide, fun _ => by omega, rfl, ?_, by omega, by omega, ?_, fun ha => ?_⟩
                    · rw [if_pos rfl, hm2]
                      show _ = (kk : Int) + 1 + 2 + m
                      omega
                    · rw [← List.drop_drop, hd3]
                      exact hq
                    · rw [show kk + 3 + m.toNat - (kk + 1) = m.toNat + 2 by omega]
                      have e : (i :: m :: r3).take (m.toNat + 2) = i :: m :: r3.take m.toNat := by simp
                      rw [e]
                      exact callIs_read (by rw [List.length_take]; omega) ha
                  · rw [if_neg hm] at hc
                    cases hc
theorem played_from (s : Abs) : ∀ l : List (List (List Int)), PyFlat.played Kct9Neutral.step s l = Kct9Neutral.answersFrom s l
  | [] => rfl
  | c :: l => by
    rw [PyFlat.played, Kct9Neutral.answersFrom, played_from _ l]
theorem told_len : ∀ l : List (List Int), (PyFlat.told l).length = (l.map List.length).sum + l.length
  | [] => rfl
  | a :: l => by
    have ih := told_len l
    unfold PyFlat.told at ih ⊢
    rw [List.flatMap_cons, List.length_append, ih]
    simp
    omega
theorem foldl_sum : ∀ (l : List Nat) (a : Nat), l.foldl (fun x y => x + y) a = a + l.sum
  | [], a => by simp
  | x :: l, a => by
    rw [List.foldl_cons, foldl_sum l]
    simp
    omega
theorem played_len (s : Abs) : ∀ l : List (List (List Int)), (PyFlat.played Kct9Neutral.step s l).length = l.length
  | [] => rfl
  | c :: l => by
    rw [PyFlat.played]
    simp [played_len _ l]
theorem call_whole {l t : List Int} {c : List (List Int)} (h : PyFlat.call PyKct9.shape l = some (c, t)) : PyKct9.whole c = c := by
  cases l with
  | nil => cases h
  | cons p l =>
    unfold PyFlat.call at h
    dsimp only at h
    cases hsh : PyKct9.shape p with
    | none =>
      rw [hsh] at h
      cases h
    | some nk =>
      obtain ⟨n, k⟩ := nk
      rw [hsh] at h
      simp only at h
      by_cases hlen : l.length < n
      · rw [if_pos hlen] at h
        cases h
      · rw [if_neg hlen] at h
        rcases (shape_six hsh).2.2 with ⟨hp6, rfl, hsz, hpl⟩ | ⟨rfl, rfl, rfl⟩
        · cases h
          exact whole_plain (hpl _ (by rw [List.length_take]; omega))
        · cases l with
          | nil => exact absurd (Nat.succ_pos 0) hlen
          | cons i r2 =>
            cases r2 with
            | nil => cases h
            | cons m r3 =>
              simp only [List.drop_succ_cons, List.drop_zero, PyFlat.rows] at h
              rw [PyFlat.row] at h
              by_cases hm : 0 ≤ m ∧ m.toNat ≤ r3.length
              · rw [if_pos hm] at h
                cases h
                rfl
              · rw [if_neg hm] at h
                cases h
theorem calls_whole : ∀ (f : Nat) {l : List Int} {cs : List (List (List Int))}, PyFlat.calls PyKct9.shape f l = some cs → cs.map PyKct9.whole = cs
  | _, [], _, h => by
    rw [PyFlat.calls] at h
    cases h
    rfl
  | 0, p :: l, _, h => by
    rw [PyFlat.calls] at h
    cases h
  | f + 1, p :: l, cs, h => by
    rw [PyFlat.calls] at h
    cases hc : PyFlat.call PyKct9.shape (p :: l) with
    | none =>
      rw [hc] at h
      cases h
    | some ct =>
      obtain ⟨c, t⟩ := ct
      rw [hc] at h
      simp only at h
      cases hq : PyFlat.calls PyKct9.shape f t with
      | none =>
        rw [hq] at h
        cases h
      | some ccs =>
        rw [hq] at h
        cases h
        rw [List.map_cons, call_whole hc, calls_whole f hq]
theorem asked_of {cs : List Int} (h : PyKct9.answers_asked cs = true) : ∃ ccs, PyFlat.calls PyKct9.shape cs.length cs = some ccs ∧ PyKct9.answers cs = PyFlat.told (PyFlat.played Kct9Neutral.step Kct9.first ccs) ∧ (∀ c ∈ ccs, Kct9Neutral.asked1 c = true) ∧ (PyFlat.told (PyFlat.played Kct9Neutral.step Kct9.first ccs)).length ≤ 1003000 := by
  unfold PyKct9.answers_asked at h
  cases e : PyKct9.calls cs with
  | none =>
    rw [e] at h
    cases h
  | some ccs =>
    rw [e] at h
    simp only [Bool.and_eq_true] at h
    have e1 : PyFlat.calls PyKct9.shape cs.length cs = some ccs := by
      unfold PyKct9.calls at e
      cases q : PyFlat.calls PyKct9.shape cs.length cs with
      | none =>
        rw [q] at e
        cases e
      | some l =>
        rw [q] at e
        simp only [calls_whole _ q] at e
        exact e
    have e2 : PyKct9.answers cs = PyFlat.told (PyFlat.played Kct9Neutral.step Kct9.first ccs) := by
      unfold PyKct9.answers
      rw [e]
      rfl
    refine ⟨ccs, e1, e2, ?_, ?_⟩
    · have h2 := h.2
      unfold Kct9Neutral.asked at h2
      simp only [Bool.and_eq_true] at h2
      exact fun c hc => List.all_eq_true.mp h2.1.2.1 c hc
    · have h1 := h.1
      have h2 := h.2
      unfold PyFlat.atMost at h1
      unfold Kct9Neutral.asked at h2
      simp only [Bool.and_eq_true, decide_eq_true_eq] at h1 h2
      have h3 := h2.2
      unfold Kct9Neutral.few_ at h3
      simp only [decide_eq_true_eq] at h3
      rw [foldl_sum] at h3
      have e4 : Kct9Neutral.answers ccs = PyFlat.played Kct9Neutral.step Kct9.first ccs := (played_from _ ccs).symm
      rw [e4] at h3
      rw [told_len, played_len]
      omega
end Mm
set_option Elab.async false
set_option maxRecDepth 100000
set_option linter.all false
set_option maxHeartbeats 2000000
namespace Ps
open PySem PySem.Spec PyProof.Rows L2
def top (i : Nat) : Stmt := PySem.Challenge.pw_partscores_s01_answers.main.body.getD i (.Pass ⟨0, 0, 0, 0⟩)
abbrev s_first_behind : Stmt := top 5
abbrev s_written_note : Stmt := top 6
abbrev s_written_bar : Stmt := top 7
abbrev s_written_bars : Stmt := top 8
abbrev s_written_empty : Stmt := top 9
abbrev s_written_part : Stmt := top 10
abbrev s_silent_about_ends : Stmt := top 12
abbrev s_places_to_end : Stmt := top 13
abbrev s_furthest_end : Stmt := top 14
abbrev s_page_ends : Stmt := top 15
abbrev s_steps : Stmt := top 19
abbrev s_is_parallel : Stmt := top 20
abbrev s_goes_parallel : Stmt := top 21
abbrev s_count_parallels : Stmt := top 22
abbrev s_Note_init : Stmt := inClass (top 37) 0
abbrev s_Player_init : Stmt := inClass (top 38) 0
abbrev s_Player_may_sound : Stmt := inClass (top 38) 1
abbrev s_Player_is_silent : Stmt := inClass (top 38) 2
abbrev s_Player_take : Stmt := inClass (top 38) 3
abbrev s_Player_leave_out : Stmt := inClass (top 38) 4
abbrev s_Player_note_at : Stmt := inClass (top 38) 5
abbrev s_Player_may_move : Stmt := inClass (top 38) 6
abbrev s_Player_move_notes : Stmt := inClass (top 38) 7
abbrev s_Score_init : Stmt := inClass (top 39) 0
abbrev s_Score_begin : Stmt := inClass (top 39) 1
abbrev s_Score_last_end : Stmt := inClass (top 39) 2
abbrev s_Score_has_player : Stmt := inClass (top 39) 3
abbrev s_Score_new_bar : Stmt := inClass (top 39) 4
abbrev s_Score_new_player : Stmt := inClass (top 39) 5
abbrev s_Score_new_note : Stmt := inClass (top 39) 6
abbrev s_Score_drop_note : Stmt := inClass (top 39) 7
abbrev s_Score_move_all : Stmt := inClass (top 39) 8
abbrev s_bar_begins : Stmt := top 41
abbrev s_behind_empty : Stmt := top 42
abbrev s_spelled_notes : Stmt := top 43
abbrev s_read_notes : Stmt := top 44
abbrev s_part_answer : Stmt := top 57
abbrev s_read_answer : Stmt := top 58
abbrev s_pages_answer : Stmt := top 59
abbrev s_sounds_answer : Stmt := top 60
abbrev s_parallels_answer : Stmt := top 61
abbrev s_answer : Stmt := top 62
abbrev s_behind_call : Stmt := top 63
abbrev s_answers : Stmt := top 64
theorem sc_first_behind : FnScope ["notes", "first", "tick", "k"] ["notes", "first", "tick"] (defScope s_first_behind) := ⟨rfl, rfl, rfl, by decide +kernel, rfl, by decide +kernel, by decide +kernel⟩
theorem sc_written_note : FnScope ["note", "shift", "begin", "end", "length"] ["note", "shift", "begin", "end"] (defScope s_written_note) := ⟨rfl, rfl, rfl, by decide +kernel, rfl, by decide +kernel, by decide +kernel⟩
theorem sc_written_bar : FnScope ["player", "first", "begin", "end", "row", "at", "k", "note"] ["player", "first", "begin", "end"] (defScope s_written_bar) := ⟨rfl, rfl, rfl, by decide +kernel, rfl, by decide +kernel, by decide +kernel⟩
theorem sc_written_bars : FnScope ["bars", "player", "rows", "first", "begin", "length", "end"] ["bars", "player"] (defScope s_written_bars) := ⟨rfl, rfl, rfl, by decide +kernel, rfl, by decide +kernel, by decide +kernel⟩
theorem sc_written_empty : FnScope ["count"] ["count"] (defScope s_written_empty) := ⟨rfl, rfl, rfl, by decide +kernel, rfl, by decide +kernel, by decide +kernel⟩
theorem sc_written_part : FnScope ["bars", "player", "part", "empty", "row", "pair"] ["bars", "player"] (defScope s_written_part) := ⟨rfl, rfl, rfl, by decide +kernel, rfl, by decide +kernel, by decide +kernel⟩
theorem sc_silent_about_ends : FnScope ["bars", "notes", "counts", "last_end", "silent_from", "end", "k", "length", "silent_to"] ["bars", "notes"] (defScope s_silent_about_ends) := ⟨rfl, rfl, rfl, by decide +kernel, rfl, by decide +kernel, by decide +kernel⟩
theorem sc_places_to_end : FnScope ["bars", "notes", "rest", "places", "count"] ["bars", "notes", "rest"] (defScope s_places_to_end) := ⟨rfl, rfl, rfl, by decide +kernel, rfl, by decide +kernel, by decide +kernel⟩
theorem sc_furthest_end : FnScope ["rows", "places", "begin", "most", "furthest", "standing", "k"] ["rows", "places", "begin", "most"] (defScope s_furthest_end) := ⟨rfl, rfl, rfl, by decide +kernel, rfl, by decide +kernel, by decide +kernel⟩
theorem sc_page_ends : FnScope ["bars", "player", "most", "rest", "rows", "places", "ends", "begin", "end"] ["bars", "player", "most", "rest"] (defScope s_page_ends) := ⟨rfl, rfl, rfl, by decide +kernel, rfl, by decide +kernel, by decide +kernel⟩
theorem sc_steps : FnScope ["notes", "found", "k", "before", "behind"] ["notes"] (defScope s_steps) := ⟨rfl, rfl, rfl, by decide +kernel, rfl, by decide +kernel, by decide +kernel⟩
theorem sc_is_parallel : FnScope ["high", "other"] ["high", "other"] (defScope s_is_parallel) := ⟨rfl, rfl, rfl, by decide +kernel, rfl, by decide +kernel, by decide +kernel⟩
theorem sc_goes_parallel : FnScope ["step", "other", "up", "down"] ["step", "other"] (defScope s_goes_parallel) := ⟨rfl, rfl, rfl, by decide +kernel, rfl, by decide +kernel, by decide +kernel⟩
theorem sc_count_parallels : FnScope ["notes", "other_notes", "other_steps", "count", "tick", "step"] ["notes", "other_notes"] (defScope s_count_parallels) := ⟨rfl, rfl, rfl, by decide +kernel, rfl, by decide +kernel, by decide +kernel⟩
theorem sc_Note_init : FnScope ["self", "start", "end", "high"] ["self", "start", "end", "high"] (defScope s_Note_init) := ⟨rfl, rfl, rfl, by decide +kernel, rfl, by decide +kernel, by decide +kernel⟩
theorem sc_Player_init : FnScope ["self", "shift", "low", "top"] ["self", "shift", "low", "top"] (defScope s_Player_init) := ⟨rfl, rfl, rfl, by decide +kernel, rfl, by decide +kernel, by decide +kernel⟩
theorem sc_Player_may_sound : FnScope ["self", "high"] ["self", "high"] (defScope s_Player_may_sound) := ⟨rfl, rfl, rfl, by decide +kernel, rfl, by decide +kernel, by decide +kernel⟩
theorem sc_Player_is_silent : FnScope ["self", "start", "end", "note"] ["self", "start", "end"] (defScope s_Player_is_silent) := ⟨rfl, rfl, rfl, by decide +kernel, rfl, by decide +kernel, by decide +kernel⟩
theorem sc_Player_take : FnScope ["self", "added"] ["self", "added"] (defScope s_Player_take) := ⟨rfl, rfl, rfl, by decide +kernel, rfl, by decide +kernel, by decide +kernel⟩
theorem sc_Player_leave_out : FnScope ["self", "start", "note"] ["self", "start"] (defScope s_Player_leave_out) := ⟨rfl, rfl, rfl, by decide +kernel, rfl, by decide +kernel, by decide +kernel⟩
theorem sc_Player_note_at : FnScope ["self", "tick", "first", "behind", "middle", "note"] ["self", "tick"] (defScope s_Player_note_at) := ⟨rfl, rfl, rfl, by decide +kernel, rfl, by decide +kernel, by decide +kernel⟩
theorem sc_Player_may_move : FnScope ["self", "k", "highs", "note"] ["self", "k"] (defScope s_Player_may_move) := ⟨rfl, rfl, rfl, by decide +kernel, rfl, by decide +kernel, by decide +kernel⟩
theorem sc_Player_move_notes : FnScope ["self", "k", "note"] ["self", "k"] (defScope s_Player_move_notes) := ⟨rfl, rfl, rfl, by decide +kernel, rfl, by decide +kernel, by decide +kernel⟩
theorem sc_Score_init : FnScope ["self"] ["self"] (defScope s_Score_init) := ⟨rfl, rfl, rfl, by decide +kernel, rfl, by decide +kernel, by decide +kernel⟩
theorem sc_Score_begin : FnScope ["self"] ["self"] (defScope s_Score_begin) := ⟨rfl, rfl, rfl, by decide +kernel, rfl, by decide +kernel, by decide +kernel⟩
theorem sc_Score_last_end : FnScope ["self"] ["self"] (defScope s_Score_last_end) := ⟨rfl, rfl, rfl, by decide +kernel, rfl, by decide +kernel, by decide +kernel⟩
theorem sc_Score_has_player : FnScope ["self", "i"] ["self", "i"] (defScope s_Score_has_player) := ⟨rfl, rfl, rfl, by decide +kernel, rfl, by decide +kernel, by decide +kernel⟩
theorem sc_Score_new_bar : FnScope ["self", "length"] ["self", "length"] (defScope s_Score_new_bar) := ⟨rfl, rfl, rfl, by decide +kernel, rfl, by decide +kernel, by decide +kernel⟩
theorem sc_Score_new_player : FnScope ["self", "shift", "low", "top"] ["self", "shift", "low", "top"] (defScope s_Score_new_player) := ⟨rfl, rfl, rfl, by decide +kernel, rfl, by decide +kernel, by decide +kernel⟩
theorem sc_Score_new_note : FnScope ["self", "i", "start", "length", "high", "player", "end"] ["self", "i", "start", "length", "high"] (defScope s_Score_new_note) := ⟨rfl, rfl, rfl, by decide +kernel, rfl, by decide +kernel, by decide +kernel⟩
theorem sc_Score_drop_note : FnScope ["self", "i", "start", "player", "before"] ["self", "i", "start"] (defScope s_Score_drop_note) := ⟨rfl, rfl, rfl, by decide +kernel, rfl, by decide +kernel, by decide +kernel⟩
theorem sc_Score_move_all : FnScope ["self", "k", "player"] ["self", "k"] (defScope s_Score_move_all) := ⟨rfl, rfl, rfl, by decide +kernel, rfl, by decide +kernel, by decide +kernel⟩
theorem sc_bar_begins : FnScope ["bars", "begins", "length"] ["bars"] (defScope s_bar_begins) := ⟨rfl, rfl, rfl, by decide +kernel, rfl, by decide +kernel, by decide +kernel⟩
theorem sc_behind_empty : FnScope ["begins", "at", "count", "number"] ["begins", "at", "count"] (defScope s_behind_empty) := ⟨rfl, rfl, rfl, by decide +kernel, rfl, by decide +kernel, by decide +kernel⟩
theorem sc_spelled_notes : FnScope ["bars", "shift", "part", "begins", "notes", "at", "k", "head", "length", "behind", "longer"] ["bars", "shift", "part"] (defScope s_spelled_notes) := ⟨rfl, rfl, rfl, by decide +kernel, rfl, by decide +kernel, by decide +kernel⟩
theorem sc_read_notes : FnScope ["bars", "player", "part", "notes", "reader", "note"] ["bars", "player", "part"] (defScope s_read_notes) := ⟨rfl, rfl, rfl, by decide +kernel, rfl, by decide +kernel, by decide +kernel⟩
theorem sc_part_answer : FnScope ["score", "i"] ["score", "i"] (defScope s_part_answer) := ⟨rfl, rfl, rfl, by decide +kernel, rfl, by decide +kernel, by decide +kernel⟩
theorem sc_read_answer : FnScope ["score", "i", "part", "player", "notes"] ["score", "i", "part"] (defScope s_read_answer) := ⟨rfl, rfl, rfl, by decide +kernel, rfl, by decide +kernel, by decide +kernel⟩
theorem sc_pages_answer : FnScope ["score", "i", "most", "rest", "ends"] ["score", "i", "most", "rest"] (defScope s_pages_answer) := ⟨rfl, rfl, rfl, by decide +kernel, rfl, by decide +kernel, by decide +kernel⟩
theorem sc_sounds_answer : FnScope ["score", "tick", "count", "pairs", "i", "player", "note"] ["score", "tick"] (defScope s_sounds_answer) := ⟨rfl, rfl, rfl, by decide +kernel, rfl, by decide +kernel, by decide +kernel⟩
theorem sc_parallels_answer : FnScope ["score", "i", "j"] ["score", "i", "j"] (defScope s_parallels_answer) := ⟨rfl, rfl, rfl, by decide +kernel, rfl, by decide +kernel, by decide +kernel⟩
theorem sc_answer : FnScope ["score", "call", "numbers"] ["score", "call", "numbers"] (defScope s_answer) := ⟨rfl, rfl, rfl, by decide +kernel, rfl, by decide +kernel, by decide +kernel⟩
theorem sc_behind_call : FnScope ["calls", "k", "behind"] ["calls", "k"] (defScope s_behind_call) := ⟨rfl, rfl, rfl, by decide +kernel, rfl, by decide +kernel, by decide +kernel⟩
theorem sc_answers : FnScope ["calls", "score", "given", "k", "behind", "answered"] ["calls"] (defScope s_answers) := ⟨rfl, rfl, rfl, by decide +kernel, rfl, by decide +kernel, by decide +kernel⟩
structure Cl where
  Note : Addr
  Player : Addr
  Score : Addr
structure Txt (K : PySem.W.Frag) (mg : Str → Option Value) (c : Cl) : Prop where
  c_Note : Cls K c.Note
  c_Player : Cls K c.Player
  c_Score : Cls K c.Score
  a_Note_start : NoAttr K c.Note "start"
  a_Note_end : NoAttr K c.Note "end"
  a_Note_high : NoAttr K c.Note "high"
  a_Player_shift : NoAttr K c.Player "shift"
  a_Player_low : NoAttr K c.Player "low"
  a_Player_top : NoAttr K c.Player "top"
  a_Player_notes : NoAttr K c.Player "notes"
  a_Score_bars : NoAttr K c.Score "bars"
  a_Score_players : NoAttr K c.Score "players"
  n_EMPTY : Num mg "EMPTY" (255)
  n_REST : Num mg "REST" (254)
  n_GOES_ON : Num mg "GOES_ON" (253)
  n_LIFT : Num mg "LIFT" (24)
  n_OCTAVE : Num mg "OCTAVE" (12)
  n_NOT_THERE : Num mg "NOT_THERE" (-2)
  n_AT_ONCE : Num mg "AT_ONCE" (-17)
  n_NOT_ALLOWED : Num mg "NOT_ALLOWED" (-22)
  n_NO_ROOM : Num mg "NO_ROOM" (-28)
  n_NO_PAGES : Num mg "NO_PAGES" (-33)
  n_OUT_OF_RANGE : Num mg "OUT_OF_RANGE" (-34)
  n_NOT_A_PART : Num mg "NOT_A_PART" (-71)
  n_MOST_BARS : Num mg "MOST_BARS" (64)
  n_LONGEST_BAR : Num mg "LONGEST_BAR" (64)
  n_MOST_PLAYERS : Num mg "MOST_PLAYERS" (16)
  n_WIDEST_SHIFT : Num mg "WIDEST_SHIFT" (24)
  n_HIGHEST : Num mg "HIGHEST" (127)
  n_MOST_NOTES : Num mg "MOST_NOTES" (256)
  n_BEGIN : Num mg "BEGIN" (0)
  n_BAR : Num mg "BAR" (1)
  n_PLAYER : Num mg "PLAYER" (2)
  n_NOTE : Num mg "NOTE" (3)
  n_DROP : Num mg "DROP" (4)
  n_PART : Num mg "PART" (5)
  n_READ : Num mg "READ" (6)
  n_PAGES : Num mg "PAGES" (7)
  n_SOUNDS : Num mg "SOUNDS" (8)
  n_MOVE : Num mg "MOVE" (9)
  k_PARALLEL : KTup K mg "PARALLEL" [.int (0), .int (7)]
  k_SIZES : KTup K mg "SIZES" [.int (0), .int (1), .int (3), .int (4), .int (2), .int (1), .int (2), .int (3), .int (1), .int (1), .int (2)]
  b_abs : mg "abs" = none
  b_all : mg "all" = none
  b_enumerate : mg "enumerate" = none
  b_len : mg "len" = none
  b_max : mg "max" = none
  b_min : mg "min" = none
  b_range : mg "range" = none
  b_sorted : mg "sorted" = none
  b_sum : mg "sum" = none
theorem cxK {CX : CXT} {P : Program} {w : World} {K : PySem.W.Frag} {mg : Str → Option Value} {base : Heap} {N : List Str} {qual : Str} {scope : Scope} {f : Addr} {cd : Value} {A : Around} {outer : List Env} {s : Shared} {H : Hp} {E : XK} : (cxOf CX P w K mg base N qual scope f cd A outer s H E).K = K := rfl
theorem ite_dec {c A B : Prop} [Decidable c] : (if decide c = true then A else B) ↔ ((c → A) ∧ (¬ c → B)) := by
  by_cases h : c <;> simp [h]
theorem ite_bool {b : Bool} {A B : Prop} : (if b = true then A else B) ↔ ((b = true → A) ∧ (b = false → B)) := by
  cases b <;> simp
theorem eqI {i j : Int} : (V.int i = V.int j) = (i = j) := by simp
def fs_Note (x0 x1 x2 : V) : List (Str × V) := [("start", x0), ("end", x1), ("high", x2)]
theorem l_Note_start {x0 x1 x2 : V} : (fs_Note x0 x1 x2).lookup ("start" : Str) = some x0 := by rfl
theorem p_Note_start {x0 x1 x2 y : V} : putF "start" y (fs_Note x0 x1 x2) = fs_Note y x1 x2 := by rfl
theorem l_Note_end {x0 x1 x2 : V} : (fs_Note x0 x1 x2).lookup ("end" : Str) = some x1 := by rfl
theorem p_Note_end {x0 x1 x2 y : V} : putF "end" y (fs_Note x0 x1 x2) = fs_Note x0 y x2 := by rfl
theorem l_Note_high {x0 x1 x2 : V} : (fs_Note x0 x1 x2).lookup ("high" : Str) = some x2 := by rfl
theorem p_Note_high {x0 x1 x2 y : V} : putF "high" y (fs_Note x0 x1 x2) = fs_Note x0 x1 y := by rfl
theorem i_Note {x0 x1 x2 : V} : putF "high" x2 (putF "end" x1 (putF "start" x0 ([]))) = fs_Note x0 x1 x2 := by rfl
theorem n_Note {x0 x1 x2 : V} : (fs_Note x0 x1 x2).length = 3 := rfl
def fs_Player (x0 x1 x2 x3 : V) : List (Str × V) := [("shift", x0), ("low", x1), ("top", x2), ("notes", x3)]
theorem l_Player_shift {x0 x1 x2 x3 : V} : (fs_Player x0 x1 x2 x3).lookup ("shift" : Str) = some x0 := by rfl
theorem p_Player_shift {x0 x1 x2 x3 y : V} : putF "shift" y (fs_Player x0 x1 x2 x3) = fs_Player y x1 x2 x3 := by rfl
theorem l_Player_low {x0 x1 x2 x3 : V} : (fs_Player x0 x1 x2 x3).lookup ("low" : Str) = some x1 := by rfl
theorem p_Player_low {x0 x1 x2 x3 y : V} : putF "low" y (fs_Player x0 x1 x2 x3) = fs_Player x0 y x2 x3 := by rfl
theorem l_Player_top {x0 x1 x2 x3 : V} : (fs_Player x0 x1 x2 x3).lookup ("top" : Str) = some x2 := by rfl
theorem p_Player_top {x0 x1 x2 x3 y : V} : putF "top" y (fs_Player x0 x1 x2 x3) = fs_Player x0 x1 y x3 := by rfl
theorem l_Player_notes {x0 x1 x2 x3 : V} : (fs_Player x0 x1 x2 x3).lookup ("notes" : Str) = some x3 := by rfl
theorem p_Player_notes {x0 x1 x2 x3 y : V} : putF "notes" y (fs_Player x0 x1 x2 x3) = fs_Player x0 x1 x2 y := by rfl
theorem l_Player_may_sound {x0 x1 x2 x3 : V} : (fs_Player x0 x1 x2 x3).lookup ("may_sound" : Str) = none := by rfl
theorem l_Player_is_silent {x0 x1 x2 x3 : V} : (fs_Player x0 x1 x2 x3).lookup ("is_silent" : Str) = none := by rfl
theorem l_Player_take {x0 x1 x2 x3 : V} : (fs_Player x0 x1 x2 x3).lookup ("take" : Str) = none := by rfl
theorem l_Player_leave_out {x0 x1 x2 x3 : V} : (fs_Player x0 x1 x2 x3).lookup ("leave_out" : Str) = none := by rfl
theorem l_Player_note_at {x0 x1 x2 x3 : V} : (fs_Player x0 x1 x2 x3).lookup ("note_at" : Str) = none := by rfl
theorem l_Player_may_move {x0 x1 x2 x3 : V} : (fs_Player x0 x1 x2 x3).lookup ("may_move" : Str) = none := by rfl
theorem l_Player_move_notes {x0 x1 x2 x3 : V} : (fs_Player x0 x1 x2 x3).lookup ("move_notes" : Str) = none := by rfl
theorem i_Player {x0 x1 x2 x3 : V} : putF "notes" x3 (putF "top" x2 (putF "low" x1 (putF "shift" x0 ([])))) = fs_Player x0 x1 x2 x3 := by rfl
theorem n_Player {x0 x1 x2 x3 : V} : (fs_Player x0 x1 x2 x3).length = 4 := rfl
def fs_Score (x0 x1 : V) : List (Str × V) := [("bars", x0), ("players", x1)]
theorem l_Score_bars {x0 x1 : V} : (fs_Score x0 x1).lookup ("bars" : Str) = some x0 := by rfl
theorem p_Score_bars {x0 x1 y : V} : putF "bars" y (fs_Score x0 x1) = fs_Score y x1 := by rfl
theorem l_Score_players {x0 x1 : V} : (fs_Score x0 x1).lookup ("players" : Str) = some x1 := by rfl
theorem p_Score_players {x0 x1 y : V} : putF "players" y (fs_Score x0 x1) = fs_Score x0 y := by rfl
theorem l_Score_begin {x0 x1 : V} : (fs_Score x0 x1).lookup ("begin" : Str) = none := by rfl
theorem l_Score_last_end {x0 x1 : V} : (fs_Score x0 x1).lookup ("last_end" : Str) = none := by rfl
theorem l_Score_has_player {x0 x1 : V} : (fs_Score x0 x1).lookup ("has_player" : Str) = none := by rfl
theorem l_Score_new_bar {x0 x1 : V} : (fs_Score x0 x1).lookup ("new_bar" : Str) = none := by rfl
theorem l_Score_new_player {x0 x1 : V} : (fs_Score x0 x1).lookup ("new_player" : Str) = none := by rfl
theorem l_Score_new_note {x0 x1 : V} : (fs_Score x0 x1).lookup ("new_note" : Str) = none := by rfl
theorem l_Score_drop_note {x0 x1 : V} : (fs_Score x0 x1).lookup ("drop_note" : Str) = none := by rfl
theorem l_Score_move_all {x0 x1 : V} : (fs_Score x0 x1).lookup ("move_all" : Str) = none := by rfl
theorem i_Score {x0 x1 : V} : putF "players" x1 (putF "bars" x0 ([])) = fs_Score x0 x1 := by rfl
theorem n_Score {x0 x1 : V} : (fs_Score x0 x1).length = 2 := rfl
end Ps
set_option Elab.async false
set_option maxRecDepth 100000
set_option linter.all false
set_option maxHeartbeats 2000000
namespace Ps
open PySem PySem.Spec PyProof.Rows L2
theorem upd_none {H : Hp} {a b : Addr} {o : HO} : upd H a o b = none ↔ b ≠ a ∧ H b = none := by
  unfold upd
  by_cases h : b = a
  · simp [h]
  · simp [h]
theorem upd_swap {H : Hp} {a b : Addr} {o u : HO} (h : a ≠ b) : upd (upd H a o) b u = upd (upd H b u) a o := by
  funext x
  unfold upd
  by_cases h1 : x = b
  · subst h1
    simp [Ne.symm h]
  · by_cases h2 : x = a
    · subst h2
      simp [h1]
    · simp [h1, h2]
theorem pl1 {f : Str} {v : V} : ((putF f v []).length < 1000) = True := by simp [putF]
theorem pl2 {f g : Str} {v u : V} : ((putF g u (putF f v [])).length < 1000) = True := by
  have := length_putF g u (putF f v [])
  have h : (putF f v []).length = 1 := rfl
  simp only [eq_iff_iff, iff_true]
  omega
theorem pl3 {f g k : Str} {v u x : V} : ((putF k x (putF g u (putF f v []))).length < 1000) = True := by
  have h2 := length_putF g u (putF f v [])
  have h3 := length_putF k x (putF g u (putF f v []))
  have h : (putF f v []).length = 1 := rfl
  simp only [eq_iff_iff, iff_true]
  omega
theorem paired_get {α β : Type} {R : α → β → Prop} : ∀ {l : List α} {m : List β} {i : Nat} {a : α}, Paired R l m → l[i]? = some a → ∃ b, m[i]? = some b ∧ R a b
  | _, _, _, _, .nil, h => by simp at h
  | _, _, 0, _, .cons r _, h => by
    simp at h
    subst h
    exact ⟨_, rfl, r⟩
  | _, _, i + 1, _, .cons _ p, h => by
    simp at h
    simpa using paired_get p h
theorem paired_get' {α β : Type} {R : α → β → Prop} {l : List α} {m : List β} {i : Nat} {b : β} (h : Paired R l m) (hb : m[i]? = some b) : ∃ a, l[i]? = some a ∧ R a b := paired_at h hb
theorem map_get {α β : Type} {f : α → β} {l : List α} {i : Nat} {b : β} (h : (l.map f)[i]? = some b) : ∃ a, l[i]? = some a ∧ b = f a := by
  rw [List.getElem?_map] at h
  cases e : l[i]? with
  | none =>
    rw [e] at h
    cases h
  | some a =>
    rw [e] at h
    exact ⟨a, rfl, (Option.some.inj h).symm⟩
theorem take_snoc {α : Type} {l : List α} {i : Nat} {x : α} (h : l[i]? = some x) : l.take (i + 1) = l.take i ++ [x] := by
  rw [List.take_succ, h]
  rfl
theorem Same.refl' (H : Hp) : Same H H := fun _ _ e => e
theorem Same.upd' {B H : Hp} {D : Addr} {o : HO} (s : Same B H) (h : B D = none) : Same B (upd H D o) := fun b u e => by
  rw [upd_ne (ne_of_none e h)]
  exact s b u e
theorem Same.new {H : Hp} {D : Addr} {o : HO} (h : H D = none) : Same H (upd H D o) := Same.upd' (Same.refl' H) h
def hole (H : Hp) (D : Addr) : Hp := fun b => if b = D then none else H b
theorem hole_none {H : Hp} {D : Addr} : hole H D D = none := by simp [hole]
theorem hole_ne {H : Hp} {D b : Addr} (h : b ≠ D) : hole H D b = H b := by simp [hole, h]
theorem upd_hole {H : Hp} {D : Addr} {o : HO} (h : H D = some o) : upd (hole H D) D o = H := by
  funext b
  by_cases hb : b = D
  · subst hb
    rw [upd_same, h]
  · rw [upd_ne hb, hole_ne hb]
theorem Same.hole {B H : Hp} {D : Addr} (s : Same B H) (h : B D = none) : Same B (hole H D) := fun b u e => by
  rw [hole_ne (ne_of_none e h)]
  exact s b u e
theorem grown {B H : Hp} {D : Addr} {o : HO} (s : Same (upd B D o) H) (h : B D = none) : ∃ B', Same B B' ∧ B' D = none ∧ H = upd B' D o :=
  ⟨hole H D, Same.hole (fun b u e => s b u (by rw [upd_ne (ne_of_none e h)]; exact e)) h, hole_none, (upd_hole (s D o upd_same)).symm⟩
theorem free_of {H H' : Hp} {b : Addr} (s : Same H H') (h : H' b = none) : H b = none := Same.free s h
def lpos : Pos := ⟨164, 54, 164, 77⟩
def lq : Str := (("Player.take" : Str) ++ ".<locals>.") ++ "<lambda>"
abbrev Tab (H : Hp) : Prop := TabIs 162 lpos lq H
theorem Tab.same {H H' : Hp} (t : Tab H) (s : Same H H') : Tab H' := by
  rcases t with t | ⟨c', t, u⟩
  · exact .inl (s _ _ t)
  · exact .inr ⟨c', s _ _ t, s _ _ u⟩
def NoteAt (c : Cl) (H : Hp) (a : Addr) (n : Kct9.Note) : Prop := ∃ dx, H a = some (.ins c.Note dx (fs_Note (.int n.start) (.int (Kct9.ends n)) (.int n.high)))
theorem NoteAt.same {c : Cl} {H H' : Hp} {a : Addr} {n : Kct9.Note} (s : Same H H') (h : NoteAt c H a n) : NoteAt c H' a n := let ⟨dx, e⟩ := h; ⟨dx, s _ _ e⟩
structure NotesAt (c : Cl) (H : Hp) (l : Addr) (as : List Addr) (ns : List Kct9.Note) : Prop where
  lst : H l = some (.lst (as.map V.ref))
  nts : Paired (NoteAt c H) as ns
theorem NotesAt.same {c : Cl} {H H' : Hp} {l : Addr} {as : List Addr} {ns : List Kct9.Note} (h : NotesAt c H l as ns) (s : Same H H') : NotesAt c H' l as ns := ⟨s _ _ h.lst, Paired.imp' (fun _ _ z => NoteAt.same s z) h.nts⟩
structure PlAt (c : Cl) (H : Hp) (a dx ln : Addr) (as : List Addr) (p : Kct9.Player) : Prop where
  obj : H a = some (.ins c.Player dx (fs_Player (.int p.shift) (.int p.low) (.int p.top) (.ref ln)))
  nl : NotesAt c H ln as p.notes
theorem PlAt.lst {c : Cl} {H : Hp} {a dx ln : Addr} {as : List Addr} {p : Kct9.Player} (h : PlAt c H a dx ln as p) : H ln = some (.lst (as.map V.ref)) := h.nl.lst
theorem PlAt.nts {c : Cl} {H : Hp} {a dx ln : Addr} {as : List Addr} {p : Kct9.Player} (h : PlAt c H a dx ln as p) : Paired (NoteAt c H) as p.notes := h.nl.nts
theorem PlAt.same {c : Cl} {H H' : Hp} {a dx ln : Addr} {as : List Addr} {p : Kct9.Player} (h : PlAt c H a dx ln as p) (s : Same H H') : PlAt c H' a dx ln as p := ⟨s _ _ h.obj, h.nl.same s⟩
structure PR where
  a : Addr
  dx : Addr
  ln : Addr
  as : List Addr
structure SR where
  dx : Addr
  lb : Addr
  lp : Addr
  ps : List PR
abbrev PRAt (c : Cl) (H : Hp) (r : PR) (p : Kct9.Player) : Prop := PlAt c H r.a r.dx r.ln r.as p
structure ScAt (c : Cl) (H : Hp) (x : Addr) (R : SR) (s : Kct9.Abs) : Prop where
  obj : H x = some (.ins c.Score R.dx (fs_Score (.ref R.lb) (.ref R.lp)))
  lb : H R.lb = some (.lst (s.bars.map fun n : Nat => V.int n))
  lp : H R.lp = some (.lst (R.ps.map fun r => V.ref r.a))
  ne : R.lb ≠ R.lp
  nd : (R.ps.map (·.a)).Nodup
  nl : ∀ r ∈ R.ps, r.ln ≠ R.lb ∧ r.ln ≠ R.lp
  nn : (R.ps.flatMap (·.as)).Nodup
  pl : Paired (PRAt c H) R.ps s.players
  tab : Tab H
theorem ScAt.same {c : Cl} {H H' : Hp} {x : Addr} {R : SR} {s : Kct9.Abs} (h : ScAt c H x R s) (k : Same H H') : ScAt c H' x R s :=
  ⟨k _ _ h.obj, k _ _ h.lb, k _ _ h.lp, h.ne, h.nd, h.nl, h.nn, Paired.imp' (fun _ _ z => PlAt.same z k) h.pl, h.tab.same k⟩
structure Chg (H H' : Hp) (R R' : SR) : Prop where
  lst : ∀ b xs, H b = some (.lst xs) → b ≠ R.lb → b ≠ R.lp → H' b = some (.lst xs)
  frz : ∀ b o u, H b = some (.frz o u) → H' b = some (.frz o u)
  lb : R'.lb = R.lb ∨ H R'.lb = none
  lp : R'.lp = R.lp ∨ H R'.lp = none
  ln : ∀ r' ∈ R'.ps, (∃ r ∈ R.ps, r'.ln = r.ln) ∨ H r'.ln = none
  free : ∀ b, H' b = none → H b = none
theorem free_by {H H' : Hp} (h : ∀ b o, H b = some o → ∃ o', H' b = some o') : ∀ b, H' b = none → H b = none := fun b e => by
  cases q : H b with
  | none => rfl
  | some o =>
    obtain ⟨o', h'⟩ := h b o q
    rw [h'] at e
    cases e
theorem upd_some {H : Hp} {D b : Addr} {u o : HO} (h : H b = some o) : ∃ o', upd H D u b = some o' := by
  by_cases e : b = D
  · exact ⟨u, by rw [e, upd_same]⟩
  · exact ⟨o, by rw [upd_ne e]; exact h⟩
theorem upd_free {H : Hp} {D b : Addr} {u : HO} (h : upd H D u b = none) : H b = none := free_by (fun _ _ e => upd_some e) b h
theorem Chg.of_same {H H' : Hp} {R : SR} (s : Same H H') : Chg H H' R R := ⟨fun _ _ e _ _ => s _ _ e, fun _ _ _ e => s _ _ e, .inl rfl, .inl rfl, fun r hr => .inl ⟨r, hr, rfl⟩, fun _ e => free_of s e⟩
theorem Chg.after {H H1 H' : Hp} {R R' : SR} (h : Chg H H1 R R') (s : Same H1 H') : Chg H H' R R' := ⟨fun b xs e n1 n2 => s _ _ (h.lst b xs e n1 n2), fun b o u e => s _ _ (h.frz b o u e), h.lb, h.lp, h.ln, fun b e => h.free b (free_of s e)⟩
theorem Chg.before {H0 H H' : Hp} {R R' : SR} (s : Same H0 H) (h : Chg H H' R R') : Chg H0 H' R R' := ⟨fun b xs e n1 n2 => h.lst b xs (s _ _ e) n1 n2, fun b o u e => h.frz b o u (s _ _ e), h.lb.imp id (free_of s), h.lp.imp id (free_of s), fun r hr => (h.ln r hr).imp id (free_of s), fun b e => free_of s (h.free b e)⟩
theorem note_ne {c : Cl} {H : Hp} {a b dx dx' : Addr} {x y z s t u v : V} (h : H b = some (.ins c.Note dx (fs_Note x y z))) (h' : H a = some (.ins c.Player dx' (fs_Player s t u v))) : b ≠ a := ne_of h h' (by
  intro e
  simp only [HO.ins.injEq] at e
  have := congrArg List.length e.2.2
  simp [fs_Note, fs_Player] at this)
theorem score_ne_player {c : Cl} {H : Hp} {a b dx dx' : Addr} {x y s t u v : V} (h : H b = some (.ins c.Score dx (fs_Score x y))) (h' : H a = some (.ins c.Player dx' (fs_Player s t u v))) : b ≠ a := ne_of h h' (by
  intro e
  simp only [HO.ins.injEq] at e
  have := congrArg List.length e.2.2
  simp [fs_Score, fs_Player] at this)
theorem score_ne_note {c : Cl} {H : Hp} {a b dx dx' : Addr} {x y s t u : V} (h : H b = some (.ins c.Score dx (fs_Score x y))) (h' : H a = some (.ins c.Note dx' (fs_Note s t u))) : b ≠ a := ne_of h h' (by
  intro e
  simp only [HO.ins.injEq] at e
  have := congrArg List.length e.2.2
  simp [fs_Score, fs_Note] at this)
theorem Tab.ne {H : Hp} (t : Tab H) {x : Addr} {o : HO} (e : H x = some o) (d : ∀ ps, o ≠ .tbl ps) : x ≠ 162 := fun z => by
  subst z
  rcases t with t | ⟨c', t, _⟩ <;> rw [e] at t <;> cases t <;> exact d _ rfl
theorem nodup_set : ∀ {L : List (List Addr)} {i : Nat} {l l' : List Addr}, L[i]? = some l → L.flatten.Nodup → l'.Nodup → (∀ a ∈ l', a ∈ l ∨ a ∉ L.flatten) → (L.set i l').flatten.Nodup
  | [], i, l, l', h, _, _, _ => by simp at h
  | m :: L, 0, l, l', h, hn, hl, hk => by
    simp at h
    subst h
    rw [List.set_cons_zero, List.flatten_cons]
    rw [List.flatten_cons] at hn
    obtain ⟨n1, n2, n3⟩ := List.nodup_append.mp hn
    refine List.nodup_append.mpr ⟨hl, n2, fun a ha b hb e => ?_⟩
    subst e
    rcases hk a ha with h | h
    · exact n3 a h a hb rfl
    · exact h (by rw [List.flatten_cons]; exact List.mem_append_right _ hb)
  | m :: L, i + 1, l, l', h, hn, hl, hk => by
    rw [List.set_cons_succ, List.flatten_cons]
    rw [List.flatten_cons] at hn
    obtain ⟨n1, n2, n3⟩ := List.nodup_append.mp hn
    have h' : L[i]? = some l := by simpa using h
    have hk' : ∀ a ∈ l', a ∈ l ∨ a ∉ L.flatten := fun a ha => by
      rcases hk a ha with h | h
      · exact .inl h
      · exact .inr fun z => h (by rw [List.flatten_cons]; exact List.mem_append_right _ z)
    refine List.nodup_append.mpr ⟨n1, nodup_set h' n2 hl hk', fun a ha b hb e => ?_⟩
    subst e
    obtain ⟨l2, hl2, ha2⟩ := List.mem_flatten.mp hb
    rcases List.mem_or_eq_of_mem_set hl2 with hl2 | hl2
    · exact n3 a ha a (List.mem_flatten.mpr ⟨l2, hl2, ha2⟩) rfl
    · subst hl2
      rcases hk a ha2 with h | h
      · exact n3 a ha a (List.mem_flatten.mpr ⟨l, List.mem_of_getElem? h', h⟩) rfl
      · exact h (by rw [List.flatten_cons]; exact List.mem_append_left _ ha)
theorem ScAt.note_some {c : Cl} {H : Hp} {x : Addr} {R : SR} {s : Kct9.Abs} (h : ScAt c H x R s) {a : Addr} (ha : a ∈ R.ps.flatMap (·.as)) : H a ≠ none := by
  obtain ⟨r, hr, ha⟩ := List.mem_flatMap.mp ha
  obtain ⟨i, hi⟩ := List.getElem?_of_mem hr
  obtain ⟨p, _, hp⟩ := paired_get h.pl hi
  obtain ⟨j, hj⟩ := List.getElem?_of_mem ha
  obtain ⟨n, _, dn, hn⟩ := paired_get hp.nts hj
  intro z
  rw [z] at hn
  cases hn
theorem ScAt.setPl {c : Cl} {H H' : Hp} {x : Addr} {R : SR} {s : Kct9.Abs} {i : Nat} {r : PR} {p p' : Kct9.Player} {ln' : Addr} {as' : List Addr} (h : ScAt c H x R s) (hr : R.ps[i]? = some r) (hp : s.players[i]? = some p) (pl : PlAt c H' r.a r.dx ln' as' p')
    (keep : ∀ b o, H b = some o → b ≠ r.a → b ≠ 162 → H' b = some o) (tab : Tab H') (hl : ln' = r.ln ∨ H ln' = none) (nd : as'.Nodup) (fresh : ∀ a ∈ as', a ∈ r.as ∨ H a = none) :
    ScAt c H' x { R with ps := R.ps.set i ⟨r.a, r.dx, ln', as'⟩ } (Kct9.setAt s i p') ∧ Chg H H' R { R with ps := R.ps.set i ⟨r.a, r.dx, ln', as'⟩ } := by
  obtain ⟨p2, hp2, hpl⟩ := paired_get h.pl hr
  rw [hp] at hp2
  cases hp2
  have ho := hpl.obj
  have keepL : ∀ b xs, H b = some (.lst xs) → H' b = some (.lst xs) := fun b xs e => keep b _ e (ne_of e ho (by intro z; cases z)) (h.tab.ne e (fun _ z => by cases z))
  refine ⟨⟨?_, keepL _ _ h.lb, ?_, h.ne, ?_, ?_, ?_, ?_, tab⟩, ⟨fun b xs e _ _ => keepL b xs e, fun b o u e => keep b _ e (ne_of e ho (by intro z; cases z)) (h.tab.ne e (fun _ z => by cases z)), .inl rfl, .inl rfl, fun r' hr'' => ?_, free_by fun b o e => ?_⟩⟩
  rotate_left 6
  · rcases List.mem_or_eq_of_mem_set hr'' with hr'' | hr''
    · exact .inl ⟨r', hr'', rfl⟩
    · subst hr''
      rcases hl with hl | hl
      · exact .inl ⟨r, List.mem_of_getElem? hr, hl⟩
      · exact .inr hl
  · by_cases e1 : b = r.a
    · exact ⟨_, by rw [e1]; exact pl.obj⟩
    · by_cases e2 : b = 162
      · rcases tab with t | ⟨c', t, _⟩
        · exact ⟨_, by rw [e2]; exact t⟩
        · exact ⟨_, by rw [e2]; exact t⟩
      · exact ⟨o, keep b o e e1 e2⟩
  · exact keep _ _ h.obj (score_ne_player h.obj ho) (h.tab.ne h.obj (fun _ z => by cases z))
  · have e : ((R.ps.set i ⟨r.a, r.dx, ln', as'⟩).map fun r => V.ref r.a) = R.ps.map fun r => V.ref r.a := by
      rw [List.map_set]
      refine List.ext_getElem? fun j => ?_
      by_cases hj : i = j
      · subst hj
        rw [List.getElem?_set]
        obtain ⟨hlt, er⟩ := List.getElem?_eq_some_iff.mp hr
        simp [hlt, er]
      · rw [List.getElem?_set_ne hj]
    show H' R.lp = some (.lst ((R.ps.set i ⟨r.a, r.dx, ln', as'⟩).map fun r => V.ref r.a))
    rw [e]
    exact keepL _ _ h.lp
  · have e : ((R.ps.set i ⟨r.a, r.dx, ln', as'⟩).map (·.a)) = R.ps.map (·.a) := by
      rw [List.map_set]
      refine List.ext_getElem? fun j => ?_
      by_cases hj : i = j
      · subst hj
        rw [List.getElem?_set]
        obtain ⟨hlt, er⟩ := List.getElem?_eq_some_iff.mp hr
        simp [hlt, er]
      · rw [List.getElem?_set_ne hj]
    show ((R.ps.set i ⟨r.a, r.dx, ln', as'⟩).map (·.a)).Nodup
    rw [e]
    exact h.nd
  · intro r2 hr2
    rcases List.mem_or_eq_of_mem_set hr2 with hr2 | hr2
    · exact h.nl r2 hr2
    · subst hr2
      rcases hl with hl | hl
      · show ln' ≠ R.lb ∧ ln' ≠ R.lp
        rw [hl]
        exact h.nl r (List.mem_of_getElem? hr)
      · exact ⟨Ne.symm (ne_of_none h.lb hl), Ne.symm (ne_of_none h.lp hl)⟩
  · show ((R.ps.set i ⟨r.a, r.dx, ln', as'⟩).flatMap (·.as)).Nodup
    have hn := h.nn
    rw [List.flatMap_def] at hn ⊢
    rw [List.map_set]
    refine nodup_set (l := r.as) (by rw [List.getElem?_map, hr]; rfl) hn nd fun a ha => ?_
    rcases fresh a ha with z | z
    · exact .inl z
    · refine .inr fun w => h.note_some ?_ z
      rw [List.flatMap_def]
      exact w
  · show Paired (PRAt c H') (R.ps.set i ⟨r.a, r.dx, ln', as'⟩) (s.players.set i p')
    refine Mm.paired_of (by simp [Paired.length h.pl]) fun j r2 p2 e1 e2 => ?_
    by_cases hj : i = j
    · subst hj
      rw [List.getElem?_set] at e1 e2
      simp only [if_true] at e1 e2
      split at e1
      · cases e1
        split at e2
        · cases e2
          exact pl
        · cases e2
      · cases e1
    · rw [List.getElem?_set_ne hj] at e1 e2
      obtain ⟨p3, e3, hpl2⟩ := paired_get h.pl e1
      rw [e2] at e3
      cases e3
      have na : r2.a ≠ r.a := fun z => hj (nd_ix h.nd (by rw [List.getElem?_map, hr]; rfl) (by rw [List.getElem?_map, e1]; exact congrArg some z))
      refine ⟨keep _ _ hpl2.obj na (h.tab.ne hpl2.obj (fun _ z => by cases z)), keepL _ _ hpl2.lst, Paired.imp' (fun a n ⟨dn, hn⟩ => ⟨dn, keep _ _ hn (note_ne hn ho) (h.tab.ne hn (fun _ z => by cases z))⟩) hpl2.nts⟩
theorem ScAt.get {c : Cl} {H : Hp} {x : Addr} {R : SR} {s : Kct9.Abs} (h : ScAt c H x R s) {i : Nat} {p : Kct9.Player} (hp : s.players[i]? = some p) : ∃ r, R.ps[i]? = some r ∧ PRAt c H r p ∧ atI (R.ps.map fun r => V.ref r.a) (i : Int) = some (V.ref r.a) := by
  obtain ⟨r, hr, hpl⟩ := paired_get' h.pl hp
  exact ⟨r, hr, hpl, atI_nat (by rw [List.getElem?_map, hr]; rfl)⟩
def TupAt (H : Hp) (a : Addr) (p : Int × Int) : Prop := H a = some (.tup [.int p.1, .int p.2])
theorem TupAt.same {H H' : Hp} (s : Same H H') {a : Addr} {p : Int × Int} (h : TupAt H a p) : TupAt H' a p := s _ _ h
def RowAt (H : Hp) (a : Addr) (row : List (Int × Int)) : Prop := ∃ ts : List Addr, H a = some (.lst (ts.map V.ref)) ∧ Paired (TupAt H) ts row
theorem RowAt.same {H H' : Hp} (s : Same H H') {a : Addr} {row : List (Int × Int)} (h : RowAt H a row) : RowAt H' a row := let ⟨ts, e, p⟩ := h; ⟨ts, s _ _ e, Paired.imp' (fun _ _ z => TupAt.same s z) p⟩
def RowsAt (H : Hp) (a : Addr) (rows : List (List (Int × Int))) : Prop := ∃ ts : List Addr, H a = some (.lst (ts.map V.ref)) ∧ Paired (RowAt H) ts rows
theorem RowsAt.same {H H' : Hp} (s : Same H H') {a : Addr} {rows : List (List (Int × Int))} (h : RowsAt H a rows) : RowsAt H' a rows := let ⟨ts, e, p⟩ := h; ⟨ts, s _ _ e, Paired.imp' (fun _ _ z => RowAt.same s z) p⟩
def RowsNew (H H' : Hp) (a : Addr) (rows : List (List (Int × Int))) : Prop := ∃ ts : List Addr, H' a = some (.lst (ts.map V.ref)) ∧ Paired (RowAt H') ts rows ∧ ∀ t ∈ ts, H t = none
theorem RowsNew.at {H H' : Hp} {a : Addr} {rows : List (List (Int × Int))} (h : RowsNew H H' a rows) : RowsAt H' a rows := let ⟨ts, e, p, _⟩ := h; ⟨ts, e, p⟩
def intsV (l : List Int) : List V := l.map V.int
def natsV (l : List Nat) : List V := l.map fun n : Nat => V.int n
def IntsAt (H : Hp) (a : Addr) (l : List Int) : Prop := H a = some (.lst (intsV l))
def NatsAt (H : Hp) (a : Addr) (l : List Nat) : Prop := H a = some (.lst (natsV l))
structure Ord (ns : List Kct9.Note) : Prop where
  ch : Mx.Chain ns
  pos : ∀ n ∈ ns, 0 < n.long
def MoE (t : TE) : Prop := ∀ σ H (Q Q' : VK), (∀ v H1, Q v H1 → Q' v H1) → t σ H Q → t σ H Q'
def MoR (r : R2) : Prop := ∀ x y H (Q Q' : VK), (∀ v H1, Q v H1 → Q' v H1) → r x y H Q → r x y H Q'
def MoT (t : TT) : Prop := ∀ σ H (Q Q' : Bool → Hp → Prop), (∀ v H1, Q v H1 → Q' v H1) → t σ H Q → t σ H Q'
def MoA (t : TA) : Prop := ∀ σ H (Q Q' : List V → Hp → Prop), (∀ v H1, Q v H1 → Q' v H1) → t σ H Q → t σ H Q'
theorem mo_var {i : Nat} : MoE (tVar i) := fun _ _ _ _ h ⟨v, e, q⟩ => ⟨v, e, h _ _ q⟩
theorem mo_C {v : V} : MoE (tC v) := fun _ _ _ _ h q => h _ _ q
theorem mo_op {r : R2} {a b : TE} (hr : MoR r) (ha : MoE a) (hb : MoE b) : MoE (tOp r a b) := fun σ H Q Q' h q => ha σ H _ _ (fun x H1 q1 => hb σ H1 _ _ (fun y H2 q2 => hr x y H2 _ _ h q2) q1) q
theorem mo_I0 {g : Int → Int → V} : MoR (rI0 g) := fun _ _ _ _ _ h ⟨i, j, e1, e2, q⟩ => ⟨i, j, e1, e2, h _ _ q⟩
theorem mo_ixl : MoR rIxl := fun _ _ _ _ _ h ⟨p, xs, i, v, e1, e2, e3, e4, q⟩ => ⟨p, xs, i, v, e1, e2, e3, e4, h _ _ q⟩
theorem mo_fld {K : PySem.W.Frag} {a : TE} {f : Str} (ha : MoE a) : MoE (tFld K a f) := fun σ H Q Q' h q => ha σ H _ _ (fun x H1 ⟨a, C, dx, fs, v, e1, e2, e3, e4, e5, q⟩ => ⟨a, C, dx, fs, v, e1, e2, e3, e4, e5, h _ _ q⟩) q
theorem mo_test {a : TE} (ha : MoE a) : MoT (tTest a) := fun σ H Q Q' h q => ha σ H _ _ (fun x H1 ⟨k, e, q⟩ => ⟨k, e, h _ _ q⟩) q
theorem mo_and {a b : TT} (ha : MoT a) (hb : MoT b) : MoT (tAnd a b) := fun σ H Q Q' h q => ha σ H _ _ (fun x H1 q => by
  cases x with
  | true => exact hb σ H1 _ _ h q
  | false => exact h _ _ q) q
theorem mo_nil : MoA tNil := fun _ _ _ _ h q => h _ _ q
theorem mo_cons {a : TE} {t : TA} (ha : MoE a) (ht : MoA t) : MoA (tCons a t) := fun σ H Q Q' h q => ha σ H _ _ (fun x H1 q1 => ht σ H1 _ _ (fun y H2 q2 => h _ _ q2) q1) q
theorem mo_len {t : TA} (ht : MoA t) : MoE (tCB rLen t) := fun σ H Q Q' h q => ht σ H _ _ (fun x H1 ⟨p, xs, e1, e2, q⟩ => ⟨p, xs, e1, e2, h _ _ q⟩) q
theorem mo_lenq {K : PySem.W.Frag} {ys : List V} {t : TA} (ht : MoA t) : MoE (tCB (rLenQ K ys) t) := fun σ H Q Q' h q => ht σ H _ _ (fun x H1 ⟨p, e1, e2, q⟩ => ⟨p, e1, e2, h _ _ q⟩) q
section
def sp_Note_init (K : PySem.W.Frag) (c : Cl) : Sp := fun vs H Q _ => ∃ (x dx : Addr) (s e h : V), vs = [.ref x, s, e, h] ∧ H x = some (.ins c.Note dx []) ∧ Q .non (upd H x (.ins c.Note dx (fs_Note s e h)))
def sp_Player_init (K : PySem.W.Frag) (c : Cl) : Sp := fun vs H Q _ => ∃ (x dx : Addr) (sh lo tp : V), vs = [.ref x, sh, lo, tp] ∧ H x = some (.ins c.Player dx []) ∧ ∀ ln, H ln = none → Q .non (upd (upd H ln (.lst [])) x (.ins c.Player dx (fs_Player sh lo tp (.ref ln))))
def sp_Score_init (K : PySem.W.Frag) (c : Cl) : Sp := fun vs H Q _ => ∃ (x dx : Addr), vs = [.ref x] ∧ H x = some (.ins c.Score dx []) ∧ ∀ lb lp, H lb = none → H lp = none → lb ≠ lp → Q .non (upd (upd (upd H lb (.lst [])) lp (.lst [])) x (.ins c.Score dx (fs_Score (.ref lb) (.ref lp))))
def sp_Player_may_sound (K : PySem.W.Frag) (c : Cl) : Sp := fun vs H Q _ => ∃ (a dx : Addr) (s lo hi : Int) (n : V) (h : Int), vs = [.ref a, .int h] ∧ H a = some (.ins c.Player dx (fs_Player (.int s) (.int lo) (.int hi) n)) ∧ Q (.bl (decide (lo ≤ h) && decide (h ≤ hi))) H
def sp_Player_is_silent (K : PySem.W.Frag) (c : Cl) : Sp := fun vs H Q _ => ∃ (a dx ln : Addr) (as : List Addr) (p : Kct9.Player) (s e : Nat), vs = [.ref a, .int s, .int e] ∧ PlAt c H a dx ln as p ∧ Q (.bl (!(p.notes.any fun b => decide (b.start < e) && decide (s < Kct9.ends b)))) H
def sp_Player_take (K : PySem.W.Frag) (c : Cl) : Sp := fun vs H Q _ => ∃ (a dx ln b : Addr) (as : List Addr) (p : Kct9.Player) (n : Kct9.Note), vs = [.ref a, .ref b] ∧ PlAt c H a dx ln as p ∧ NoteAt c H b n ∧ Tab H ∧ p.notes.length ≤ 256 ∧ Mx.Chain p.notes ∧ (∀ m ∈ p.notes, m.start ≠ n.start) ∧ (∀ m ∈ p.notes, 0 < m.long) ∧
  ∀ (H' : Hp) (ln' : Addr) (as' : List Addr), PlAt c H' a dx ln' as' { p with notes := Kct9.insert n p.notes } → as'.Perm (as ++ [b]) → Tab H' → (∀ b o, H b = some o → b ≠ a → b ≠ 162 → H' b = some o) → H ln' = none → Q .non H'
def sp_Player_leave_out (K : PySem.W.Frag) (c : Cl) : Sp := fun vs H Q _ => ∃ (a dx ln : Addr) (as : List Addr) (p : Kct9.Player) (s : Nat), vs = [.ref a, .int s] ∧ PlAt c H a dx ln as p ∧ p.notes.length ≤ 256 ∧
  ∀ (H' : Hp) (ln' : Addr) (as' : List Addr), PlAt c H' a dx ln' as' { p with notes := p.notes.filter fun n => n.start != s } → as'.Sublist as → (∀ b o, H b = some o → b ≠ a → H' b = some o) → H ln' = none → Q .non H'
def sp_Player_note_at (K : PySem.W.Frag) (c : Cl) : Sp := fun vs H Q _ => ∃ (a dx ln : Addr) (as : List Addr) (p : Kct9.Player) (t : Nat), vs = [.ref a, .int t] ∧ PlAt c H a dx ln as p ∧ Ord p.notes ∧ p.notes.length ≤ 256 ∧
  (∀ (b : Addr) (n : Kct9.Note), NoteAt c H b n → Kct9.soundsAt p.notes t = some n.high → Q (.ref b) H) ∧ (Kct9.soundsAt p.notes t = none → Q .non H)
def sp_Player_may_move (K : PySem.W.Frag) (c : Cl) : Sp := fun vs H Q _ => ∃ (a dx ln : Addr) (as : List Addr) (p : Kct9.Player) (k : Int), vs = [.ref a, .int k] ∧ PlAt c H a dx ln as p ∧ p.notes.length ≤ 256 ∧
  ∀ H', Same H H' → Q (.bl (p.notes.all fun n => Kct9.inRange p (n.high + k))) H'
def sp_Player_move_notes (K : PySem.W.Frag) (c : Cl) : Sp := fun vs H Q _ => ∃ (a dx ln : Addr) (as : List Addr) (p : Kct9.Player) (k : Int), vs = [.ref a, .int k] ∧ PlAt c H a dx ln as p ∧ as.Nodup ∧
  ∀ H', PlAt c H' a dx ln as (Kct9.moved k p) → (∀ b o, H b = some o → b ∉ as → H' b = some o) → Q .non H'
def sp_Score_begin (K : PySem.W.Frag) (c : Cl) : Sp := fun vs H Q _ => ∃ (x : Addr) (R : SR) (s : Kct9.Abs), vs = [.ref x] ∧ ScAt c H x R s ∧ ∀ (H' : Hp) (R' : SR), ScAt c H' x R' Kct9.first → Chg H H' R R' → Q (.int 0) H'
def sp_Score_last_end (K : PySem.W.Frag) (c : Cl) : Sp := fun vs H Q _ => ∃ (x : Addr) (R : SR) (s : Kct9.Abs), vs = [.ref x] ∧ ScAt c H x R s ∧ Q (.int (Kct9.total s)) H
def sp_Score_has_player (K : PySem.W.Frag) (c : Cl) : Sp := fun vs H Q _ => ∃ (x : Addr) (R : SR) (s : Kct9.Abs) (i : Nat), vs = [.ref x, .int i] ∧ ScAt c H x R s ∧ Q (.bl (decide (i < s.players.length))) H
def spNum (c : Cl) (vals : List V → Kct9.Call → Prop) : Sp := fun vs H Q _ => ∃ (x : Addr) (R : SR) (s : Kct9.Abs) (r : List V) (cl : Kct9.Call), vs = .ref x :: r ∧ vals r cl ∧ ScAt c H x R s ∧ Mx.Wf s ∧
  ∀ (H' : Hp) (R' : SR) (s' : Kct9.Abs) (v : Int), Kct9.step s cl = (s', .num v) → ScAt c H' x R' s' → Chg H H' R R' → Q (.int v) H'
def sp_Score_new_bar (K : PySem.W.Frag) (c : Cl) : Sp := spNum c fun r cl => ∃ n : Nat, r = [.int n] ∧ cl = .bar n
def sp_Score_new_player (K : PySem.W.Frag) (c : Cl) : Sp := spNum c fun r cl => ∃ (h : Int) (a z : Nat), r = [.int h, .int a, .int z] ∧ cl = .player h a z
def sp_Score_new_note (K : PySem.W.Frag) (c : Cl) : Sp := spNum c fun r cl => ∃ i a n h : Nat, r = [.int i, .int a, .int n, .int h] ∧ cl = .note i a n h
def sp_Score_drop_note (K : PySem.W.Frag) (c : Cl) : Sp := spNum c fun r cl => ∃ i a : Nat, r = [.int i, .int a] ∧ cl = .drop i a
def sp_Score_move_all (K : PySem.W.Frag) (c : Cl) : Sp := spNum c fun r cl => ∃ k : Int, r = [.int k] ∧ cl = .move k
def sp_first_behind (K : PySem.W.Frag) (c : Cl) : Sp := fun vs H Q _ => ∃ (l : Addr) (as : List Addr) (ns : List Kct9.Note) (f t : Nat), vs = [.ref l, .int f, .int t] ∧ NotesAt c H l as ns ∧ Ord ns ∧ f ≤ ns.length ∧ (∀ n ∈ ns.take f, Kct9.ends n ≤ t) ∧
  ∀ k : Nat, k ≤ ns.length → (∀ n ∈ ns.take k, Kct9.ends n ≤ t) → (∀ n ∈ ns.drop k, t < Kct9.ends n) → Q (.int k) H
def sp_written_note (K : PySem.W.Frag) (c : Cl) : Sp := fun vs H Q _ => ∃ (a : Addr) (n : Kct9.Note) (sh : Int) (b e : Nat), vs = [.ref a, .int sh, .int b, .int e] ∧ NoteAt c H a n ∧
  ∀ q, H q = none → Q (.ref q) (upd H q (.tup [.int (if n.start < b then 253 else n.high + sh + 24), .int (((min (Kct9.ends n) e : Nat) : Int) - ((max n.start b : Nat) : Int))]))
def pairOf : Kct9.Item → Int × Int
  | .rest n => (254, n)
  | .note w n => (w, n)
  | .on n => (253, n)
def rowOf (p : Kct9.Player) (a e : Nat) : List (Int × Int) := if Kct9.isEmpty (Kct9.fill p p.notes a e) = true then [] else (Kct9.fill p p.notes a e).map pairOf
def rowsOf (p : Kct9.Player) : List Nat → Nat → List (List (Int × Int))
  | [], _ => []
  | n :: l, a => rowOf p a (a + n) :: rowsOf p l (a + n)
theorem rowsOf_get (p : Kct9.Player) : ∀ {l : List Nat} {a i n : Nat}, l[i]? = some n → (rowsOf p l a)[i]? = some (rowOf p (a + Kct9.sumOf (l.take i)) (a + Kct9.sumOf (l.take i) + n))
  | [], a, i, n, h => by simp at h
  | m :: l, a, 0, n, h => by
    simp at h
    subst h
    simp [rowsOf, Kct9.sumOf]
  | m :: l, a, i + 1, n, h => by
    have := rowsOf_get p (l := l) (a := a + m) (i := i) (n := n) (by simpa using h)
    simp only [rowsOf, List.getElem?_cons_succ, List.take_succ_cons, Kct9.sumOf]
    rw [this]
    simp only [Nat.add_assoc]
theorem rowsOf_len (p : Kct9.Player) : ∀ (l : List Nat) (a : Nat), (rowsOf p l a).length = l.length
  | [], _ => rfl
  | n :: l, a => by simp [rowsOf, rowsOf_len p l]
structure WOk (p : Kct9.Player) : Prop where
  ord : Ord p.notes
  sh : -24 ≤ p.shift
  hi : ∀ n ∈ p.notes, 0 ≤ n.high
  len : p.notes.length ≤ 256
structure BOk (bars : List Nat) : Prop where
  len : bars.length ≤ 64
  pos : ∀ b ∈ bars, 1 ≤ b
theorem BOk.of {s : Kct9.Abs} (w : Mx.Wf s) : BOk s.bars := ⟨w.blen, fun b hb => (w.bars b hb).1⟩
theorem WOk.of {a : Nat} {p : Kct9.Player} (w : Mx.WfP a p) : WOk p := ⟨⟨w.ch, w.pos⟩, w.sh1, fun n hn => by have := w.rg n hn; have := w.low0; omega, w.len⟩
theorem map_nat (l : List Nat) : natsV l = intsV (l.map fun n : Nat => (n : Int)) := by
  unfold natsV intsV
  rw [List.map_map]
  rfl
def sp_written_bar (K : PySem.W.Frag) (c : Cl) : Sp := fun vs H Q _ => ∃ (a dx ln : Addr) (as : List Addr) (p : Kct9.Player) (f b e : Nat), vs = [.ref a, .int f, .int b, .int e] ∧ PlAt c H a dx ln as p ∧ WOk p ∧ b < e ∧ f ≤ p.notes.length ∧ (∀ n ∈ p.notes.take f, Kct9.ends n ≤ b) ∧ (∀ n ∈ p.notes.drop f, b < Kct9.ends n) ∧
  ∀ (H' : Hp) (q : Addr), Same H H' → H q = none → RowAt H' q (rowOf p b e) → Q (.ref q) H'
def sp_written_bars (K : PySem.W.Frag) (c : Cl) : Sp := fun vs H Q _ => ∃ (lb a dx ln : Addr) (as : List Addr) (bars : List Nat) (p : Kct9.Player), vs = [.ref lb, .ref a] ∧ NatsAt H lb bars ∧ BOk bars ∧ PlAt c H a dx ln as p ∧ WOk p ∧
  ∀ (H' : Hp) (q : Addr), Same H H' → H q = none → RowsNew H H' q (rowsOf p bars 0) → Q (.ref q) H'
def sp_written_empty (K : PySem.W.Frag) (c : Cl) : Sp := fun vs H Q _ => ∃ n : Nat, vs = [.int n] ∧ ∀ q, H q = none → Q (.ref q) (upd H q (.lst (natsV (if n = 0 then [] else [255, n]))))
def sp_written_part (K : PySem.W.Frag) (c : Cl) : Sp := fun vs H Q _ => ∃ (lb a dx ln : Addr) (as : List Addr) (bars : List Nat) (p : Kct9.Player), vs = [.ref lb, .ref a] ∧ NatsAt H lb bars ∧ BOk bars ∧ PlAt c H a dx ln as p ∧ WOk p ∧
  ∀ (H' : Hp) (q : Addr), Same H H' → H q = none → NatsAt H' q (Kct9.write 0 (Kct9.barsOf p bars 0)) → Q (.ref q) H'
def sp_silent_about_ends (K : PySem.W.Frag) (c : Cl) : Sp := fun vs H Q _ => ∃ (lb l : Addr) (as : List Addr) (bars : List Nat) (ns : List Kct9.Note), vs = [.ref lb, .ref l] ∧ NatsAt H lb bars ∧ BOk bars ∧ NotesAt c H l as ns ∧ Ord ns ∧ (∀ n ∈ ns, Kct9.ends n ≤ Kct9.sumOf bars) ∧ ns.length ≤ 256 ∧
  ∀ (H' : Hp) (q : Addr) (cs : List Nat), Same H H' → H q = none → NatsAt H' q cs → cs.length = bars.length → (∀ i : Nat, i < bars.length → cs[i]? = some (Kct9.before ns (Kct9.sumOf (bars.take (i + 1))) + Kct9.behind ns (Kct9.sumOf (bars.take (i + 1))) (Kct9.sumOf bars))) → Q (.ref q) H'
def BoolsAt (H : Hp) (a : Addr) (l : List Bool) : Prop := H a = some (.lst (l.map V.bl))
def sp_places_to_end (K : PySem.W.Frag) (c : Cl) : Sp := fun vs H Q _ => ∃ (lb l : Addr) (as : List Addr) (bars : List Nat) (ns : List Kct9.Note) (rest : Nat), vs = [.ref lb, .ref l, .int rest] ∧ NatsAt H lb bars ∧ BOk bars ∧ NotesAt c H l as ns ∧ Ord ns ∧ (∀ n ∈ ns, Kct9.ends n ≤ Kct9.sumOf bars) ∧ ns.length ≤ 256 ∧
  ∀ (H' : Hp) (q : Addr) (bs : List Bool), Same H H' → H q = none → BoolsAt H' q bs →
    (∀ i : Nat, i < bars.length → bs[i]? = some (decide (i + 1 = bars.length) || decide (rest ≤ Kct9.before ns (Kct9.sumOf (bars.take (i + 1))) + Kct9.behind ns (Kct9.sumOf (bars.take (i + 1))) (Kct9.sumOf bars)))) → Q (.ref q) H'
def Furthest (f : Nat → Nat → Bool) (a n r : Nat) : Prop := (r = a ∧ ∀ e, e ≤ n → f a e = false) ∨ (a < r ∧ r ≤ n ∧ f a r = true ∧ ∀ e, r < e → e ≤ n → f a e = false)
def sp_furthest_end (K : PySem.W.Frag) (c : Cl) : Sp := fun vs H Q _ => ∃ (lr lb : Addr) (p : Kct9.Player) (s : Kct9.Abs) (bs : List Bool) (a most rest : Nat), vs = [.ref lr, .ref lb, .int a, .int most] ∧ RowsAt H lr (rowsOf p s.bars 0) ∧ BoolsAt H lb bs ∧ BOk s.bars ∧ a < s.bars.length ∧
  (∀ i : Nat, i < s.bars.length → bs[i]? = some (decide (i + 1 = s.bars.length) || Kct9.turns s p rest (i + 1))) ∧
  ∀ r : Nat, Furthest (Kct9.isPage s p most rest) a s.bars.length r → Q (.int r) H
def sp_page_ends (K : PySem.W.Frag) (c : Cl) : Sp := fun vs H Q _ => ∃ (lb a dx ln : Addr) (as : List Addr) (s : Kct9.Abs) (p : Kct9.Player) (most rest : Nat), vs = [.ref lb, .ref a, .int most, .int rest] ∧ NatsAt H lb s.bars ∧ BOk s.bars ∧ PlAt c H a dx ln as p ∧ WOk p ∧ (∀ n ∈ p.notes, Kct9.ends n ≤ Kct9.total s) ∧
  ∀ H', Same H H' → (Kct9.pages s p most rest = none → Q .non H') ∧ (∀ l q, Kct9.pages s p most rest = some l → H q = none → l.length ≤ 64 → NatsAt H' q l → Q (.ref q) H')
def StepsAt (H : Hp) (d : Addr) (l : List (Int × (Int × Int))) : Prop := ∃ ts : List Addr, H d = some (.dK ((l.zip ts).map fun z => (Sum.inl z.1.1, V.ref z.2))) ∧ Paired (TupAt H) ts (l.map (·.2))
theorem StepsAt.same {H H' : Hp} (s : Same H H') {d : Addr} {l : List (Int × (Int × Int))} (h : StepsAt H d l) : StepsAt H' d l := let ⟨ts, e, p⟩ := h; ⟨ts, s _ _ e, Paired.imp' (fun _ _ z => TupAt.same s z) p⟩
def sp_steps (K : PySem.W.Frag) (c : Cl) : Sp := fun vs H Q _ => ∃ (l : Addr) (as : List Addr) (ns : List Kct9.Note), vs = [.ref l] ∧ NotesAt c H l as ns ∧ Ord ns ∧ ns.length ≤ 256 ∧
  ∀ (H' : Hp) (d : Addr), Same H H' → H d = none → StepsAt H' d (Mm.stepsOf ns) → Q (.ref d) H'
def sp_is_parallel (K : PySem.W.Frag) (c : Cl) : Sp := fun vs H Q _ => ∃ x y : Int, vs = [.int x, .int y] ∧ Q (.bl (Kct9.isPerfect (x - y))) H
def sp_goes_parallel (K : PySem.W.Frag) (c : Cl) : Sp := fun vs H Q _ => ∃ (t u : Addr) (a b : Int × Int), vs = [.ref t, .ref u] ∧ TupAt H t a ∧ TupAt H u b ∧ Q (.bl (Mm.goesPar a b)) H
def sp_count_parallels (K : PySem.W.Frag) (c : Cl) : Sp := fun vs H Q _ => ∃ (l m : Addr) (as bs : List Addr) (ns ms : List Kct9.Note) (all : Nat), vs = [.ref l, .ref m] ∧ NotesAt c H l as ns ∧ NotesAt c H m bs ms ∧ Ord ns ∧ Ord ms ∧ ns.length ≤ 256 ∧ ms.length ≤ 256 ∧ (∀ n ∈ ns, Kct9.ends n ≤ all) ∧ (∀ n ∈ ms, Kct9.ends n ≤ all) ∧
  ∀ H', Same H H' → Q (.int (((List.range all).filter (Kct9.isParallel ns ms)).length : Nat)) H'
def sp_bar_begins (K : PySem.W.Frag) (c : Cl) : Sp := fun vs H Q _ => ∃ (lb : Addr) (bars : List Nat), vs = [.ref lb] ∧ NatsAt H lb bars ∧ bars.length ≤ 64 ∧ ∀ (H' : Hp) (q : Addr), Same H H' → H q = none → NatsAt H' q (Mm.begins bars 0) → Q (.ref q) H'
def sp_behind_empty (K : PySem.W.Frag) (c : Cl) : Sp := fun vs H Q _ => ∃ (l : Addr) (bars : List Nat) (a k : Nat), vs = [.ref l, .int a, .int k] ∧ NatsAt H l (Mm.begins bars 0) ∧ BOk bars ∧ Q (match Kct9.barsFrom bars a k with | none => .non | some n => .int ((a + n : Nat) : Int)) H
def sp_spelled_notes (K : PySem.W.Frag) (c : Cl) : Sp := fun vs H Q _ => ∃ (lb l : Addr) (bars b : List Nat) (sh : Int), vs = [.ref lb, .int sh, .ref l] ∧ NatsAt H lb bars ∧ BOk bars ∧ NatsAt H l b ∧ b.length % 2 = 0 ∧ b.length ≤ 30000 ∧
  ∀ H', Same H H' → (Mm.spelled bars sh b 0 [] = none → Q .non H') ∧ (∀ ns q as, Mm.spelled bars sh b 0 [] = some ns → H q = none → as.Nodup → (∀ a ∈ as, H a = none) → ns.length ≤ 30000 → NotesAt c H' q as ns → Q (.ref q) H')
def sp_read_notes (K : PySem.W.Frag) (c : Cl) : Sp := fun vs H Q _ => ∃ (lb a dx ln l : Addr) (as : List Addr) (s : Kct9.Abs) (p : Kct9.Player) (b : List Nat), vs = [.ref lb, .ref a, .ref l] ∧ NatsAt H lb s.bars ∧ Mx.Wf s ∧ PlAt c H a dx ln as p ∧ Mx.WfP (Kct9.total s) p ∧ NatsAt H l b ∧ b.length ≤ 30000 ∧ (∀ z ∈ b, z < 256) ∧
  ∀ H', Same H H' → (Kct9.notesOf s p b = none → Q .non H') ∧ (∀ ns q as', Kct9.notesOf s p b = some ns → H q = none → as'.Nodup → (∀ a ∈ as', H a = none) → NotesAt c H' q as' ns → Q (.ref q) H')
theorem ScAt.updD {c : Cl} {H : Hp} {x D : Addr} {R : SR} {s : Kct9.Abs} {xs ys : List V} (h : ScAt c H x R s) (hD : H D = some (.lst xs)) (n1 : D ≠ R.lb) (n2 : D ≠ R.lp) (n3 : ∀ r ∈ R.ps, r.ln ≠ D) : ScAt c (upd H D (.lst ys)) x R s := by
  have kp : ∀ b o, H b = some o → b ≠ D → upd H D (.lst ys) b = some o := fun b o e hb => by
    rw [upd_ne hb]
    exact e
  have kk : ∀ b o, H b = some o → (∀ zs, o ≠ .lst zs) → upd H D (.lst ys) b = some o := fun b o e d => kp b o e (ne_of e hD (d _))
  refine ⟨kk _ _ h.obj (fun _ z => by cases z), kp _ _ h.lb (Ne.symm n1), kp _ _ h.lp (Ne.symm n2), h.ne, h.nd, h.nl, h.nn, Mm.paired_mem (fun r hr p _ hpl => ?_) h.pl, ?_⟩
  · exact ⟨kk _ _ hpl.obj (fun _ z => by cases z), kp _ _ hpl.lst (n3 r hr), Paired.imp' (fun a n ⟨dn, hn⟩ => ⟨dn, kk _ _ hn (fun _ z => by cases z)⟩) hpl.nts⟩
  · rcases h.tab with t | ⟨c', t, u⟩
    · exact .inl (kk _ _ t (fun _ z => by cases z))
    · exact .inr ⟨c', kk _ _ t (fun _ z => by cases z), kk _ _ u (fun _ z => by cases z)⟩
def spCall (c : Cl) (vals : List V → Hp → Kct9.Call → Prop) : Sp := fun vs H Q _ => ∃ (x : Addr) (R : SR) (s : Kct9.Abs) (r : List V) (cl : Kct9.Call), vs = .ref x :: r ∧ vals r H cl ∧ ScAt c H x R s ∧ Mx.Wf s ∧
  ∀ (H' : Hp) (R' : SR) (q : Addr), ScAt c H' x R' (Kct9.step s cl).1 → Chg H H' R R' → IntsAt H' q (Kct9Neutral.tell (Kct9.step s cl).2) → H q = none → Q (.ref q) H'
def sp_part_answer (K : PySem.W.Frag) (c : Cl) : Sp := spCall c fun r _ cl => ∃ i : Nat, r = [.int i] ∧ cl = .part i
def sp_read_answer (K : PySem.W.Frag) (c : Cl) : Sp := spCall c fun r H cl => ∃ (i : Nat) (l : Addr) (b : List Nat), r = [.int i, .ref l] ∧ NatsAt H l b ∧ b.length ≤ 30000 ∧ (∀ z ∈ b, z < 256) ∧ cl = .read i b
def sp_pages_answer (K : PySem.W.Frag) (c : Cl) : Sp := spCall c fun r _ cl => ∃ i m t : Nat, r = [.int i, .int m, .int t] ∧ cl = .pages i m t
def sp_sounds_answer (K : PySem.W.Frag) (c : Cl) : Sp := spCall c fun r _ cl => ∃ t : Nat, r = [.int t] ∧ cl = .sounds t
def sp_parallels_answer (K : PySem.W.Frag) (c : Cl) : Sp := spCall c fun r _ cl => ∃ i j : Nat, r = [.int i, .int j] ∧ cl = .parallels i j
def sp_answer (K : PySem.W.Frag) (c : Cl) : Sp := spCall c fun r H cl => ∃ (n : Int) (l : Addr) (ns : List Int), r = [.int n, .ref l] ∧ IntsAt H l ns ∧ Mm.CallIs n ns cl
def sp_behind_call (K : PySem.W.Frag) (c : Cl) : Sp := fun vs H Q _ => ∃ (a : Addr) (cs : List Int) (k : Nat) (p : Int), vs = [.ref a, .int k] ∧ SqL K H a (intsV cs) ∧ cs[k]? = some p ∧ 0 ≤ p ∧ p ≤ 10 ∧ (p = 6 → k + 2 < cs.length) ∧
  Q (.int (k + 1 + Mm.sizeOf' p + (if p = 6 then (cs[k + 2]?).getD 0 else 0))) H
def sp_answers (K : PySem.W.Frag) (c : Cl) : Sp := fun vs H Q _ => ∃ (a : Addr) (cs : List Int), vs = [.ref a] ∧ ((∃ o, H a = some (.frz o (.lst (intsV cs)))) ∨ ∀ H', SqL K H' a (intsV cs)) ∧ Tab H ∧ cs.length ≤ 30000 ∧ PyKct9.answers_asked cs = true ∧
  ∀ (H' : Hp) (q : Addr), IntsAt H' q (PyKct9.answers cs) → Q (.ref q) H'
end
end Ps
set_option Elab.async false
set_option maxRecDepth 100000
set_option linter.all false
set_option maxHeartbeats 2000000
namespace Ps
open PySem PySem.Spec PyProof.Rows L2
local macro_rules | `(tactic| simp_arith only [$xs,*]) => `(tactic| simp only [rd_tVar, rd_tC, rd_tIsN, rd_tNotN, rd_tB, rd_tAnd, rd_tOr, rd_tNot, rd_tAndV, rd_tOrV, rd_tNotV, rd_tIf, rd_tNext, rd_tSeq, rd_tBreak, rd_tCont, rd_tDrop, rd_tRet, rd_tRetN, rd_tIfS, rd_tNever, rd_gName, rd_gNil, rd_gCons, rd_gTup, rd_tAsg, rd_tAug, rd_iRng1, rd_iRng2, rd_tOp, rd_tUn, rd_rI, rd_rI0, rd_rU, rd_rEq, rd_rNe, rd_tTest, rd_tChain, rd_tFld, rd_sFld, rd_sFldAug, rd_rAdd, rd_rSub, rd_tNil, rd_tCons, rd_tTup, rd_tLst, rd_tCall, rd_tMeth, rd_tMake, rd_tCB, rd_tNoPart, rd_tPart, rd_tSl, rd_rAppend, rd_rExtend, rd_rCat, rd_rAll, rd_tYes, rd_ipI, rd_tFor, rd_tWhile, rd_tLc, rd_iLst, rd_rIxl, rd_rIxt, rd_rLen, rd_rSm, rd_rAbs, rd_rMin2, rd_rMax2, rd_rSll, rd_tLM, rd_rExtT, rd_tKT, rd_iItemsL, rd_tDGet, rd_tDIn, rd_sDPut, rd_tDNewK, rd_iRng3, rd_iEnum, rd_rNeD, rd_rIn, rd_rIndex, rd_rMin, rd_rMax, rd_rIxT, rd_tSortKey, rd_rIxQ, rd_rLenQ, rd_rSlQ, cxK, noxK, L2.start, lstOf_lst, lstOf_frz, tupOf_tup, List.map_cons, List.map_nil, List.length_cons, List.length_nil, Option.some.injEq, List.getElem?_cons_zero, List.getElem?_cons_succ, List.set_cons_zero, List.set_cons_succ, exists_eq_left', exists_and_left, exists_eq_left, exists_eq_right, true_and, and_true, List.cons_append, List.nil_append, List.append_nil, List.replicate, Nat.sub_self, Nat.add_one_sub_one, V.ref.injEq, V.int.injEq, V.bl.injEq, HO.ins.injEq, HO.lst.injEq, and_assoc, List.cons.injEq, eqI, upd_same, upd_upd, upd_none, Bool.not_eq_true', decide_eq_true_eq, decide_eq_false_iff_not, Bool.false_eq_true, if_false, if_true, reduceIte, scal, pl1, pl2, pl3, Bool.not_false, Bool.not_true, ne_eq, not_false_eq_true, forall_const, $xs,*])
section
variable {P : Program} {w : World} {K : PySem.W.Frag} {mg : Str → Option Value} {base : Heap} {c : Cl}
theorem ok_Note_init {f : Addr} {fd : FuncData} (F : Fun K "__init__" "Note.__init__" s_Note_init f fd) (T : Txt K mg c)  : FnOk P w K mg base CX0 1 f fd ["self", "start", "end", "high"] (sp_Note_init K c) := by
  refine F.ok sc_Note_init (fun vs H Q E h => ?_) (fun cdv A outer s H vs Q E hr h => ?_)
  · obtain ⟨x, dx, s, e, h, rfl, _⟩ := h
    rfl
  · obtain ⟨x, dx, s, e, h, rfl, hx, k⟩ := h
    refine ⟨_, (pss_cons (ps_fld (pv 0) (pv 1) rfl)
      (pss_cons (ps_fld (pv 0) (pv 2) rfl)
      (pss_one (ps_fld (pv 0) (pv 3) rfl)))), ?_⟩
    simp_arith only [hx, T.c_Note, T.a_Note_start, T.a_Note_end, T.a_Note_high]
    exact ⟨by decide, by rw [← i_Note] at k; exact k⟩
theorem ok_Player_init {f : Addr} {fd : FuncData} (F : Fun K "__init__" "Player.__init__" s_Player_init f fd) (T : Txt K mg c)  : FnOk P w K mg base CX0 1 f fd ["self", "shift", "low", "top"] (sp_Player_init K c) := by
  refine F.ok sc_Player_init (fun vs H Q E h => ?_) (fun cdv A outer s H vs Q E hr h => ?_)
  · obtain ⟨x, dx, s, e, h, rfl, _⟩ := h
    rfl
  · obtain ⟨x, dx, s, e, h, rfl, hx, k⟩ := h
    refine ⟨_, (pss_cons (ps_fld (pv 0) (pv 1) rfl)
      (pss_cons (ps_fld (pv 0) (pv 2) rfl)
      (pss_cons (ps_fld (pv 0) (pv 3) rfl)
      (pss_one (ps_fld (pv 0) (pe_lst pa_nil) rfl))))), ?_⟩
    simp_arith only [hx, T.c_Player, T.a_Player_shift, T.a_Player_low, T.a_Player_top, T.a_Player_notes]
    refine ⟨by decide, by decide, fun q hq => ?_⟩
    have e : ∀ u : HO, upd (upd H x u) q (.lst []) x = some u := fun u => by rw [upd_ne (Ne.symm hq.1), upd_same]
    simp_arith only [e, T.c_Player, T.a_Player_notes]
    rw [upd_swap (Ne.symm hq.1), upd_upd]
    exact k q hq.2.2.2
theorem ok_Score_init {f : Addr} {fd : FuncData} (F : Fun K "__init__" "Score.__init__" s_Score_init f fd) (T : Txt K mg c)  : FnOk P w K mg base CX0 1 f fd ["self"] (sp_Score_init K c) := by
  refine F.ok sc_Score_init (fun vs H Q E h => ?_) (fun cdv A outer s H vs Q E hr h => ?_)
  · obtain ⟨x, dx, rfl, _⟩ := h
    rfl
  · obtain ⟨x, dx, rfl, hx, k⟩ := h
    refine ⟨_, (pss_cons (ps_fld (pv 0) (pe_lst pa_nil) rfl)
      (pss_one (ps_fld (pv 0) (pe_lst pa_nil) rfl))), ?_⟩
    have n0 : ∀ {p : Addr}, H p = none → x ≠ p := fun h => ne_of_none hx h
    simp_arith only [hx, T.c_Score, T.a_Score_bars, T.a_Score_players]
    refine ⟨by decide, fun p hp => ?_⟩
    have e : upd H p (.lst []) x = some (.ins c.Score dx []) := by rw [upd_ne (n0 hp), hx]
    simp_arith only [e, T.c_Score, T.a_Score_bars, T.a_Score_players]
    refine ⟨by decide, by decide, fun q hq => ?_⟩
    have e2 : ∀ u : HO, upd (upd (upd H p (.lst [])) x u) q (.lst []) x = some u := fun u => by rw [upd_ne (Ne.symm hq.1), upd_same]
    simp_arith only [e2, T.c_Score, T.a_Score_bars, T.a_Score_players]
    rw [upd_swap (Ne.symm hq.1), upd_upd]
    exact k p q hp hq.2.2 (fun z => hq.2.1 z.symm)
theorem ok_Player_may_sound {f : Addr} {fd : FuncData} (F : Fun K "may_sound" "Player.may_sound" s_Player_may_sound f fd) (T : Txt K mg c)  : FnOk P w K mg base CX0 1 f fd ["self", "high"] (sp_Player_may_sound K c) := by
  refine F.ok sc_Player_may_sound (fun vs H Q E h => ?_) (fun cdv A outer s H vs Q E hr h => ?_)
  · obtain ⟨a, dx, s, lo, hi, n, h, rfl, _⟩ := h
    rfl
  · obtain ⟨a, dx, s0, lo, hi, n, h, rfl, hp, k⟩ := h
    refine ⟨_, (pss_one (ps_ret (pe_and (pe_cmpR op_le (pe_fld (pv 0) rfl) (pv 1) (nomark _)) (pe_one (pe_cmpR op_le (pv 1) (pe_fld (pv 0) rfl) (nomark _)))))), ?_⟩
    simp_arith only [hp, T.c_Player, T.a_Player_low, T.a_Player_top, l_Player_low, l_Player_top]
    split <;> rename_i h1 <;> simpa [h1] using k
theorem ok_Player_is_silent {f : Addr} {fd : FuncData} (F : Fun K "is_silent" "Player.is_silent" s_Player_is_silent f fd) (T : Txt K mg c)  : FnOk P w K mg base CX0 1 f fd ["self", "start", "end"] (sp_Player_is_silent K c) := by
  refine F.ok sc_Player_is_silent (fun vs H Q E h => ?_) (fun cdv A outer s H vs Q E hr h => ?_)
  · obtain ⟨a, dx, ln, as, p, s, e, rfl, _⟩ := h
    rfl
  · obtain ⟨a, dx, ln, as, p, st, en, rfl, hp, k⟩ := h
    refine ⟨_, (pss_cons (ps_for PassesOwn.never rfl (pi_lst (pe_fld (pv 0) rfl)) (pg_name (i := 3) sc_Player_is_silent.nd rfl (by first | exact Or.inl rfl | exact Or.inr rfl)) (pss_one (ps_if (pw_and (pt_cmpR op_lt (pe_fld (pv 3) rfl) (pv 2) (nomark _)) (pw_and1 (pt_cmpR op_lt (pv 1) (pe_fld (pv 3) rfl) (nomark _)))).pt (pss_one (ps_ret pe_bl)) pss_nil)))
      (pss_one (ps_ret pe_bl))), ?_⟩
    simp_arith only [hp.obj, hp.lst, T.c_Player, T.a_Player_notes, l_Player_notes]
    refine for_list (xs := as.map V.ref) (fun i σ H' => H' = H ∧ ∃ v, σ = [some (.ref a), some (.int st), some (.int en), v] ∧ (p.notes.take i).any (fun b => decide (b.start < en) && decide (st < Kct9.ends b)) = false) ⟨rfl, _, rfl, rfl⟩ (fun i σ H' _ ⟨e, _⟩ => by subst e; exact SqL.of hp.lst) ?_ ?_
    · rintro i x σ H' hi ⟨rfl, v, rfl, hany⟩
      obtain ⟨b, hb, rfl⟩ := map_get hi
      obtain ⟨n, hn, dn, hnote⟩ := paired_get hp.nts hb
      simp_arith only [hnote, T.c_Note, T.a_Note_start, T.a_Note_end, l_Note_start, l_Note_end]
      rw [take_snoc hn, List.any_append, hany]
      split
      · rename_i h1
        split
        · rename_i h2
          have e : (p.notes.any fun b => decide (b.start < en) && decide (st < Kct9.ends b)) = true := List.any_eq_true.mpr ⟨n, List.mem_of_getElem? hn, by simp; omega⟩
          rw [e] at k
          exact k
        · rename_i h2
          simp
          omega
      · rename_i h1
        simp
        omega
    · rintro σ H' ⟨rfl, v, rfl, hany⟩
      rw [List.length_map, Paired.length hp.nts, List.take_length] at hany
      rw [hany] at k
      exact k
theorem ok_Player_leave_out {f : Addr} {fd : FuncData} (F : Fun K "leave_out" "Player.leave_out" s_Player_leave_out f fd) (T : Txt K mg c)  : FnOk P w K mg base CX0 1 f fd ["self", "start"] (sp_Player_leave_out K c) := by
  refine F.ok sc_Player_leave_out (fun vs H Q E h => ?_) (fun cdv A outer s H vs Q E hr h => ?_)
  · obtain ⟨a, dx, ln, as, p, s, rfl, _⟩ := h
    rfl
  · obtain ⟨a, dx, ln, as, p, st, rfl, hp, hlen, k⟩ := h
    refine ⟨_, (pss_one (ps_fld (pv 0) (pe_lc rfl sc_Player_leave_out.nd (pi_lst (pe_fld (pv 0) rfl)) (blkOk_by (own := [("note", 2)]) (by with_unfolding_all rfl)) (fun _ _ _ _ _ => pg_name (i := 2) sc_Player_leave_out.nd rfl (Or.inl rfl)) (fun _ _ _ _ _ => (pts_one (pt_cmpR op_ne (pe_fldB (pv 2) rfl) (pv 1) (nomark _)))) (fun _ _ _ _ _ => (pv 2))) rfl)), ?_⟩
    simp_arith only [hp.obj, hp.lst, T.c_Player, T.a_Player_notes, l_Player_notes]
    intro D hD
    have nln : ln ≠ D := ne_of_none hp.lst hD
    have na : a ≠ D := ne_of_none hp.obj hD
    refine lc_list (xs := as.map V.ref) (fun i H' => ∃ as', Paired (NoteAt c H) as' ((p.notes.take i).filter fun n => n.start != st) ∧ as'.Sublist (as.take i) ∧ H' = upd H D (.lst (as'.map V.ref))) ⟨[], .nil, by simp, rfl⟩ (fun i H' _ ⟨as', _, _, e⟩ => ?_) ?_ ?_
    · subst e
      exact SqL.of (by rw [upd_ne nln]; exact hp.lst)
    · rintro i x H' hi ⟨as', hpr, hsl, rfl⟩
      obtain ⟨b, hb, rfl⟩ := map_get hi
      obtain ⟨n, hn, dn, hnote⟩ := paired_get hp.nts hb
      have hnote' : ∀ u, upd H D u b = some (HO.ins c.Note dn (fs_Note (V.int n.start) (V.int (Kct9.ends n)) (V.int n.high))) := fun u => by rw [upd_ne (ne_of_none hnote hD)]; exact hnote
      have hl2 : as'.length ≤ 256 := by
        rw [Paired.length hpr]
        exact Nat.le_trans (List.length_filter_le _ _) (Nat.le_trans (by simp; omega) hlen)
      simp_arith only [wipe, hnote', T.c_Note, T.a_Note_start, l_Note_start]
      rw [take_snoc hn, List.filter_append, take_snoc hb]
      split
      · rename_i h1
        have e : ([n].filter fun n => n.start != st) = [n] := by simp; omega
        rw [e]
        exact ⟨by rw [List.length_map, sizeLine_eq]; omega, as' ++ [b], Paired.snoc hpr ⟨dn, hnote⟩, hsl.append (List.Sublist.refl _), by rw [List.map_append]; rfl⟩
      · rename_i h1
        have e : ([n].filter fun n => n.start != st) = [] := by simp; omega
        rw [e, List.append_nil]
        exact ⟨as', hpr, hsl.trans (List.sublist_append_left _ _), rfl⟩
    · rintro H' ⟨as', hpr, hsl, rfl⟩
      rw [List.length_map] at hpr hsl
      rw [List.take_length] at hsl
      rw [Paired.length hp.nts, List.take_length] at hpr
      have ho : ∀ u, upd H D u a = some (.ins c.Player dx (fs_Player (.int p.shift) (.int p.low) (.int p.top) (.ref ln))) := fun u => by rw [upd_ne na]; exact hp.obj
      simp_arith only [ho, T.c_Player, T.a_Player_notes, n_Player, p_Player_notes]
      refine ⟨by decide, k _ D as' ⟨upd_same, by rw [upd_ne (Ne.symm na), upd_same], ?_⟩ hsl (fun b o hb hne => ?_) hD⟩
      · refine Paired.imp' (fun b n ⟨dn, hn⟩ => ⟨dn, ?_⟩) hpr
        rw [upd_ne (note_ne hn hp.obj), upd_ne (ne_of_none hn hD)]
        exact hn
      · rw [upd_ne hne, upd_ne (ne_of_none hb hD)]
        exact hb
theorem ok_Player_note_at {f : Addr} {fd : FuncData} (F : Fun K "note_at" "Player.note_at" s_Player_note_at f fd) (T : Txt K mg c)  : FnOk P w K mg base CX0 1 f fd ["self", "tick"] (sp_Player_note_at K c) := by
  refine F.ok sc_Player_note_at (fun vs H Q E h => ?_) (fun cdv A outer s H vs Q E hr h => ?_)
  · obtain ⟨a, dx, ln, as, p, t, rfl, _⟩ := h
    rfl
  · obtain ⟨a, dx, ln, as, p, t, rfl, hp, ho, hlen, k1, k2⟩ := h
    refine ⟨_, (pss_cons (ps_set (i := 2) sc_Player_note_at.nd rfl (by first | exact Or.inl rfl | exact Or.inr rfl) pe_int)
      (pss_cons (ps_set (i := 3) sc_Player_note_at.nd rfl (by first | exact Or.inl rfl | exact Or.inr rfl) (pe_callB call_len_l (by rfl) T.b_len PySem.boot_len (pa_cons (pe_fld (pv 0) rfl) pa_nil)))
      (pss_cons (ps_while PassesOwn.never (pt_cmpR op_lt (pv 2) (pv 3) (nomark _)) (pss_cons (ps_set (i := 4) sc_Player_note_at.nd rfl (by first | exact Or.inl rfl | exact Or.inr rfl) (pe_op op_fdiv (pe_op op_add (pv 2) (pv 3)) pe_int))
      (pss_cons (ps_set (i := 5) sc_Player_note_at.nd rfl (by first | exact Or.inl rfl | exact Or.inr rfl) (pe_ix ix_lst (pe_fld (pv 0) rfl) (pv 4) (fun _ _ => rfl)))
      (pss_one (ps_if (pt_cmpR op_le (pe_fld (pv 5) rfl) (pv 1) (nomark _)) (pss_one (ps_set (i := 2) sc_Player_note_at.nd rfl (by first | exact Or.inl rfl | exact Or.inr rfl) (pe_op op_add (pv 4) pe_int))) (pss_one (ps_if (pt_cmpR op_gt (pe_fld (pv 5) rfl) (pv 1) (nomark _)) (pss_one (ps_set (i := 3) sc_Player_note_at.nd rfl (by first | exact Or.inl rfl | exact Or.inr rfl) (pv 4))) (pss_one (ps_ret (pv 5))))))))))
      (pss_one (ps_ret pe_non))))), ?_⟩
    simp_arith only [hp.obj, hp.lst, T.c_Player, T.a_Player_notes, l_Player_notes]
    have hl := Paired.length hp.nts
    refine while_by (fun σ H' => H' = H ∧ ∃ (f b : Nat) (v4 v5 : Option V), σ = [some (.ref a), some (.int t), some (.int f), some (.int b), v4, v5] ∧ f ≤ b ∧ b ≤ p.notes.length ∧ (∀ i n, p.notes[i]? = some n → i < f → Kct9.ends n ≤ t) ∧ (∀ i n, p.notes[i]? = some n → b ≤ i → t < n.start))
      (fun σ _ => match σ with | [_, _, some (.int f), some (.int b), _, _] => (b - f).toNat | _ => 0) ?_ ?_ (mo_test (mo_op mo_I0 mo_var mo_var))
    · refine ⟨rfl, 0, p.notes.length, none, none, ?_, Nat.zero_le _, Nat.le_refl _, fun i n _ h => absurd h (Nat.not_lt_zero _), fun i n e h => ?_⟩
      · rw [List.length_map, hl]
        rfl
      · have := (List.getElem?_eq_some_iff.mp e).1
        omega
    · rintro σ H' ⟨rfl, f, b, v4, v5, rfl, hfb, hb, hf, hbe⟩
      simp_arith only []
      split
      · rename_i hlt
        have hlt' : f < b := by omega
        have em : ((f : Int) + b) / 2 = (((f + b) / 2 : Nat) : Int) := by omega
        obtain ⟨n, hn⟩ : ∃ n, p.notes[(f + b) / 2]? = some n := ⟨_, List.getElem?_eq_getElem (by omega)⟩
        obtain ⟨z, hz, dz, hnz⟩ := paired_get' hp.nts hn
        have at1 : atI (as.map V.ref) (((f + b) / 2 : Nat) : Int) = some (V.ref z) := atI_nat (by rw [List.getElem?_map, hz]; rfl)
        refine ⟨⟨by decide, by decide⟩, ?_⟩
        rw [em]
        simp_arith only [hp.obj, hp.lst, T.c_Player, T.a_Player_notes, l_Player_notes, at1, hnz, T.c_Note, T.a_Note_start, T.a_Note_end, l_Note_start, l_Note_end]
        have hch := List.pairwise_iff_getElem.mp ho.ch
        split
        · rename_i h1
          refine ⟨⟨(f + b) / 2 + 1, by omega, b, rfl, by omega, hb, fun i m em' hi => ?_, hbe⟩, by omega⟩
          by_cases hi2 : i = (f + b) / 2
          · subst hi2
            rw [hn] at em'
            cases em'
            omega
          · have h3 : i < (f + b) / 2 := by omega
            obtain ⟨l1, e1⟩ := List.getElem?_eq_some_iff.mp em'
            obtain ⟨l2, e2⟩ := List.getElem?_eq_some_iff.mp hn
            have := hch i _ l1 l2 h3
            rw [e1, e2] at this
            unfold Kct9.ends at *
            omega
        · rename_i h1
          split
          · rename_i h2
            refine ⟨⟨f, rfl, (f + b) / 2, rfl, by omega, by omega, hf, fun i m em' hi => ?_⟩, by omega⟩
            by_cases hi2 : i = (f + b) / 2
            · subst hi2
              rw [hn] at em'
              cases em'
              omega
            · have h3 : (f + b) / 2 < i := by omega
              obtain ⟨l1, e1⟩ := List.getElem?_eq_some_iff.mp em'
              obtain ⟨l2, e2⟩ := List.getElem?_eq_some_iff.mp hn
              have := hch _ i l2 l1 h3
              rw [e1, e2] at this
              unfold Kct9.ends at *
              omega
          · rename_i h2
            refine k1 z n ⟨dz, hnz⟩ ?_
            exact Mm.sounds_at ho.ch hn (by omega) (by omega)
      · rename_i hlt
        refine k2 (Mm.sounds_none fun n hn hh => ?_)
        obtain ⟨i, hi⟩ := List.getElem?_of_mem hn
        by_cases h : i < f
        · have := hf i n hi h
          omega
        · have := hbe i n hi (by omega)
          omega
theorem ok_Player_may_move {f : Addr} {fd : FuncData} (F : Fun K "may_move" "Player.may_move" s_Player_may_move f fd) (T : Txt K mg c) {f_Player_may_sound : Addr} {fd_Player_may_sound : FuncData} (M_Player_may_sound : Mt P w K mg base c.Player "may_sound" 1 ["self", "high"] (sp_Player_may_sound K c) f_Player_may_sound fd_Player_may_sound) : FnOk P w K mg base CX0 2 f fd ["self", "k"] (sp_Player_may_move K c) := by
  refine F.ok sc_Player_may_move (fun vs H Q E h => ?_) (fun cdv A outer s H vs Q E hr h => ?_)
  · obtain ⟨a, dx, ln, as, p, t, rfl, _⟩ := h
    rfl
  · obtain ⟨a, dx, ln, as, p, t, rfl, hp, hlen, k⟩ := h
    refine ⟨_, (pss_cons (ps_setLc (i := 2) rfl sc_Player_may_move.nd rfl rfl rfl (pi_lst (pe_fld (pv 0) rfl)) (blkOk_by (own := [("note", 3)]) (by with_unfolding_all rfl)) (fun _ _ _ _ _ => pg_name (i := 3) sc_Player_may_move.nd rfl (Or.inl rfl)) (fun _ _ _ _ _ => pts_nil) (fun _ _ _ _ _ => (pe_fldB (pv 3) rfl)))
      (pss_one (ps_ret (pe_or (pe_cmpR op_eq (pe_callB call_len_l (by rfl) T.b_len PySem.boot_len (pa_cons (pv 2) pa_nil)) pe_int (nomark _)) (pe_one (pe_and (pe_mt M_Player_may_sound T.c_Player (hr.mono (by decide)) (pv 0) (pa_cons (pe_op op_add (pe_callB (cr_min rfl) (by rfl) T.b_min PyProof.Rows.boot_min (pa_cons (pv 2) pa_nil)) (pv 1)) pa_nil)) (pe_one (pe_mt M_Player_may_sound T.c_Player (hr.mono (by decide)) (pv 0) (pa_cons (pe_op op_add (pe_callB (cr_max rfl) (by rfl) T.b_max PyProof.Rows.boot_max (pa_cons (pv 2) pa_nil)) (pv 1)) pa_nil))))))))), ?_⟩
    simp_arith only [hp.obj, hp.lst, T.c_Player, T.a_Player_notes, l_Player_notes]
    intro D hD
    have hl := Paired.length hp.nts
    refine lc_list (xs := as.map V.ref) (fun i H' => H' = upd H D (.lst (intsV ((p.notes.take i).map Kct9.Note.high)))) rfl (fun i H' _ e => ?_) ?_ ?_
    · subst e
      exact SqL.of (by rw [upd_ne (ne_of_none hp.lst hD)]; exact hp.lst)
    · rintro i x H' hi rfl
      obtain ⟨b, hb, rfl⟩ := map_get hi
      obtain ⟨n, hn, dn, hnote⟩ := paired_get hp.nts hb
      have hnote' : ∀ u, upd H D u b = some (HO.ins c.Note dn (fs_Note (V.int n.start) (V.int (Kct9.ends n)) (V.int n.high))) := fun u => by rw [upd_ne (ne_of_none hnote hD)]; exact hnote
      simp_arith only [wipe, hnote', T.c_Note, T.a_Note_high, l_Note_high]
      refine ⟨by simp [intsV, sizeLine_eq]; omega, ?_⟩
      rw [take_snoc hn]
      simp [intsV]
    · rintro H' rfl
      have sm : Same H (upd H D (.lst (intsV ((p.notes.take (as.map V.ref).length).map Kct9.Note.high)))) := Same.new hD
      have k' := k _ sm
      rw [List.length_map, hl, List.take_length] at k' sm ⊢
      have ho : ∀ u, upd H D u a = some (.ins c.Player dx (fs_Player (.int p.shift) (.int p.low) (.int p.top) (.ref ln))) := fun u => by rw [upd_ne (ne_of_none hp.obj hD)]; exact hp.obj
      simp_arith only [ho, l_Player_may_sound]
      have e0 : (intsV (p.notes.map Kct9.Note.high)).length = p.notes.length := by simp [intsV]
      rw [e0]
      split
      · rename_i h0
        have : p.notes = [] := List.eq_nil_of_length_eq_zero (by omega)
        rw [this] at k' ⊢
        exact k'
      · rename_i h0
        have hs : SqL K (upd H D (.lst (intsV (p.notes.map Kct9.Note.high)))) D ((p.notes.map Kct9.Note.high).map V.int) := SqL.of upd_same
        refine ⟨_, hs, by simp; omega, fun m hm hmin => ⟨a, dx, p.shift, p.low, p.top, .ref ln, m + t, rfl, ho _, ?_⟩⟩
        refine ⟨_, rfl, ?_⟩
        split
        · rename_i h1
          simp_arith only [ho, l_Player_may_sound]
          refine ⟨_, hs, by simp; omega, fun m2 hm2 hmax => ⟨a, dx, p.shift, p.low, p.top, .ref ln, m2 + t, rfl, ho _, ?_⟩⟩
          have e : (p.notes.all fun n => Kct9.inRange p (n.high + t)) = (decide (p.low ≤ m2 + t) && decide (m2 + t ≤ p.top)) := by
            rw [Bool.eq_iff_iff, List.all_eq_true]
            simp only [Kct9.inRange, Bool.and_eq_true, decide_eq_true_eq] at h1 ⊢
            constructor
            · intro hall
              obtain ⟨n, hn, rfl⟩ := List.mem_map.mp hm2
              exact hall n hn
            · intro h2 n hn
              have q1 := hmin n.high (List.mem_map_of_mem hn)
              have q2 := hmax n.high (List.mem_map_of_mem hn)
              omega
          rw [e] at k'
          exact k'
        · rename_i h1
          have e : (p.notes.all fun n => Kct9.inRange p (n.high + t)) = false := by
            rw [List.all_eq_false]
            obtain ⟨n, hn, rfl⟩ := List.mem_map.mp hm
            refine ⟨n, hn, ?_⟩
            simpa [Kct9.inRange] using h1
          rw [e] at k'
          exact k'
theorem ok_Player_move_notes {f : Addr} {fd : FuncData} (F : Fun K "move_notes" "Player.move_notes" s_Player_move_notes f fd) (T : Txt K mg c)  : FnOk P w K mg base CX0 1 f fd ["self", "k"] (sp_Player_move_notes K c) := by
  refine F.ok sc_Player_move_notes (fun vs H Q E h => ?_) (fun cdv A outer s H vs Q E hr h => ?_)
  · obtain ⟨a, dx, ln, as, p, t, rfl, _⟩ := h
    rfl
  · obtain ⟨a, dx, ln, as, p, t, rfl, hp, hnd, k⟩ := h
    refine ⟨_, (pss_one (ps_for PassesOwn.never rfl (pi_lst (pe_fld (pv 0) rfl)) (pg_name (i := 2) sc_Player_move_notes.nd rfl (by first | exact Or.inl rfl | exact Or.inr rfl)) (pss_one (ps_fldaug (pv 2) (pv 1) in_add)))), ?_⟩
    simp_arith only [hp.obj, hp.lst, T.c_Player, T.a_Player_notes, l_Player_notes]
    have hl := Paired.length hp.nts
    refine for_list (xs := as.map V.ref) (fun i σ H' => ∃ v, σ = [some (.ref a), some (.int t), v] ∧ (∀ b o, H b = some o → b ∉ as.take i → H' b = some o) ∧ (∀ j b n, as[j]? = some b → p.notes[j]? = some n → j < i → NoteAt c H' b { n with high := n.high + t })) ⟨none, rfl, fun _ _ e _ => e, fun j b n _ _ h => absurd h (Nat.not_lt_zero _)⟩ (fun i σ H' _ ⟨v, _, e, _⟩ => ?_) ?_ ?_
    · refine SqL.of (e _ _ hp.lst fun hm => ?_)
      obtain ⟨j, hj⟩ := List.getElem?_of_mem (List.mem_of_mem_take hm)
      obtain ⟨n, _, dn, hn⟩ := paired_get hp.nts hj
      exact absurd rfl (ne_of hn hp.lst (by intro z; cases z))
    · rintro i x σ H' hi ⟨v, rfl, hk, hdone⟩
      obtain ⟨b, hb, rfl⟩ := map_get hi
      obtain ⟨n, hn, dn, hnote⟩ := paired_get hp.nts hb
      have nb : ∀ j b', as[j]? = some b' → j ≠ i → b' ≠ b := fun j b' hj hne z => by
        subst z
        exact hne (nd_ix hnd hj hb)
      have hnote' : H' b = some (HO.ins c.Note dn (fs_Note (V.int n.start) (V.int (Kct9.ends n)) (V.int n.high))) := hk _ _ hnote fun hm => by
        obtain ⟨j, hj⟩ := List.getElem?_of_mem hm
        have hj2 : j < i := by
          have := (List.getElem?_eq_some_iff.mp hj).1
          rw [List.length_take] at this
          omega
        rw [List.getElem?_take_of_lt hj2] at hj
        exact absurd rfl (nb j b hj (by omega))
      simp_arith only [hnote', T.c_Note, T.a_Note_high, l_Note_high, n_Note, p_Note_high]
      refine ⟨by decide, fun b' o e hm => ?_, fun j b' m hj hm hlt => ?_⟩
      · rw [take_snoc hb] at hm
        have h1 : b' ∉ as.take i := fun z => hm (List.mem_append_left _ z)
        have h2 : b' ≠ b := fun z => hm (by rw [z]; simp)
        rw [upd_ne h2]
        exact hk b' o e h1
      · by_cases hji : j = i
        · subst hji
          rw [hb] at hj
          rw [hn] at hm
          cases hj
          cases hm
          exact ⟨dn, upd_same⟩
        · obtain ⟨d2, e2⟩ := hdone j b' m hj hm (by omega)
          exact ⟨d2, by rw [upd_ne (nb j b' hj hji)]; exact e2⟩
    · rintro σ H' ⟨v, rfl, hk, hdone⟩
      rw [List.length_map, List.take_length] at hk
      rw [List.length_map] at hdone
      have nas : ∀ b o, H b = some o → (∀ dx fs, o ≠ .ins c.Note dx fs) → b ∉ as := fun b o e d hm => by
        obtain ⟨j, hj⟩ := List.getElem?_of_mem hm
        obtain ⟨n, _, dn, hn⟩ := paired_get hp.nts hj
        rw [e] at hn
        exact d _ _ (Option.some.inj hn)
      refine k H' ⟨?_, ?_, ?_⟩ hk
      · refine hk _ _ hp.obj fun hm => ?_
        obtain ⟨j, hj⟩ := List.getElem?_of_mem hm
        obtain ⟨n, _, dn, hn⟩ := paired_get hp.nts hj
        exact absurd rfl (note_ne hn hp.obj)
      · exact hk _ _ hp.lst (nas _ _ hp.lst (fun _ _ z => by cases z))
      · refine Mm.paired_of (by simp [Kct9.moved, hl]) fun j b m hj hm => ?_
        have : (p.notes.map fun n => { n with high := n.high + t })[j]? = some m := hm
        rw [List.getElem?_map] at this
        cases e : p.notes[j]? with
        | none =>
          rw [e] at this
          cases this
        | some n =>
          rw [e] at this
          cases this
          exact hdone j b n hj e (List.getElem?_eq_some_iff.mp hj).1
theorem ok_Player_take {f : Addr} {fd : FuncData} (F : Fun K "take" "Player.take" s_Player_take f fd) (T : Txt K mg c) (hcode : fd.code = .ref 166) (hC : PySem.W.CodeHd base 166 162) (hBM : BMain mg base) : FnOk P w K mg base CX0 1 f fd ["self", "added"] (sp_Player_take K c) := by
  refine F.okc sc_Player_take (fun vs H Q E h => ?_) (fun A outer s H vs Q E hr h => ?_)
  · obtain ⟨a, dx, ln, b, as, p, n, rfl, _⟩ := h
    rfl
  · obtain ⟨a, dx, ln, b, as, p, n, rfl, hp, hb, ht, hlen, hch, hne, hpos, k⟩ := h
    refine ⟨_, (pss_one (ps_fld (pv 0) (pe_sortKey (q := lq) hr rfl hcode hC hBM T.b_sorted (pa_cons (pe_op op_cat (pe_fld (pv 0) rfl) (pe_lst (pa_cons (pv 1) pa_nil))) pa_nil)) rfl)), ?_⟩
    obtain ⟨db, hb⟩ := hb
    simp_arith only [hp.obj, hp.lst, T.c_Player, T.a_Player_notes, l_Player_notes]
    have hl := Paired.length hp.nts
    have ne162 : ∀ {x : Addr} {o : HO}, H x = some o → (∀ ps, o ≠ .tbl ps) → x ≠ 162 := fun {x o} e d z => by
      subst z
      rcases ht with t | ⟨c', t, _⟩ <;> rw [e] at t <;> cases t <;> exact d _ rfl
    refine ⟨by decide, fun q hq => ?_⟩
    refine ⟨as.map V.ref, by rw [upd_ne (ne_of_none hp.lst hq)]; exact hp.lst, by rw [List.length_map, sizeLine_eq]; omega, fun r hr' => ?_⟩
    have s2 : Same H (upd (upd H q (.lst [.ref b])) r (.lst (as.map V.ref ++ [.ref b]))) := Same.upd' (Same.new hq) hr'.2
    refine ⟨as ++ [b], by simp, Tab.same ht s2, (p.notes ++ [n]).map fun m => (m.start : Int), ?_, fun H2 D ps mk hD pp pw => ?_⟩
    · refine Mm.paired_map (Paired.snoc (Paired.imp' (fun a' m ⟨dm, hm⟩ => ?_) hp.nts) ?_)
      · exact ⟨c.Note, db, _, s2 _ _ hb, T.c_Note, T.a_Note_start, l_Note_start⟩
      · exact ⟨c.Note, dm, _, s2 _ _ hm, T.c_Note, T.a_Note_start, l_Note_start⟩
    · have fr : ∀ x o, H x = some o → x ≠ 162 → H2 x = some o := fun x o e hx => mk.keep x o (s2 x o e) hx
      have ho := fr _ _ hp.obj (ne162 hp.obj (fun _ z => by cases z))
      have hDa : a ≠ D := ne_of_none ho hD
      have hDH : H D = none := free_of s2 (mk.free D hD)
      have ho' : ∀ u, upd H2 D u a = some (.ins c.Player dx (fs_Player (.int p.shift) (.int p.low) (.int p.top) (.ref ln))) := fun u => by rw [upd_ne hDa]; exact ho
      simp_arith only [ho', T.c_Player, T.a_Player_notes, n_Player, p_Player_notes]
      have nt : ∀ x m, NoteAt c H x m → NoteAt c (upd (upd H2 D (.lst (ps.map fun p => V.ref p.2))) a (.ins c.Player dx (fs_Player (.int p.shift) (.int p.low) (.int p.top) (.ref D)))) x m := fun x m ⟨dm, hm⟩ => ⟨dm, by
        rw [upd_ne (note_ne hm hp.obj), upd_ne (ne_of_none (fr _ _ hm (ne162 hm (fun _ z => by cases z))) hD)]
        exact fr _ _ hm (ne162 hm (fun _ z => by cases z))⟩
      have hP : Paired (NoteAt c H) (as ++ [b]) (p.notes ++ [n]) := Paired.snoc hp.nts ⟨db, hb⟩
      obtain ⟨e1, e2⟩ := Mm.sorted_insert hP hch hpos hne pp pw
      refine ⟨by decide, k _ D (ps.map (·.2)) ⟨upd_same, ?_, Paired.imp' (fun x m z => nt x m z) e1⟩ e2 ?_ (fun x o e h1 h2 => ?_) hDH⟩
      · rw [upd_ne (Ne.symm hDa), upd_same, List.map_map]
        rfl
      · have t2 := mk.tab
        have kt : ∀ x o, H2 x = some o → x ≠ a → upd (upd H2 D (.lst (ps.map fun p => V.ref p.2))) a (.ins c.Player dx (fs_Player (.int p.shift) (.int p.low) (.int p.top) (.ref D))) x = some o := fun x o e hx => by
          rw [upd_ne hx, upd_ne (ne_of_none e hD)]
          exact e
        rcases t2 with t2 | ⟨c', t2, t3⟩
        · exact .inl (kt _ _ t2 (ne_of t2 ho (by intro z; cases z)))
        · exact .inr ⟨c', kt _ _ t2 (ne_of t2 ho (by intro z; cases z)), kt _ _ t3 (ne_of t3 ho (by intro z; cases z))⟩
      · rw [upd_ne h1, upd_ne (ne_of_none (fr x o e h2) hD)]
        exact fr x o e h2
theorem ok_Score_begin {f : Addr} {fd : FuncData} (F : Fun K "begin" "Score.begin" s_Score_begin f fd) (T : Txt K mg c)  : FnOk P w K mg base CX0 1 f fd ["self"] (sp_Score_begin K c) := by
  refine F.ok sc_Score_begin (fun vs H Q E h => ?_) (fun cdv A outer s H vs Q E hr h => ?_)
  · obtain ⟨x, R, s, rfl, _⟩ := h
    rfl
  · obtain ⟨x, R, s, rfl, hs, k⟩ := h
    refine ⟨_, (pss_cons (ps_fld (pv 0) (pe_lst pa_nil) rfl)
      (pss_cons (ps_fld (pv 0) (pe_lst pa_nil) rfl)
      (pss_one (ps_ret pe_int)))), ?_⟩
    simp_arith only [hs.obj, T.c_Score, T.a_Score_bars, T.a_Score_players]
    refine ⟨by decide, fun p hp => ?_⟩
    have nxp : x ≠ p := ne_of_none hs.obj hp
    have e : ∀ u, upd H p u x = some (.ins c.Score R.dx (fs_Score (.ref R.lb) (.ref R.lp))) := fun u => by rw [upd_ne nxp]; exact hs.obj
    simp_arith only [e, T.c_Score, T.a_Score_bars, T.a_Score_players, n_Score, p_Score_bars, p_Score_players]
    refine ⟨by decide, by decide, fun q hq => ?_⟩
    have e2 : ∀ u o, upd (upd (upd H p u) x o) q (.lst []) x = some o := fun u o => by rw [upd_ne (Ne.symm hq.1), upd_same]
    simp_arith only [e2, T.c_Score, T.a_Score_bars, T.a_Score_players, n_Score, p_Score_bars, p_Score_players]
    have kp : ∀ b o, H b = some o → b ≠ x → upd (upd (upd (upd H p (.lst [])) x (.ins c.Score R.dx (fs_Score (.ref p) (.ref R.lp)))) q (.lst [])) x (.ins c.Score R.dx (fs_Score (.ref p) (.ref q))) b = some o := fun b o hb h1 => by
      rw [upd_ne h1, upd_ne (ne_of_none hb hq.2.2), upd_ne h1, upd_ne (ne_of_none hb hp)]
      exact hb
    refine ⟨by decide, k _ ⟨R.dx, p, q, []⟩ ⟨upd_same, ?_, ?_, fun z => hq.2.1 z.symm, List.nodup_nil, by simp, by simp, .nil, ?_⟩ ⟨fun b xs hb _ _ => kp b _ hb (ne_of hb hs.obj (by intro z; cases z)), fun b o u hb => kp b _ hb (ne_of hb hs.obj (by intro z; cases z)), .inr hp, .inr hq.2.2, (fun r hr => nomatch hr), fun b e => upd_free (upd_free (upd_free (upd_free e)))⟩⟩
    · rw [upd_ne (Ne.symm nxp), upd_ne (fun z => hq.2.1 z.symm), upd_ne (Ne.symm nxp), upd_same]
      rfl
    · rw [upd_ne hq.1, upd_same]
      rfl
    · rcases hs.tab with t | ⟨c', t, u⟩
      · exact .inl (kp _ _ t (ne_of t hs.obj (by intro z; cases z)))
      · exact .inr ⟨c', kp _ _ t (ne_of t hs.obj (by intro z; cases z)), kp _ _ u (ne_of u hs.obj (by intro z; cases z))⟩
theorem sum_nat : ∀ l : List Nat, (l.map fun n : Nat => (n : Int)).sum = (Kct9.sumOf l : Int)
  | [] => rfl
  | a :: l => by
    rw [List.map_cons, List.sum_cons, sum_nat l, Kct9.sumOf]
    omega
theorem map_int (l : List Nat) : (l.map fun n : Nat => V.int n) = (l.map fun n : Nat => (n : Int)).map V.int := by
  rw [List.map_map]
  rfl
theorem ok_Score_last_end {f : Addr} {fd : FuncData} (F : Fun K "last_end" "Score.last_end" s_Score_last_end f fd) (T : Txt K mg c)  : FnOk P w K mg base CX0 1 f fd ["self"] (sp_Score_last_end K c) := by
  refine F.ok sc_Score_last_end (fun vs H Q E h => ?_) (fun cdv A outer s H vs Q E hr h => ?_)
  · obtain ⟨x, R, s, rfl, _⟩ := h
    rfl
  · obtain ⟨x, R, s, rfl, hs, k⟩ := h
    refine ⟨_, (pss_one (ps_ret (pe_callB (call_sum_l rfl) (by rfl) T.b_sum PyProof.Rows.boot_sum (pa_cons (pe_fld (pv 0) rfl) pa_nil)))), ?_⟩
    simp_arith only [hs.obj, hs.lb, T.c_Score, T.a_Score_bars, l_Score_bars]
    refine ⟨_, map_int _, ?_⟩
    rw [sum_nat]
    exact k
theorem ok_Score_has_player {f : Addr} {fd : FuncData} (F : Fun K "has_player" "Score.has_player" s_Score_has_player f fd) (T : Txt K mg c)  : FnOk P w K mg base CX0 1 f fd ["self", "i"] (sp_Score_has_player K c) := by
  refine F.ok sc_Score_has_player (fun vs H Q E h => ?_) (fun cdv A outer s H vs Q E hr h => ?_)
  · obtain ⟨x, R, s, i, rfl, _⟩ := h
    rfl
  · obtain ⟨x, R, s, i, rfl, hs, k⟩ := h
    refine ⟨_, (pss_one (ps_ret (pe_cmpR op_lt (pv 1) (pe_callB call_len_l (by rfl) T.b_len PySem.boot_len (pa_cons (pe_fld (pv 0) rfl) pa_nil)) (nomark _)))), ?_⟩
    simp_arith only [hs.obj, hs.lp, T.c_Score, T.a_Score_players, l_Score_players]
    rw [List.length_map, Paired.length hs.pl]
    simpa using k
theorem ok_Score_new_bar {f : Addr} {fd : FuncData} (F : Fun K "new_bar" "Score.new_bar" s_Score_new_bar f fd) (T : Txt K mg c)  : FnOk P w K mg base CX0 1 f fd ["self", "length"] (sp_Score_new_bar K c) := by
  refine F.ok sc_Score_new_bar (fun vs H Q E h => ?_) (fun cdv A outer s H vs Q E hr h => ?_)
  · obtain ⟨x, R, s, r, cl, rfl, ⟨n, rfl, _⟩, _⟩ := h
    rfl
  · obtain ⟨x, R, s, r, cl, rfl, ⟨n, rfl, rfl⟩, hs, wf, k⟩ := h
    refine ⟨_, (pss_cons (ps_if (pw_or (pt_cmpR op_eq (pv 1) pe_int (nomark _)) (pw_or1 (pt_cmpR op_gt (pv 1) (pe_num T.n_LONGEST_BAR) (nomark _)))).pt (pss_one (ps_ret (pe_num T.n_NOT_ALLOWED))) pss_nil)
      (pss_cons (ps_if (pt_cmpR op_eq (pe_callB call_len_l (by rfl) T.b_len PySem.boot_len (pa_cons (pe_fld (pv 0) rfl) pa_nil)) (pe_num T.n_MOST_BARS) (nomark _)) (pss_one (ps_ret (pe_num T.n_NO_ROOM))) pss_nil)
      (pss_cons (ps_expr (pe_lm PySem.F.slot_list_append PySem.F.type_list_append mt_append (pe_fld (pv 0) rfl) (pa_cons (pv 1) pa_nil)))
      (pss_one (ps_ret (pe_op op_sub (pe_callB call_len_l (by rfl) T.b_len PySem.boot_len (pa_cons (pe_fld (pv 0) rfl) pa_nil)) pe_int)))))), ?_⟩
    simp_arith only [hs.obj, hs.lb, T.c_Score, T.a_Score_bars, l_Score_bars]
    have same := Chg.of_same (R := R) (Same.refl' H)
    have hb := wf.blen
    split
    · rename_i h0
      exact k H R s (-22) (by rw [Mm.step_bar, if_pos (by omega)]) hs same
    · split
      · rename_i h0 h1
        exact k H R s (-22) (by rw [Mm.step_bar, if_pos (by omega)]) hs same
      · split
        · rename_i h0 h1 h2
          rw [List.length_map] at h2
          exact k H R s (-28) (by rw [Mm.step_bar, if_neg (by omega), if_pos (by omega)]) hs same
        · rename_i h0 h1 h2
          rw [List.length_map] at h2
          have nx : x ≠ R.lb := ne_of hs.obj hs.lb (by intro z; cases z)
          have kp : ∀ u b o, H b = some o → b ≠ R.lb → upd H R.lb u b = some o := fun u b o e hb => by
            rw [upd_ne hb]
            exact e
          refine ⟨by rw [List.length_map, sizeLine_eq]; omega, ?_⟩
          have e : ∀ u, upd H R.lb u x = some (.ins c.Score R.dx (fs_Score (.ref R.lb) (.ref R.lp))) := fun u => kp u _ _ hs.obj nx
          simp_arith only [e, T.c_Score, T.a_Score_bars, l_Score_bars]
          have hn : ((s.bars.map (fun n : Nat => V.int n) ++ [V.int (n : Int)]).length : Int) - 1 = (s.bars.length : Int) := by simp
          rw [hn]
          refine k _ R { s with bars := s.bars ++ [n] } s.bars.length (by rw [Mm.step_bar, if_neg (by omega), if_neg (by omega)]) ⟨e _, ?_, kp _ _ _ hs.lp (Ne.symm hs.ne), hs.ne, hs.nd, hs.nl, hs.nn, ?_, ?_⟩ ⟨fun b xs e2 h1 _ => kp _ _ _ e2 h1, fun b o u e2 => kp _ _ _ e2 (ne_of e2 hs.lb (by intro z; cases z)), .inl rfl, .inl rfl, (fun r hr => .inl ⟨r, hr, rfl⟩), fun b e => upd_free e⟩
          · rw [upd_same]
            simp
          · refine Mm.paired_mem (fun r hr p _ hpl => ?_) hs.pl
            refine ⟨kp _ _ _ hpl.obj (ne_of hpl.obj hs.lb (by intro z; cases z)), kp _ _ _ hpl.lst (hs.nl r hr).1, Paired.imp' (fun a n ⟨dn, hn⟩ => ⟨dn, kp _ _ _ hn (ne_of hn hs.lb (by intro z; cases z))⟩) hpl.nts⟩
          · rcases hs.tab with t | ⟨c', t, u⟩
            · exact .inl (kp _ _ _ t (ne_of t hs.lb (by intro z; cases z)))
            · exact .inr ⟨c', kp _ _ _ t (ne_of t hs.lb (by intro z; cases z)), kp _ _ _ u (ne_of u hs.lb (by intro z; cases z))⟩
theorem ok_Score_new_player {f : Addr} {fd : FuncData} (F : Fun K "new_player" "Score.new_player" s_Score_new_player f fd) (T : Txt K mg c) {f_Player_init : Addr} {fd_Player_init : FuncData} (N_Player : Nw P w K mg base "Player" c.Player 1 ["self", "shift", "low", "top"] (sp_Player_init K c) f_Player_init fd_Player_init) : FnOk P w K mg base CX0 3 f fd ["self", "shift", "low", "top"] (sp_Score_new_player K c) := by
  refine F.ok sc_Score_new_player (fun vs H Q E h => ?_) (fun cdv A outer s H vs Q E hr h => ?_)
  · obtain ⟨x, R, s, r, cl, rfl, ⟨h, a, z, rfl, _⟩, _⟩ := h
    rfl
  · obtain ⟨x, R, s, r, cl, rfl, ⟨h, a, z, rfl, rfl⟩, hs, wf, k⟩ := h
    refine ⟨_, (pss_cons (ps_if (pw_or (pt_cmpR op_gt (pe_callB call_abs_l (by rfl) T.b_abs PyProof.Rows.boot_abs (pa_cons (pv 1) pa_nil)) (pe_num T.n_WIDEST_SHIFT) (nomark _)) (pw_or (pt_cmpR op_gt (pv 2) (pv 3) (nomark _)) (pw_or1 (pt_cmpR op_gt (pv 3) (pe_num T.n_HIGHEST) (nomark _))))).pt (pss_one (ps_ret (pe_num T.n_NOT_ALLOWED))) pss_nil)
      (pss_cons (ps_if (pt_cmpR op_eq (pe_callB call_len_l (by rfl) T.b_len PySem.boot_len (pa_cons (pe_fld (pv 0) rfl) pa_nil)) (pe_num T.n_MOST_PLAYERS) (nomark _)) (pss_one (ps_ret (pe_num T.n_NO_ROOM))) pss_nil)
      (pss_cons (ps_expr (pe_lm PySem.F.slot_list_append PySem.F.type_list_append mt_append (pe_fld (pv 0) rfl) (pa_cons (pe_new N_Player (hr.mono (by decide)) (pa_cons (pv 1) (pa_cons (pv 2) (pa_cons (pv 3) pa_nil)))) pa_nil)))
      (pss_one (ps_ret (pe_op op_sub (pe_callB call_len_l (by rfl) T.b_len PySem.boot_len (pa_cons (pe_fld (pv 0) rfl) pa_nil)) pe_int)))))), ?_⟩
    simp_arith only [hs.obj, hs.lp, T.c_Score, T.a_Score_players, l_Score_players]
    have same := Chg.of_same (R := R) (Same.refl' H)
    have hb := wf.plen
    have hl := Paired.length hs.pl
    by_cases h0 : 24 < (if h < 0 then -h else h)
    · rw [if_pos h0]
      have h0' : h < -24 ∨ 24 < h := by split at h0 <;> omega
      exact k H R s (-22) (by rw [Mm.step_player, if_pos (by omega)]) hs same
    · rw [if_neg h0]
      have h0' : -24 ≤ h ∧ h ≤ 24 := by split at h0 <;> omega
      clear h0
      split
      · rename_i h1
        exact k H R s (-22) (by rw [Mm.step_player, if_pos (by omega)]) hs same
      · split
        · rename_i h1 h2
          exact k H R s (-22) (by rw [Mm.step_player, if_pos (by omega)]) hs same
        · rename_i h1 h2
          split
          · rename_i h3
            rw [List.length_map] at h3
            exact k H R s (-28) (by rw [Mm.step_player, if_neg (by omega), if_pos (by omega)]) hs same
          · rename_i h3
            rw [List.length_map] at h3
            intro y dy hy hdy nxy
            refine ⟨y, dy, _, _, _, rfl, upd_same, fun ln hln => ⟨rfl, ?_⟩⟩
            have ny : ln ≠ y := fun e => by
              rw [e, upd_same] at hln
              cases hln
            have hln0 : H ln = none := by
              rw [upd_ne ny] at hln
              by_cases h : ln = dy
              · subst h
                rw [upd_same] at hln
                cases hln
              · rw [upd_ne h] at hln
                exact hln
            have kp : ∀ b o u1 u2 u3 u4, H b = some o → upd (upd (upd (upd H dy u1) y u2) ln u3) y u4 b = some o := fun b o u1 u2 u3 u4 e => by
              rw [upd_ne (ne_of_none e hy), upd_ne (ne_of_none e hln0), upd_ne (ne_of_none e hy), upd_ne (ne_of_none e hdy)]
              exact e
            refine ⟨_, kp _ _ _ _ _ _ hs.lp, by rw [List.length_map, sizeLine_eq]; omega, ?_⟩
            have nx : x ≠ R.lp := ne_of hs.obj hs.lp (by intro z; cases z)
            have kp2 : ∀ b o u1 u2 u3 u4 u5, H b = some o → b ≠ R.lp → upd (upd (upd (upd (upd H dy u1) y u2) ln u3) y u4) R.lp u5 b = some o := fun b o u1 u2 u3 u4 u5 e hb => by
              rw [upd_ne hb]
              exact kp _ _ _ _ _ _ e
            have e : ∀ u1 u2 u3 u4 u5, upd (upd (upd (upd (upd H dy u1) y u2) ln u3) y u4) R.lp u5 x = some (.ins c.Score R.dx (fs_Score (.ref R.lb) (.ref R.lp))) := fun u1 u2 u3 u4 u5 => kp2 _ _ _ _ _ _ _ hs.obj nx
            simp_arith only [e, T.c_Score, T.a_Score_players, l_Score_players]
            have hn : ((R.ps.map (fun r => V.ref r.a) ++ [V.ref y]).length : Int) - 1 = (s.players.length : Int) := by simp [hl]
            rw [hn]
            have yp : y ≠ R.lp := Ne.symm (ne_of_none hs.lp hy)
            have lnp : ln ≠ R.lp := Ne.symm (ne_of_none hs.lp hln0)
            refine k _ { R with ps := R.ps ++ [⟨y, dy, ln, []⟩] } { s with players := s.players ++ [⟨h, a, z, []⟩] } s.players.length (by rw [Mm.step_player, if_neg (by omega), if_neg (by omega)]) ⟨e _ _ _ _ _, kp2 _ _ _ _ _ _ _ hs.lb hs.ne, ?_, hs.ne, ?_, ?_, ?_, ?_, ?_⟩ ⟨fun b xs e2 _ h2 => kp2 _ _ _ _ _ _ _ e2 h2, fun b o u e2 => kp2 _ _ _ _ _ _ _ e2 (ne_of e2 hs.lp (by intro z; cases z)), .inl rfl, .inl rfl, fun r' hr'' => by
              rcases List.mem_append.mp hr'' with hr'' | hr''
              · exact .inl ⟨r', hr'', rfl⟩
              · simp at hr''
                subst hr''
                exact .inr hln0, fun b e => upd_free (upd_free (upd_free (upd_free (upd_free e))))⟩
            · rw [upd_same]
              simp
            · simp only [List.map_append, List.map_cons, List.map_nil]
              refine List.nodup_append.mpr ⟨hs.nd, by simp, fun b hb d hd e2 => ?_⟩
              simp at hd
              subst e2 hd
              obtain ⟨r, hr, rfl⟩ := List.mem_map.mp hb
              obtain ⟨j, hj⟩ := List.getElem?_of_mem hr
              obtain ⟨p, _, hpl⟩ := paired_get hs.pl hj
              rw [hpl.obj] at hy
              cases hy
            · intro r hr
              rcases List.mem_append.mp hr with hr | hr
              · exact hs.nl r hr
              · simp at hr
                subst hr
                exact ⟨Ne.symm (ne_of_none hs.lb hln0), lnp⟩
            · simp only [List.flatMap_append, List.flatMap_cons, List.flatMap_nil, List.append_nil]
              exact hs.nn
            · refine Paired.snoc (Mm.paired_mem (fun r hr p _ hpl => ?_) hs.pl) ⟨?_, ?_, .nil⟩
              · refine ⟨kp2 _ _ _ _ _ _ _ hpl.obj (ne_of hpl.obj hs.lp (by intro z; cases z)), kp2 _ _ _ _ _ _ _ hpl.lst (hs.nl r hr).2, Paired.imp' (fun a n ⟨dn, hn⟩ => ⟨dn, kp2 _ _ _ _ _ _ _ hn (ne_of hn hs.lp (by intro z; cases z))⟩) hpl.nts⟩
              · rw [upd_ne yp, upd_same]
              · rw [upd_ne lnp, upd_ne ny, upd_same]
                rfl
            · rcases hs.tab with t | ⟨c', t, u⟩
              · exact .inl (kp2 _ _ _ _ _ _ _ t (ne_of t hs.lp (by intro z; cases z)))
              · exact .inr ⟨c', kp2 _ _ _ _ _ _ _ t (ne_of t hs.lp (by intro z; cases z)), kp2 _ _ _ _ _ _ _ u (ne_of u hs.lp (by intro z; cases z))⟩
theorem ok_Score_new_note {f : Addr} {fd : FuncData} (F : Fun K "new_note" "Score.new_note" s_Score_new_note f fd) (T : Txt K mg c) {f_Note_init : Addr} {fd_Note_init : FuncData} (N_Note : Nw P w K mg base "Note" c.Note 1 ["self", "start", "end", "high"] (sp_Note_init K c) f_Note_init fd_Note_init) {f_Player_is_silent : Addr} {fd_Player_is_silent : FuncData} (M_Player_is_silent : Mt P w K mg base c.Player "is_silent" 1 ["self", "start", "end"] (sp_Player_is_silent K c) f_Player_is_silent fd_Player_is_silent) {f_Player_may_sound : Addr} {fd_Player_may_sound : FuncData} (M_Player_may_sound : Mt P w K mg base c.Player "may_sound" 1 ["self", "high"] (sp_Player_may_sound K c) f_Player_may_sound fd_Player_may_sound) {f_Player_take : Addr} {fd_Player_take : FuncData} (M_Player_take : Mt P w K mg base c.Player "take" 1 ["self", "added"] (sp_Player_take K c) f_Player_take fd_Player_take) {f_Score_has_player : Addr} {fd_Score_has_player : FuncData} (M_Score_has_player : Mt P w K mg base c.Score "has_player" 1 ["self", "i"] (sp_Score_has_player K c) f_Score_has_player fd_Score_has_player) {f_Score_last_end : Addr} {fd_Score_last_end : FuncData} (M_Score_last_end : Mt P w K mg base c.Score "last_end" 1 ["self"] (sp_Score_last_end K c) f_Score_last_end fd_Score_last_end) : FnOk P w K mg base CX0 3 f fd ["self", "i", "start", "length", "high"] (sp_Score_new_note K c) := by
  refine F.ok sc_Score_new_note (fun vs H Q E h => ?_) (fun cdv A outer s H vs Q E hr h => ?_)
  · obtain ⟨x, R, s, r, cl, rfl, ⟨i, a, n, h, rfl, _⟩, _⟩ := h
    rfl
  · obtain ⟨x, R, s, r, cl, rfl, ⟨i, a, n, h, rfl, rfl⟩, hs, wf, k⟩ := h
    refine ⟨_, (pss_cons (ps_if (pt_not (pt_val (pe_mt M_Score_has_player T.c_Score (hr.mono (by decide)) (pv 0) (pa_cons (pv 1) pa_nil)))) (pss_one (ps_ret (pe_num T.n_NOT_THERE))) pss_nil)
      (pss_cons (ps_set (i := 5) sc_Score_new_note.nd rfl (by first | exact Or.inl rfl | exact Or.inr rfl) (pe_ix ix_lst (pe_fld (pv 0) rfl) (pv 1) (fun _ _ => rfl)))
      (pss_cons (ps_set (i := 6) sc_Score_new_note.nd rfl (by first | exact Or.inl rfl | exact Or.inr rfl) (pe_op op_add (pv 2) (pv 3)))
      (pss_cons (ps_if (pw_or (pt_cmpR op_eq (pv 3) pe_int (nomark _)) (pw_or1 (pt_cmpR op_gt (pv 6) (pe_mt0 M_Score_last_end T.c_Score (hr.mono (by decide)) (pv 0)) (nomark _)))).pt (pss_one (ps_ret (pe_num T.n_NOT_ALLOWED))) pss_nil)
      (pss_cons (ps_if (pt_not (pt_val (pe_mt M_Player_may_sound T.c_Player (hr.mono (by decide)) (pv 5) (pa_cons (pv 4) pa_nil)))) (pss_one (ps_ret (pe_num T.n_OUT_OF_RANGE))) pss_nil)
      (pss_cons (ps_if (pt_not (pt_val (pe_mt M_Player_is_silent T.c_Player (hr.mono (by decide)) (pv 5) (pa_cons (pv 2) (pa_cons (pv 6) pa_nil))))) (pss_one (ps_ret (pe_num T.n_AT_ONCE))) pss_nil)
      (pss_cons (ps_if (pt_cmpR op_eq (pe_callB call_len_l (by rfl) T.b_len PySem.boot_len (pa_cons (pe_fld (pv 5) rfl) pa_nil)) (pe_num T.n_MOST_NOTES) (nomark _)) (pss_one (ps_ret (pe_num T.n_NO_ROOM))) pss_nil)
      (pss_cons (ps_expr (pe_mt M_Player_take T.c_Player (hr.mono (by decide)) (pv 5) (pa_cons (pe_new N_Note (hr.mono (by decide)) (pa_cons (pv 2) (pa_cons (pv 6) (pa_cons (pv 4) pa_nil)))) pa_nil)))
      (pss_one (ps_ret (pe_callB call_len_l (by rfl) T.b_len PySem.boot_len (pa_cons (pe_fld (pv 5) rfl) pa_nil)))))))))))), ?_⟩
    simp_arith only [hs.obj, hs.lp, T.c_Score, T.a_Score_players, l_Score_players, l_Score_has_player]
    have same := Chg.of_same (R := R) (Same.refl' H)
    refine ⟨x, R, s, i, rfl, hs, _, rfl, ?_⟩
    split
    · rename_i h0
      have h0' : s.players[i]? = none := by
        simp at h0
        simp
        omega
      exact k H R s (-2) (by simp only [Kct9.step, h0']) hs same
    · rename_i h0
      obtain ⟨p, hp⟩ : ∃ p, s.players[i]? = some p := ⟨_, List.getElem?_eq_getElem (by simpa using h0)⟩
      obtain ⟨r, hr', hpl, hat⟩ := hs.get hp
      have wp := wf.pl p (List.mem_of_getElem? hp)
      simp_arith only [hs.obj, hs.lp, T.c_Score, T.a_Score_players, l_Score_players, l_Score_last_end, hat]
      split
      · rename_i h1
        exact k H R s (-22) (by rw [Mm.step_note _ _ _ hp, if_pos (by omega)]) hs same
      · rename_i h1
        refine ⟨x, R, s, rfl, hs, _, rfl, ?_⟩
        split
        · rename_i h2
          exact k H R s (-22) (by rw [Mm.step_note _ _ _ hp, if_pos (by omega)]) hs same
        · rename_i h2
          simp_arith only [hpl.obj, l_Player_may_sound]
          refine ⟨r.a, r.dx, _, _, _, _, _, rfl, hpl.obj, _, rfl, ?_⟩
          have er : Kct9.inRange p (h : Int) = (decide (p.low ≤ (h : Int)) && decide ((h : Int) ≤ p.top)) := rfl
          rw [← er]
          split
          · rename_i h3
            exact k H R s (-34) (by rw [Mm.step_note _ _ _ hp, if_neg (by omega), if_pos h3]) hs same
          · rename_i h3
            simp_arith only [hpl.obj, l_Player_is_silent]
            refine ⟨r.a, r.dx, r.ln, r.as, p, a, a + n, ?_, hpl, _, rfl, ?_⟩
            · simp
            have em : (p.notes.any fun b => decide (b.start < a + n) && decide (a < Kct9.ends b)) = p.notes.any (Kct9.meets ⟨a, n, h⟩) := by
              refine congrArg (p.notes.any ·) (funext fun b => ?_)
              simp only [Kct9.meets, Kct9.ends]
              exact Bool.and_comm _ _
            rw [em]
            split
            · rename_i h4
              have h4' : p.notes.any (Kct9.meets ⟨a, n, h⟩) = true := by simpa using h4
              exact k H R s (-17) (by rw [Mm.step_note _ _ _ hp, if_neg (by omega), if_neg h3, if_pos h4']) hs same
            · rename_i h4
              have h4' : p.notes.any (Kct9.meets ⟨a, n, h⟩) = false := by simpa using h4
              have hln := Paired.length hpl.nts
              simp_arith only [hpl.obj, hpl.lst, T.c_Player, T.a_Player_notes, l_Player_notes, l_Player_take]
              have hlen := wp.len
              split
              · rename_i h5
                rw [List.length_map, hln] at h5
                exact k H R s (-28) (by rw [Mm.step_note _ _ _ hp, if_neg (by omega), if_neg h3, if_neg (by rw [h4']; simp), if_pos (by omega)]) hs same
              · rename_i h5
                rw [List.length_map, hln] at h5
                intro y dy hy hdy nxy
                refine ⟨y, dy, _, _, _, rfl, upd_same, rfl, ?_⟩
                have sm : ∀ u1 u2, Same H (upd (upd H dy u1) y u2) := fun u1 u2 => Same.upd' (Same.new hdy) hy
                have hpl2 := hpl.same (sm (.own y) (.ins c.Note dy (fs_Note (.int a) (.int ((a : Int) + n)) (.int h))))
                have hs2 := hs.same (sm (.own y) (.ins c.Note dy (fs_Note (.int a) (.int ((a : Int) + n)) (.int h))))
                rw [upd_upd]
                have hms : ∀ m ∈ p.notes, ¬ (a < Kct9.ends m ∧ m.start < a + n) := fun m hm ⟨z1, z2⟩ => by
                  have := List.any_eq_false.mp h4' m hm
                  refine this ?_
                  simp only [Kct9.meets, Bool.and_eq_true, decide_eq_true_eq]
                  exact ⟨z1, z2⟩
                refine ⟨r.a, r.dx, r.ln, y, r.as, p, ⟨a, n, h⟩, rfl, hpl2, ⟨dy, by rw [upd_same]; rfl⟩, hs2.tab, hlen, wp.ch, fun m hm e => ?_, wp.pos, fun H' ln' as' pl' pm tb kp hl' => ?_⟩
                · have z1 := wp.pos m hm
                  have z2 := hms m hm
                  simp only [Kct9.ends] at z2 e
                  omega
                · simp_arith only [pl'.obj, pl'.lst, T.c_Player, T.a_Player_notes, l_Player_notes]
                  have yno : y ∉ r.as := fun z => by
                    obtain ⟨j, hj⟩ := List.getElem?_of_mem z
                    obtain ⟨m, _, dm, hm⟩ := paired_get hpl.nts hj
                    rw [hm] at hy
                    cases hy
                  have rnd : r.as.Nodup := by
                    have := hs.nn
                    rw [List.flatMap_def] at this
                    exact (List.pairwise_flatten.mp this).1 r.as (List.mem_map_of_mem (List.mem_of_getElem? hr'))
                  obtain ⟨q1, q2⟩ := hs.setPl hr' hp pl' (fun b o e h1 h2 => kp b o (sm _ _ b o e) h1 h2) tb (.inr (free_of (sm _ _) hl')) (pm.nodup_iff.mpr (List.nodup_append.mpr ⟨rnd, by simp, fun b hb d hd e => by
                    simp at hd
                    subst e hd
                    exact yno hb⟩)) (fun b hb => by
                    rcases List.mem_append.mp (pm.mem_iff.mp hb) with hb | hb
                    · exact .inl hb
                    · simp at hb
                      subst hb
                      exact .inr hy)
                  have hl3 : ((as'.map V.ref).length : Int) = (p.notes.length : Int) + 1 := by
                    rw [List.length_map, pm.length_eq]
                    simp [hln]
                  rw [hl3]
                  exact k H' _ _ _ (by rw [Mm.step_note _ _ _ hp, if_neg (by omega), if_neg h3, if_neg (by rw [h4']; simp), if_neg (by omega)]) q1 q2
theorem ok_Score_drop_note {f : Addr} {fd : FuncData} (F : Fun K "drop_note" "Score.drop_note" s_Score_drop_note f fd) (T : Txt K mg c) {f_Player_leave_out : Addr} {fd_Player_leave_out : FuncData} (M_Player_leave_out : Mt P w K mg base c.Player "leave_out" 1 ["self", "start"] (sp_Player_leave_out K c) f_Player_leave_out fd_Player_leave_out) {f_Score_has_player : Addr} {fd_Score_has_player : FuncData} (M_Score_has_player : Mt P w K mg base c.Score "has_player" 1 ["self", "i"] (sp_Score_has_player K c) f_Score_has_player fd_Score_has_player) : FnOk P w K mg base CX0 2 f fd ["self", "i", "start"] (sp_Score_drop_note K c) := by
  refine F.ok sc_Score_drop_note (fun vs H Q E h => ?_) (fun cdv A outer s H vs Q E hr h => ?_)
  · obtain ⟨x, R, s, r, cl, rfl, ⟨i, a, rfl, _⟩, _⟩ := h
    rfl
  · obtain ⟨x, R, s, r, cl, rfl, ⟨i, a, rfl, rfl⟩, hs, wf, k⟩ := h
    refine ⟨_, (pss_cons (ps_if (pt_not (pt_val (pe_mt M_Score_has_player T.c_Score (hr.mono (by decide)) (pv 0) (pa_cons (pv 1) pa_nil)))) (pss_one (ps_ret (pe_num T.n_NOT_THERE))) pss_nil)
      (pss_cons (ps_set (i := 3) sc_Score_drop_note.nd rfl (by first | exact Or.inl rfl | exact Or.inr rfl) (pe_ix ix_lst (pe_fld (pv 0) rfl) (pv 1) (fun _ _ => rfl)))
      (pss_cons (ps_set (i := 4) sc_Score_drop_note.nd rfl (by first | exact Or.inl rfl | exact Or.inr rfl) (pe_callB call_len_l (by rfl) T.b_len PySem.boot_len (pa_cons (pe_fld (pv 3) rfl) pa_nil)))
      (pss_cons (ps_expr (pe_mt M_Player_leave_out T.c_Player (hr.mono (by decide)) (pv 3) (pa_cons (pv 2) pa_nil)))
      (pss_cons (ps_if (pt_cmpR op_eq (pe_callB call_len_l (by rfl) T.b_len PySem.boot_len (pa_cons (pe_fld (pv 3) rfl) pa_nil)) (pv 4) (nomark _)) (pss_one (ps_ret (pe_num T.n_NOT_THERE))) pss_nil)
      (pss_one (ps_ret (pe_callB call_len_l (by rfl) T.b_len PySem.boot_len (pa_cons (pe_fld (pv 3) rfl) pa_nil))))))))), ?_⟩
    simp_arith only [hs.obj, hs.lp, T.c_Score, T.a_Score_players, l_Score_players, l_Score_has_player]
    have same := Chg.of_same (R := R) (Same.refl' H)
    refine ⟨x, R, s, i, rfl, hs, _, rfl, ?_⟩
    split
    · rename_i h0
      have h0' : s.players[i]? = none := by
        simp at h0
        simp
        omega
      exact k H R s (-2) (by simp only [Kct9.step, h0']) hs same
    · rename_i h0
      obtain ⟨p, hp⟩ : ∃ p, s.players[i]? = some p := ⟨_, List.getElem?_eq_getElem (by simpa using h0)⟩
      obtain ⟨r, hr', hpl, hat⟩ := hs.get hp
      have wp := wf.pl p (List.mem_of_getElem? hp)
      have hln := Paired.length hpl.nts
      simp_arith only [hs.obj, hs.lp, T.c_Score, T.a_Score_players, l_Score_players, hat, hpl.obj, hpl.lst, T.c_Player, T.a_Player_notes, l_Player_notes, l_Player_leave_out]
      refine ⟨r.a, r.dx, r.ln, r.as, p, a, rfl, hpl, wp.len, fun H' ln' as' pl' sl kp hl' => ?_⟩
      simp_arith only [pl'.obj, pl'.lst, T.c_Player, T.a_Player_notes, l_Player_notes]
      have rnd : r.as.Nodup := by
        have := hs.nn
        rw [List.flatMap_def] at this
        exact (List.pairwise_flatten.mp this).1 r.as (List.mem_map_of_mem (List.mem_of_getElem? hr'))
      have kt : ∀ b o, H b = some o → (∀ xs dx fs, o ≠ .ins xs dx fs) → H' b = some o := fun b o e d => kp b o e (ne_of e hpl.obj (d _ _ _))
      obtain ⟨q1, q2⟩ := hs.setPl hr' hp pl' (fun b o e h1 h2 => kp b o e h1) (by
        rcases hs.tab with t | ⟨c', t, u⟩
        · exact .inl (kt _ _ t (fun _ _ _ z => by cases z))
        · exact .inr ⟨c', kt _ _ t (fun _ _ _ z => by cases z), kt _ _ u (fun _ _ _ z => by cases z)⟩) (.inr hl') (sl.nodup rnd) (fun b hb => .inl (sl.subset hb))
      have hl3 : ((as'.map V.ref).length : Int) = ((p.notes.filter fun n => n.start != a).length : Int) := by
        rw [List.length_map, Paired.length pl'.nts]
      rw [hl3, List.length_map, hln]
      split
      · rename_i h1
        have hall : ∀ m ∈ p.notes, (m.start != a) = true := by
          have e : (p.notes.filter fun n => n.start != a).length = p.notes.length := by omega
          exact List.length_filter_eq_length_iff.mp e
        have hf : p.notes.filter (fun n => n.start != a) = p.notes := List.filter_eq_self.mpr hall
        have hany : p.notes.any (fun n => n.start == a) = false := by
          rw [List.any_eq_false]
          intro m hm
          simpa using hall m hm
        have es : Kct9.setAt s i { p with notes := p.notes.filter fun n => n.start != a } = s := by
          rw [hf]
          unfold Kct9.setAt
          have : s.players.set i p = s.players := by
            obtain ⟨hlt, e⟩ := List.getElem?_eq_some_iff.mp hp
            rw [← e]
            exact List.set_getElem_self hlt
          show { s with players := s.players.set i p } = s
          rw [this]
        rw [es] at q1
        exact k H' _ s (-2) (by simp only [Kct9.step, hp]; rw [if_pos hany]) q1 q2
      · rename_i h1
        have hany : ¬ p.notes.any (fun n => n.start == a) = false := fun hany => by
          rw [List.any_eq_false] at hany
          have hf : p.notes.filter (fun n => n.start != a) = p.notes := List.filter_eq_self.mpr fun m hm => by simpa using hany m hm
          rw [hf] at h1
          omega
        exact k H' _ _ _ (by simp only [Kct9.step, hp]; rw [if_neg hany]) q1 q2
theorem ok_Score_move_all {f : Addr} {fd : FuncData} (F : Fun K "move_all" "Score.move_all" s_Score_move_all f fd) (T : Txt K mg c) {f_Player_may_move : Addr} {fd_Player_may_move : FuncData} (M_Player_may_move : Mt P w K mg base c.Player "may_move" 2 ["self", "k"] (sp_Player_may_move K c) f_Player_may_move fd_Player_may_move) {f_Player_move_notes : Addr} {fd_Player_move_notes : FuncData} (M_Player_move_notes : Mt P w K mg base c.Player "move_notes" 1 ["self", "k"] (sp_Player_move_notes K c) f_Player_move_notes fd_Player_move_notes) : FnOk P w K mg base CX0 3 f fd ["self", "k"] (sp_Score_move_all K c) := by
  refine F.ok sc_Score_move_all (fun vs H Q E h => ?_) (fun cdv A outer s H vs Q E hr h => ?_)
  · obtain ⟨x, R, s, r, cl, rfl, ⟨kk, rfl, _⟩, _⟩ := h
    rfl
  · obtain ⟨x, R, s, r, cl, rfl, ⟨kk, rfl, rfl⟩, hs, wf, k⟩ := h
    refine ⟨_, (pss_cons (ps_if (pt_not (pt_val (pe_callB (cr_all rfl) (by rfl) T.b_all PyProof.Rows.boot_all (pa_cons (pe_lc rfl sc_Score_move_all.nd (pi_lst (pe_fld (pv 0) rfl)) (blkOk_by (own := [("player", 2)]) (by with_unfolding_all rfl)) (fun _ _ _ _ _ => pg_name (i := 2) sc_Score_move_all.nd rfl (Or.inl rfl)) (fun _ _ _ _ _ => pts_nil) (fun _ _ _ _ _ => (pe_mt M_Player_may_move T.c_Player (hr.mono (by decide)) (pv 2) (pa_cons (pv 1) pa_nil)))) pa_nil)))) (pss_one (ps_ret (pe_num T.n_OUT_OF_RANGE))) pss_nil)
      (pss_cons (ps_for PassesOwn.never rfl (pi_lst (pe_fld (pv 0) rfl)) (pg_name (i := 2) sc_Score_move_all.nd rfl (by first | exact Or.inl rfl | exact Or.inr rfl)) (pss_one (ps_expr (pe_mt M_Player_move_notes T.c_Player (hr.mono (by decide)) (pv 2) (pa_cons (pv 1) pa_nil)))))
      (pss_one (ps_ret pe_int)))), ?_⟩
    simp_arith only [hs.obj, hs.lp, T.c_Score, T.a_Score_players, l_Score_players]
    intro D hD
    have hl := Paired.length hs.pl
    have hplen := wf.plen
    refine lc_list (xs := R.ps.map fun r => V.ref r.a) (fun i H' => ∃ B, Same H B ∧ B D = none ∧ H' = upd B D (.lst ((s.players.take i).map fun p => V.bl (p.notes.all fun n => Kct9.inRange p (n.high + kk))))) ⟨H, Same.refl' H, hD, rfl⟩ (fun i H' _ ⟨B, sB, hB, e⟩ => ?_) ?_ ?_
    · subst e
      exact SqL.of (by rw [upd_ne (ne_of_none (sB _ _ hs.lp) hB)]; exact sB _ _ hs.lp)
    · rintro i y H' hi ⟨B, sB, hB, rfl⟩
      obtain ⟨r, hr', rfl⟩ := map_get hi
      obtain ⟨p, hp, hpl⟩ := paired_get hs.pl hr'
      have wp := wf.pl p (List.mem_of_getElem? hp)
      have hpl2 := hpl.same (Same.trans sB (Same.new (o := HO.lst ((s.players.take i).map fun p => V.bl (p.notes.all fun n => Kct9.inRange p (n.high + kk)))) hB))
      simp_arith only [wipe, hpl2.obj, l_Player_may_move]
      refine ⟨r.a, r.dx, r.ln, r.as, p, kk, rfl, hpl2, wp.len, fun H' sm => ?_⟩
      obtain ⟨B', s1, h1, rfl⟩ := grown sm hB
      refine ⟨_, upd_same, by simp [sizeLine_eq]; omega, B', Same.trans sB s1, h1, ?_⟩
      rw [upd_upd, take_snoc hp]
      simp
    · rintro H' ⟨B, sB, hB, rfl⟩
      rw [List.length_map, hl, List.take_length]
      have hs2 := hs.same (Same.trans sB (Same.new (o := HO.lst (s.players.map fun p => V.bl (p.notes.all fun n => Kct9.inRange p (n.high + kk)))) hB))
      have sm : Same H (upd B D (.lst (s.players.map fun p => V.bl (p.notes.all fun n => Kct9.inRange p (n.high + kk))))) := Same.trans sB (Same.new hB)
      refine ⟨s.players.map fun p => p.notes.all fun n => Kct9.inRange p (n.high + kk), SqL.of (by rw [upd_same, List.map_map]; rfl), ?_⟩
      have e : ((s.players.map fun p => p.notes.all fun n => Kct9.inRange p (n.high + kk)).all id = false) ↔ (s.players.any (fun p => (Kct9.moved kk p).notes.any fun n => !Kct9.inRange p n.high) = true) := Mm.move_all_any s kk
      generalize upd B D (.lst (s.players.map fun p => V.bl (p.notes.all fun n => Kct9.inRange p (n.high + kk)))) = H1 at hs2 sm ⊢
      split
      · rename_i h0
        exact k _ R s (-34) (by rw [Mm.step_move, if_pos (e.mp h0)]) hs2 (Chg.of_same sm)
      · rename_i h0
        simp_arith only [hs2.obj, hs2.lp, T.c_Score, T.a_Score_players, l_Score_players]
        have nnd : ∀ {i : Nat} {r : PR}, R.ps[i]? = some r → r.as.Nodup := fun {i r} h => by
          have := hs.nn
          rw [List.flatMap_def] at this
          exact (List.pairwise_flatten.mp this).1 r.as (List.mem_map_of_mem (List.mem_of_getElem? h))
        have apart : ∀ {i j : Nat} {r q : PR} {a : Addr}, R.ps[i]? = some r → R.ps[j]? = some q → i ≠ j → a ∈ r.as → a ∉ q.as := fun {i j r q a} h1 h2 hne m1 m2 => by
          have := hs.nn
          rw [List.flatMap_def] at this
          have p2 := List.pairwise_iff_getElem.mp (List.pairwise_map.mp (List.pairwise_flatten.mp this).2)
          obtain ⟨l1, e1⟩ := List.getElem?_eq_some_iff.mp h1
          obtain ⟨l2, e2⟩ := List.getElem?_eq_some_iff.mp h2
          rcases Nat.lt_or_gt_of_ne hne with h | h
          · have := p2 i j l1 l2 h
            rw [e1, e2] at this
            exact this a m1 a m2 rfl
          · have := p2 j i l2 l1 h
            rw [e1, e2] at this
            exact this a m2 a m1 rfl
        have lpn : ∀ {b : Addr} {o : HO}, H1 b = some o → (∀ dx fs, o ≠ .ins c.Note dx fs) → ∀ {i : Nat} {r : PR}, R.ps[i]? = some r → b ∉ r.as := fun {b o} e d {i r} h hm => by
          obtain ⟨p, _, hpl⟩ := paired_get hs2.pl h
          obtain ⟨j, hj⟩ := List.getElem?_of_mem hm
          obtain ⟨n, _, dn, hn⟩ := paired_get hpl.nts hj
          rw [e] at hn
          exact d _ _ (Option.some.inj hn)
        refine for_list (xs := R.ps.map fun r => V.ref r.a) (fun i σ H' => ∃ v, σ = [some (.ref x), some (.int kk), v] ∧ (∀ b o, H1 b = some o → (∀ j r, j < i → R.ps[j]? = some r → b ∉ r.as) → H' b = some o) ∧ (∀ j r p, R.ps[j]? = some r → s.players[j]? = some p → j < i → PRAt c H' r (Kct9.moved kk p))) ⟨none, rfl, fun _ _ e _ => e, fun j _ _ _ _ h => absurd h (Nat.not_lt_zero _)⟩ (fun i σ H' _ ⟨v, _, e, _⟩ => ?_) ?_ ?_
        · exact SqL.of (e _ _ hs2.lp fun j r _ h => lpn hs2.lp (fun _ _ z => by cases z) h)
        · rintro i y σ H' hi ⟨v, rfl, hk, hdone⟩
          obtain ⟨r, hr', rfl⟩ := map_get hi
          obtain ⟨p, hp, hpl⟩ := paired_get hs2.pl hr'
          have kpl : PRAt c H' r p := by
            refine ⟨hk _ _ hpl.obj fun j q _ h hm => ?_, hk _ _ hpl.lst fun j q _ h => lpn hpl.lst (fun _ _ z => by cases z) h, Mm.paired_mem (fun a ha n _ ⟨dn, hn⟩ => ⟨dn, hk _ _ hn fun j q hj h hm => ?_⟩) hpl.nts⟩
            · obtain ⟨p2, _, hpl2⟩ := paired_get hs2.pl h
              obtain ⟨j2, hj2⟩ := List.getElem?_of_mem hm
              obtain ⟨n, _, dn, hn⟩ := paired_get hpl2.nts hj2
              exact absurd rfl (note_ne hn hpl.obj)
            · exact apart hr' h (by omega) ha hm
          simp_arith only [kpl.obj, l_Player_move_notes]
          refine ⟨r.a, r.dx, r.ln, r.as, p, kk, rfl, kpl, nnd hr', fun H'' pl' kp => ⟨fun b o e hb => ?_, fun j q p2 hq hp2 hj => ?_⟩⟩
          · exact kp b o (hk b o e fun j q hj h => hb j q (by omega) h) (hb i r (by omega) hr')
          · by_cases hji : j = i
            · subst hji
              rw [hr'] at hq
              rw [hp] at hp2
              cases hq
              cases hp2
              exact pl'
            · have dn := hdone j q p2 hq hp2 (by omega)
              refine ⟨kp _ _ dn.obj fun hm => ?_, kp _ _ dn.lst fun hm => ?_, Mm.paired_mem (fun a ha n _ ⟨d2, hn⟩ => ⟨d2, kp _ _ hn fun hm => apart hq hr' hji ha hm⟩) dn.nts⟩
              · obtain ⟨j2, hj2⟩ := List.getElem?_of_mem hm
                obtain ⟨n, _, d2, hn⟩ := paired_get kpl.nts hj2
                exact absurd rfl (note_ne hn dn.obj)
              · obtain ⟨j2, hj2⟩ := List.getElem?_of_mem hm
                obtain ⟨n, _, d2, hn⟩ := paired_get kpl.nts hj2
                exact absurd rfl (ne_of hn dn.lst (by intro z; cases z))
        · rintro σ H' ⟨v, rfl, hk, hdone⟩
          rw [List.length_map] at hk hdone
          have kk' : ∀ b o, H1 b = some o → (∀ dx fs, o ≠ .ins c.Note dx fs) → H' b = some o := fun b o e d => hk b o e fun j r _ h => lpn e d h
          have ks : H' x = some (.ins c.Score R.dx (fs_Score (.ref R.lb) (.ref R.lp))) := hk _ _ hs2.obj fun j q _ h hm => by
            obtain ⟨p2, _, hpl2⟩ := paired_get hs2.pl h
            obtain ⟨j2, hj2⟩ := List.getElem?_of_mem hm
            obtain ⟨n, _, dn, hn⟩ := paired_get hpl2.nts hj2
            exact absurd rfl (score_ne_note hs2.obj hn)
          refine k H' R { s with players := s.players.map (Kct9.moved kk) } 0 (by rw [Mm.step_move, if_neg (fun z => h0 (e.mpr z))]) ⟨ks, kk' _ _ hs2.lb (fun _ _ z => by cases z), kk' _ _ hs2.lp (fun _ _ z => by cases z), hs.ne, hs.nd, hs.nl, hs.nn, ?_, ?_⟩ ⟨fun b xs e _ _ => kk' _ _ (sm _ _ e) (fun _ _ z => by cases z), fun b o u e => kk' _ _ (sm _ _ e) (fun _ _ z => by cases z), .inl rfl, .inl rfl, (fun r hr => .inl ⟨r, hr, rfl⟩), fun b e => free_of sm (free_by (fun b o e => ?_) b e)⟩
          rotate_left 2
          · by_cases hb : ∃ (j : Nat) (r : PR), R.ps[j]? = some r ∧ b ∈ r.as
            · obtain ⟨j, r, hr', hm⟩ := hb
              obtain ⟨p, hp, _⟩ := paired_get hs2.pl hr'
              have pd := hdone j r p hr' hp (List.getElem?_eq_some_iff.mp hr').1
              obtain ⟨j2, hj2⟩ := List.getElem?_of_mem hm
              obtain ⟨n, _, dn, hn⟩ := paired_get pd.nts hj2
              exact ⟨_, hn⟩
            · exact ⟨o, hk b o e fun j r _ h hm => hb ⟨j, r, h, hm⟩⟩
          · refine Mm.paired_of (by simp [hl]) fun j r p2 e1 e2 => ?_
            obtain ⟨p, hp, rfl⟩ := map_get e2
            exact hdone j r p e1 hp (List.getElem?_eq_some_iff.mp e1).1
          · rcases hs2.tab with t | ⟨c', t, u⟩
            · exact .inl (kk' _ _ t (fun _ _ z => by cases z))
            · exact .inr ⟨c', kk' _ _ t (fun _ _ z => by cases z), kk' _ _ u (fun _ _ z => by cases z)⟩
theorem ok_first_behind {f : Addr} {fd : FuncData} (F : Fun K "first_behind" "first_behind" s_first_behind f fd) (T : Txt K mg c)  : FnOk P w K mg base CX0 1 f fd ["notes", "first", "tick"] (sp_first_behind K c) := by
  refine F.ok sc_first_behind (fun vs H Q E h => ?_) (fun cdv A outer s H vs Q E hr h => ?_)
  · obtain ⟨l, as, ns, f, t, rfl, _⟩ := h
    rfl
  · obtain ⟨l, as, ns, f0, t, rfl, hn, ho, hf, hle, k⟩ := h
    refine ⟨_, (pss_cons (ps_set (i := 3) sc_first_behind.nd rfl (by first | exact Or.inl rfl | exact Or.inr rfl) (pv 1))
      (pss_cons (ps_while PassesOwn.never (pw_and (pt_cmpR op_lt (pv 3) (pe_callB call_len_l (by rfl) T.b_len PySem.boot_len (pa_cons (pv 0) pa_nil)) (nomark _)) (pw_and1 (pt_cmpR op_le (pe_fld (pe_ix ix_lst (pv 0) (pv 3) (fun _ _ => rfl)) rfl) (pv 2) (nomark _)))).pt (pss_one (ps_aug (i := 3) sc_first_behind.nd rfl (by first | exact Or.inl rfl | exact Or.inr rfl) pe_int ip_add)))
      (pss_one (ps_ret (pv 3))))), ?_⟩
    simp_arith only []
    have hl := Paired.length hn.nts
    refine while_by (fun σ H' => H' = H ∧ ∃ k : Nat, σ = [some (.ref l), some (.int f0), some (.int t), some (.int k)] ∧ k ≤ ns.length ∧ (∀ n ∈ ns.take k, Kct9.ends n ≤ t))
      (fun σ _ => match σ with | [_, _, _, some (.int k)] => ns.length - k.toNat | _ => 0) ⟨rfl, f0, rfl, hf, hle⟩ ?_ (mo_and (mo_test (mo_op mo_I0 mo_var (mo_len (mo_cons mo_var mo_nil)))) (mo_test (mo_op mo_I0 (mo_fld (mo_op mo_ixl mo_var mo_var)) mo_var)))
    rintro σ H' ⟨rfl, k0, rfl, hk, hlt⟩
    simp_arith only [hn.lst]
    rw [List.length_map, hl]
    have hch := List.pairwise_iff_getElem.mp ho.ch
    split
    · rename_i h1
      obtain ⟨n, hnk⟩ : ∃ n, ns[k0]? = some n := ⟨_, List.getElem?_eq_getElem (by omega)⟩
      obtain ⟨z, hz, dz, hnz⟩ := paired_get' hn.nts hnk
      have at1 : atI (as.map V.ref) (k0 : Int) = some (V.ref z) := atI_nat (by rw [List.getElem?_map, hz]; rfl)
      simp_arith only [at1, hnz, T.c_Note, T.a_Note_end, l_Note_end]
      split
      · rename_i h2
        refine ⟨⟨k0 + 1, by omega, by omega, fun m hm => ?_⟩, by omega⟩
        rw [take_snoc hnk] at hm
        rcases List.mem_append.mp hm with hm | hm
        · exact hlt m hm
        · simp at hm
          subst hm
          omega
      · rename_i h2
        refine k k0 hk hlt fun m hm => ?_
        obtain ⟨j, hj⟩ := List.getElem?_of_mem hm
        rw [List.getElem?_drop] at hj
        obtain ⟨l1, e1⟩ := List.getElem?_eq_some_iff.mp hnk
        obtain ⟨l2, e2⟩ := List.getElem?_eq_some_iff.mp hj
        by_cases h0 : j = 0
        · subst h0
          simp only [Nat.add_zero] at e2
          rw [e1] at e2
          subst e2
          omega
        · have := hch k0 (k0 + j) l1 l2 (by omega)
          rw [e1, e2] at this
          have p1 := ho.pos m (List.mem_of_getElem? hj)
          simp only [Kct9.ends] at *
          omega
    · rename_i h1
      refine k k0 hk hlt fun m hm => ?_
      rw [List.drop_eq_nil_of_le (by omega)] at hm
      cases hm
theorem ok_written_note {f : Addr} {fd : FuncData} (F : Fun K "written_note" "written_note" s_written_note f fd) (T : Txt K mg c)  : FnOk P w K mg base CX0 1 f fd ["note", "shift", "begin", "end"] (sp_written_note K c) := by
  refine F.ok sc_written_note (fun vs H Q E h => ?_) (fun cdv A outer s H vs Q E hr h => ?_)
  · obtain ⟨a, n, sh, b, e, rfl, _⟩ := h
    rfl
  · obtain ⟨a, n, sh, b, e, rfl, ⟨dx, hn⟩, k⟩ := h
    refine ⟨_, (pss_cons (ps_set (i := 4) sc_written_note.nd rfl (by first | exact Or.inl rfl | exact Or.inr rfl) (pe_op op_sub (pe_callB (call_min_l rfl) (by rfl) T.b_min PyProof.Rows.boot_min (pa_cons (pe_fld (pv 0) rfl) (pa_cons (pv 3) pa_nil))) (pe_callB (call_max_l rfl) (by rfl) T.b_max PyProof.Rows.boot_max (pa_cons (pe_fld (pv 0) rfl) (pa_cons (pv 2) pa_nil)))))
      (pss_cons (ps_if (pt_cmpR op_lt (pe_fld (pv 0) rfl) (pv 2) (nomark _)) (pss_one (ps_ret (pe_tup (pa_cons (pe_num T.n_GOES_ON) (pa_cons (pv 4) pa_nil))))) pss_nil)
      (pss_one (ps_ret (pe_tup (pa_cons (pe_op op_add (pe_op op_add (pe_fld (pv 0) rfl) (pv 1)) (pe_num T.n_LIFT)) (pa_cons (pv 4) pa_nil))))))), ?_⟩
    simp_arith only [hn, T.c_Note, T.a_Note_start, T.a_Note_end, T.a_Note_high, l_Note_start, l_Note_end, l_Note_high]
    have e1 : min ((Kct9.ends n : Nat) : Int) (e : Int) - max (n.start : Int) (b : Int) = ((min (Kct9.ends n) e : Nat) : Int) - ((max n.start b : Nat) : Int) := by omega
    rw [e1]
    split
    · rename_i h1
      refine ⟨by decide, fun q hq => ?_⟩
      have := k q hq
      rw [if_pos (by omega)] at this
      exact this
    · rename_i h1
      refine ⟨by decide, fun q hq => ?_⟩
      have := k q hq
      rw [if_neg (by omega)] at this
      exact this
theorem ok_written_bar {f : Addr} {fd : FuncData} (F : Fun K "written_bar" "written_bar" s_written_bar f fd) (T : Txt K mg c) {f_written_note : Addr} {fd_written_note : FuncData} (F_written_note : Fn P w K mg base "written_note" 1 ["note", "shift", "begin", "end"] (sp_written_note K c) f_written_note fd_written_note) : FnOk P w K mg base CX0 2 f fd ["player", "first", "begin", "end"] (sp_written_bar K c) := by
  refine F.ok sc_written_bar (fun vs H Q E h => ?_) (fun cdv A outer s H vs Q E hr h => ?_)
  · obtain ⟨a, dx, ln, as, p, f, b, e, rfl, _⟩ := h
    rfl
  · obtain ⟨a, dx, ln, as, p, f, b, e, rfl, hp, wo, hbe, hf, hle, hgt, k⟩ := h
    refine ⟨_, (pss_cons (ps_set (i := 4) sc_written_bar.nd rfl (by first | exact Or.inl rfl | exact Or.inr rfl) (pe_lst pa_nil))
      (pss_cons (ps_set (i := 5) sc_written_bar.nd rfl (by first | exact Or.inl rfl | exact Or.inr rfl) (pv 2))
      (pss_cons (ps_set (i := 6) sc_written_bar.nd rfl (by first | exact Or.inl rfl | exact Or.inr rfl) (pv 1))
      (pss_cons (ps_while PassesOwn.never (pw_and (pt_cmpR op_lt (pv 6) (pe_callB call_len_l (by rfl) T.b_len PySem.boot_len (pa_cons (pe_fld (pv 0) rfl) pa_nil)) (nomark _)) (pw_and1 (pt_cmpR op_lt (pe_fld (pe_ix ix_lst (pe_fld (pv 0) rfl) (pv 6) (fun _ _ => rfl)) rfl) (pv 3) (nomark _)))).pt (pss_cons (ps_set (i := 7) sc_written_bar.nd rfl (by first | exact Or.inl rfl | exact Or.inr rfl) (pe_ix ix_lst (pe_fld (pv 0) rfl) (pv 6) (fun _ _ => rfl)))
      (pss_cons (ps_if (pt_cmpR op_gt (pe_fld (pv 7) rfl) (pv 5) (nomark _)) (pss_one (ps_expr (pe_lm PySem.F.slot_list_append PySem.F.type_list_append mt_append (pv 4) (pa_cons (pe_tup (pa_cons (pe_num T.n_REST) (pa_cons (pe_op op_sub (pe_fld (pv 7) rfl) (pv 5)) pa_nil))) pa_nil)))) pss_nil)
      (pss_cons (ps_expr (pe_lm PySem.F.slot_list_append PySem.F.type_list_append mt_append (pv 4) (pa_cons (pe_fn F_written_note (hr.mono (by decide)) (pa_cons (pv 7) (pa_cons (pe_fld (pv 0) rfl) (pa_cons (pv 2) (pa_cons (pv 3) pa_nil))))) pa_nil)))
      (pss_cons (ps_set (i := 5) sc_written_bar.nd rfl (by first | exact Or.inl rfl | exact Or.inr rfl) (pe_fld (pv 7) rfl))
      (pss_one (ps_aug (i := 6) sc_written_bar.nd rfl (by first | exact Or.inl rfl | exact Or.inr rfl) pe_int ip_add)))))))
      (pss_cons (ps_if (pw_and (pt_cmpR op_gt (pe_callB call_len_l (by rfl) T.b_len PySem.boot_len (pa_cons (pv 4) pa_nil)) pe_int (nomark _)) (pw_and1 (pt_cmpR op_lt (pv 5) (pv 3) (nomark _)))).pt (pss_one (ps_expr (pe_lm PySem.F.slot_list_append PySem.F.type_list_append mt_append (pv 4) (pa_cons (pe_tup (pa_cons (pe_num T.n_REST) (pa_cons (pe_op op_sub (pv 3) (pv 5)) pa_nil))) pa_nil)))) pss_nil)
      (pss_one (ps_ret (pv 4)))))))), ?_⟩
    simp_arith only [hp.obj, hp.lst, T.c_Player, T.a_Player_notes, l_Player_notes]
    refine ⟨by decide, fun D hD => ?_⟩
    have hl := Paired.length hp.nts
    have hch := List.pairwise_iff_getElem.mp wo.ord.ch
    have hlen := wo.len
    refine while_by (fun σ H' => ∃ (B : Hp) (ts : List Addr) (dn : List Kct9.Item) (kk at' : Nat) (v7 : Option V), σ = [some (.ref a), some (.int f), some (.int b), some (.int e), some (.ref D), some (.int at'), some (.int kk), v7] ∧ Same H B ∧ B D = none ∧ H' = upd B D (.lst (ts.map V.ref)) ∧ Paired (TupAt B) ts (dn.map pairOf) ∧
        f ≤ kk ∧ kk ≤ p.notes.length ∧ b ≤ at' ∧ ts.length ≤ 2 * (kk - f) ∧ Kct9.fill p (p.notes.drop f) b e = dn ++ Kct9.fill p (p.notes.drop kk) (min at' e) e ∧ ((dn = [] ∧ kk = f ∧ at' = b) ∨ ((∃ d it, dn = d ++ [it] ∧ Mm.isRest it = false) ∧ ∀ n ∈ p.notes.drop kk, at' ≤ n.start)))
      (fun σ _ => match σ with | [_, _, _, _, _, _, some (.int k), _] => p.notes.length - k.toNat | _ => 0) ?_ ?_ (mo_and (mo_test (mo_op mo_I0 mo_var (mo_len (mo_cons (mo_fld mo_var) mo_nil)))) (mo_test (mo_op mo_I0 (mo_fld (mo_op mo_ixl (mo_fld mo_var) mo_var)) mo_var)))
    · exact ⟨H, [], [], f, b, none, rfl, Same.refl' H, hD, rfl, .nil, Nat.le_refl _, hf, Nat.le_refl _, by simp, by rw [Nat.min_eq_left (by omega)]; rfl, .inl ⟨rfl, rfl, rfl⟩⟩
    · rintro σ H' ⟨B, ts, dn, kk, at', v7, rfl, sB, hB, rfl, ht, hfk, hkl, hba, htl, hfill, hst⟩
      have sB' : Same H (upd B D (.lst (ts.map V.ref))) := Same.trans sB (Same.new hB)
      have hp' := hp.same sB'
      simp_arith only [hp'.obj, hp'.lst, T.c_Player, T.a_Player_notes, l_Player_notes]
      rw [List.length_map, hl]
      have final : (∀ n l', p.notes.drop kk = n :: l' → e ≤ n.start) → (if 0 < ((ts.map V.ref).length : Int) then (if (at' : Int) < (e : Int) then 0 + 1 + 1 ≤ sizeLine ∧ ∀ q, ¬ q = D ∧ B q = none → ∃ x, upd (upd B D (HO.lst (ts.map V.ref))) q (.tup [.int 254, .int ((e : Int) - at')]) D = some (.lst x) ∧ x.length < sizeLine ∧ Q (.ref D) (upd (upd (upd B D (HO.lst (ts.map V.ref))) q (.tup [.int 254, .int ((e : Int) - at')])) D (.lst (x ++ [.ref q]))) else Q (.ref D) (upd B D (HO.lst (ts.map V.ref)))) else Q (.ref D) (upd B D (HO.lst (ts.map V.ref)))) := by
        intro hend
        rw [Mm.fill_stop hend] at hfill
        rw [List.length_map]
        have hrow : rowOf p b e = if Kct9.isEmpty (dn ++ Kct9.restOf (e - min at' e)) = true then [] else (dn ++ Kct9.restOf (e - min at' e)).map pairOf := by
          unfold rowOf
          rw [Mm.fill_skip hbe hle, hfill]
        have hlt : ts.length = dn.length := by
          rw [Paired.length ht, List.length_map]
        rcases hst with ⟨rfl, rfl, rfl⟩ | ⟨⟨d, it, rfl, hit⟩, hnext⟩
        · have e1 : ts = [] := List.eq_nil_of_length_eq_zero (by simpa using hlt)
          subst e1
          rw [if_neg (by simp)]
          refine k _ D sB' hD ⟨[], upd_same, ?_⟩
          rw [hrow, if_pos]
          · exact .nil
          · rw [List.nil_append, Kct9.restOf, if_neg (by omega)]
            rfl
        · have hne : Kct9.isEmpty (d ++ [it] ++ Kct9.restOf (e - min at' e)) = false := by
            rw [List.append_assoc]
            exact Mm.not_empty hit
          have hpos : 0 < ts.length := by
            rw [hlt]
            simp
          rw [if_pos (by omega)]
          rw [hne] at hrow
          simp only [Bool.false_eq_true, if_false] at hrow
          split
          · rename_i h3
            refine ⟨by decide, fun q hq' => ⟨_, by rw [upd_ne (Ne.symm hq'.1), upd_same], by rw [List.length_map, sizeLine_eq]; omega, ?_⟩⟩
            have hqH : H q = none := free_of sB hq'.2
            have ee : upd (upd (upd B D (HO.lst (ts.map V.ref))) q (.tup [.int 254, .int ((e : Int) - at')])) D (.lst (ts.map V.ref ++ [.ref q])) = upd (upd B q (.tup [.int 254, .int ((e : Int) - at')])) D (.lst (ts.map V.ref ++ [.ref q])) := by
              rw [upd_swap (Ne.symm hq'.1), upd_upd]
            rw [ee]
            have sq : Same B (upd B q (.tup [.int 254, .int ((e : Int) - at')])) := Same.new hq'.2
            have hBq : (upd B q (.tup [.int 254, .int ((e : Int) - at')])) D = none := by
              rw [upd_ne (Ne.symm hq'.1)]
              exact hB
            have sD := Same.new (H := upd B q (.tup [.int 254, .int ((e : Int) - at')])) (o := HO.lst (ts.map V.ref ++ [.ref q])) hBq
            refine k _ D (Same.trans (Same.trans sB sq) sD) hD ⟨ts ++ [q], by rw [upd_same]; simp, ?_⟩
            rw [hrow, List.map_append, Kct9.restOf, if_neg (by omega)]
            refine Paired.snoc (Paired.imp' (fun _ _ z => TupAt.same (Same.trans sq sD) z) ht) (TupAt.same sD ?_)
            show upd B q _ q = _
            rw [upd_same]
            have e9 : (e : Int) - (at' : Int) = ((e - min at' e : Nat) : Int) := by omega
            rw [e9]
            rfl
          · rename_i h3
            refine k _ D sB' hD ⟨ts, upd_same, ?_⟩
            rw [hrow, Kct9.restOf, if_pos (by omega), List.append_nil]
            exact Paired.imp' (fun _ _ z => TupAt.same (Same.new hB) z) ht
      split
      · rename_i h1
        obtain ⟨n, hn⟩ : ∃ n, p.notes[kk]? = some n := ⟨_, List.getElem?_eq_getElem (by omega)⟩
        obtain ⟨z, hz, hnz0⟩ := paired_get' hp.nts hn
        obtain ⟨dz, hnz⟩ := hnz0.same sB'
        have at1 : atI (as.map V.ref) (kk : Int) = some (V.ref z) := atI_nat (by rw [List.getElem?_map, hz]; rfl)
        have hdrop : p.notes.drop kk = n :: p.notes.drop (kk + 1) := by
          obtain ⟨l1, e1⟩ := List.getElem?_eq_some_iff.mp hn
          rw [← e1]
          exact List.drop_eq_getElem_cons l1
        have hmem : n ∈ p.notes := List.mem_of_getElem? hn
        simp_arith only [hp'.obj, hp'.lst, T.c_Player, T.a_Player_notes, l_Player_notes, at1, hnz, T.c_Note, T.a_Note_start, l_Note_start]
        split
        · rename_i h2
          have hend : at' < Kct9.ends n := by
            rcases hst with ⟨_, rfl, rfl⟩ | ⟨_, hnext⟩
            · exact hgt n (by rw [hdrop]; simp)
            · have h1 := hnext n (by rw [hdrop]; simp)
              have h2 := wo.ord.pos n hmem
              unfold Kct9.ends
              omega
          have hae : at' < e := by
            rcases hst with ⟨_, rfl, rfl⟩ | ⟨_, hnext⟩
            · exact hbe
            · have h1 := hnext n (by rw [hdrop]; simp)
              omega
          have hnx : ∀ m ∈ p.notes.drop (kk + 1), Kct9.ends n ≤ m.start := fun m hm => by
            obtain ⟨j, hj⟩ := List.getElem?_of_mem hm
            rw [List.getElem?_drop] at hj
            obtain ⟨l1, e1⟩ := List.getElem?_eq_some_iff.mp hn
            obtain ⟨l2, e2⟩ := List.getElem?_eq_some_iff.mp hj
            have := hch kk (kk + 1 + j) l1 l2 (by omega)
            rw [e1, e2] at this
            exact this
          rw [hdrop, Nat.min_eq_left (by omega), Mm.fill_turn (by omega) hend] at hfill
          have hwr : ((Kct9.written p n.high : Nat) : Int) = n.high + p.shift + 24 := by
            have q1 := wo.hi n hmem
            have q2 := wo.sh
            unfold Kct9.written
            omega
          have note : ∀ (B1 : Hp) (ts1 : List Addr) (dn1 : List Kct9.Item), Same B B1 → B1 D = none → Paired (TupAt B1) ts1 (dn1.map pairOf) → ts1.length ≤ 2 * (kk - f) + 1 → dn1 = dn ++ Kct9.restOf (max n.start at' - at') →
              ∀ q, B1 q = none → q ≠ D → ∃ (B2 : Hp) (ts2 : List Addr), upd (upd B1 q (.tup [.int (if n.start < b then 253 else n.high + p.shift + 24), .int (((min (Kct9.ends n) e : Nat) : Int) - ((max n.start b : Nat) : Int))])) D (.lst (ts1.map V.ref ++ [.ref q])) = upd B2 D (.lst (ts2.map V.ref)) ∧ Same H B2 ∧ B2 D = none ∧
                ∃ dn2 : List Kct9.Item, Paired (TupAt B2) ts2 (dn2.map pairOf) ∧ ts2.length ≤ 2 * (kk + 1 - f) ∧ Kct9.fill p (p.notes.drop f) b e = dn2 ++ Kct9.fill p (p.notes.drop (kk + 1)) (min (Kct9.ends n) e) e ∧ (∃ d it, dn2 = d ++ [it] ∧ Mm.isRest it = false) := by
            intro B1 ts1 dn1 s1 h1D p1 l1 ed q hq hqD
            have sq : Same B1 (upd B1 q (.tup [.int (if n.start < b then 253 else n.high + p.shift + 24), .int (((min (Kct9.ends n) e : Nat) : Int) - ((max n.start b : Nat) : Int))])) := Same.new hq
            refine ⟨upd B1 q (.tup [.int (if n.start < b then 253 else n.high + p.shift + 24), .int (((min (Kct9.ends n) e : Nat) : Int) - ((max n.start b : Nat) : Int))]), ts1 ++ [q], by simp, Same.trans (Same.trans sB s1) sq, by rw [upd_ne (Ne.symm hqD)]; exact h1D, dn1 ++ [if n.start < at' then Kct9.Item.on (min (Kct9.ends n) e - max n.start at') else Kct9.Item.note (Kct9.written p n.high) (min (Kct9.ends n) e - max n.start at')], ?_, by simp; omega, ?_, ⟨dn1, _, rfl, by split <;> rfl⟩⟩
            · rw [List.map_append]
              refine Paired.snoc (Paired.imp' (fun _ _ z => TupAt.same sq z) p1) ?_
              show upd B1 q _ q = _
              rw [upd_same]
              have hab : n.start < at' ↔ n.start < b := by
                rcases hst with ⟨_, rfl, rfl⟩ | ⟨_, hnext⟩
                · exact Iff.rfl
                · have h1 := hnext n (by rw [hdrop]; simp)
                  omega
              have hmx : max n.start b = max n.start at' := by
                rcases hst with ⟨_, rfl, rfl⟩ | ⟨_, hnext⟩
                · rfl
                · have h1 := hnext n (by rw [hdrop]; simp)
                  omega
              have e9 : ((min (Kct9.ends n) e : Nat) : Int) - ((max n.start b : Nat) : Int) = ((min (Kct9.ends n) e - max n.start at' : Nat) : Int) := by
                rw [hmx]
                have q1 := wo.ord.pos n hmem
                have q2 : max n.start at' ≤ min (Kct9.ends n) e := by
                  unfold Kct9.ends at hend ⊢
                  omega
                exact (Int.ofNat_sub q2).symm
              rw [e9]
              by_cases h5 : n.start < at'
              · rw [if_pos h5, if_pos (hab.mp h5)]
                rfl
              · rw [if_neg h5, if_neg (fun z => h5 (hab.mpr z)), ← hwr]
                rfl
            · rw [hfill, ed]
              simp
          split
          · rename_i h3
            refine ⟨by decide, fun y hy => ⟨_, by rw [upd_ne (Ne.symm hy.1), upd_same], by rw [List.length_map, sizeLine_eq]; omega, ?_⟩⟩
            have ey : ∀ u L, upd (upd (upd B D (HO.lst (ts.map V.ref))) y u) D L = upd (upd B y u) D L := fun u L => by
              rw [upd_swap (Ne.symm hy.1), upd_upd]
            have sy : Same B (upd B y (HO.tup [V.int 254, V.int ((n.start : Int) - at')])) := Same.new hy.2
            have hyD : upd B y (HO.tup [V.int 254, V.int ((n.start : Int) - at')]) D = none := by
              rw [upd_ne (Ne.symm hy.1)]
              exact hB
            have er : Kct9.restOf (max n.start at' - at') = [.rest (n.start - at')] := by
              rw [Kct9.restOf, if_neg (by omega)]
              congr 2
              omega
            have py : Paired (TupAt (upd B y (HO.tup [V.int 254, V.int ((n.start : Int) - at')]))) (ts ++ [y]) ((dn ++ Kct9.restOf (max n.start at' - at')).map pairOf) := by
              rw [er, List.map_append]
              refine Paired.snoc (Paired.imp' (fun _ _ z => TupAt.same sy z) ht) ?_
              show upd B y _ y = _
              rw [upd_same]
              have e9 : (n.start : Int) - (at' : Int) = ((n.start - at' : Nat) : Int) := by omega
              rw [e9]
              rfl
            have ly : (ts ++ [y]).length ≤ 2 * (kk - f) + 1 := by
              simp
              omega
            rw [ey]
            have eL : ts.map V.ref ++ [V.ref y] = (ts ++ [y]).map V.ref := by simp
            rw [eL]
            have sy2 : Same H (upd (upd B y (HO.tup [V.int 254, V.int ((n.start : Int) - at')])) D (HO.lst ((ts ++ [y]).map V.ref))) := Same.trans (Same.trans sB sy) (Same.new hyD)
            obtain ⟨dz, hnz1⟩ := hnz0.same sy2
            have hp1 := hp.same sy2
            simp_arith only [hp1.obj, T.c_Player, T.a_Player_shift, l_Player_shift]
            refine ⟨z, n, p.shift, b, e, rfl, ⟨dz, hnz1⟩, fun q hq => ?_⟩
            have hq' := upd_none.mp hq
            obtain ⟨B2, ts2, eq2, sB2, hB2, dn2, hp2, hl2, hf2, hd2⟩ := note (upd B y (HO.tup [V.int 254, V.int ((n.start : Int) - at')])) (ts ++ [y]) (dn ++ Kct9.restOf (max n.start at' - at')) (sy) (hyD) (py) (ly) (rfl) q hq'.2 hq'.1
            have ee : ∀ u L, upd (upd (upd (upd B y (HO.tup [V.int 254, V.int ((n.start : Int) - at')])) D (HO.lst ((ts ++ [y]).map V.ref))) q u) D L = upd (upd (upd B y (HO.tup [V.int 254, V.int ((n.start : Int) - at')])) q u) D L := fun u L => by
              rw [upd_swap (Ne.symm hq'.1), upd_upd]
            refine ⟨_, by rw [upd_ne (Ne.symm hq'.1), upd_same], by rw [List.length_map, sizeLine_eq]; have := ly; omega, ?_⟩
            rw [ee, eq2]
            obtain ⟨dz2, hnz2⟩ := hnz0.same (Same.trans sB2 (Same.new (o := HO.lst (ts2.map V.ref)) hB2))
            simp_arith only [hnz2, T.c_Note, T.a_Note_end, l_Note_end]
            exact ⟨⟨B2, ts2, dn2, kk + 1, Kct9.ends n, rfl, by omega, sB2, hB2, rfl, hp2, by omega, by omega, by unfold Kct9.ends at hend ⊢; omega, hl2, hf2, .inr ⟨hd2, hnx⟩⟩, by omega⟩
          · rename_i h3
            have ed0 : dn = dn ++ Kct9.restOf (max n.start at' - at') := by
              rw [Kct9.restOf, if_pos (by omega), List.append_nil]
            have l0 : ts.length ≤ 2 * (kk - f) + 1 := by omega
            simp_arith only [T.a_Player_shift, l_Player_shift]
            refine ⟨z, n, p.shift, b, e, rfl, ⟨dz, hnz⟩, fun q hq => ?_⟩
            have hq' := upd_none.mp hq
            obtain ⟨B2, ts2, eq2, sB2, hB2, dn2, hp2, hl2, hf2, hd2⟩ := note (B) (ts) (dn) (Same.refl' B) (hB) (ht) (l0) (ed0) q hq'.2 hq'.1
            have ee : ∀ u L, upd (upd (upd (B) D (HO.lst ((ts).map V.ref))) q u) D L = upd (upd (B) q u) D L := fun u L => by
              rw [upd_swap (Ne.symm hq'.1), upd_upd]
            refine ⟨_, by rw [upd_ne (Ne.symm hq'.1), upd_same], by rw [List.length_map, sizeLine_eq]; have := l0; omega, ?_⟩
            rw [ee, eq2]
            obtain ⟨dz2, hnz2⟩ := hnz0.same (Same.trans sB2 (Same.new (o := HO.lst (ts2.map V.ref)) hB2))
            simp_arith only [hnz2, T.c_Note, T.a_Note_end, l_Note_end]
            exact ⟨⟨B2, ts2, dn2, kk + 1, Kct9.ends n, rfl, by omega, sB2, hB2, rfl, hp2, by omega, by omega, by unfold Kct9.ends at hend ⊢; omega, hl2, hf2, .inr ⟨hd2, hnx⟩⟩, by omega⟩
        · rename_i h2
          exact final fun n' l' e' => by
            rw [hdrop] at e'
            cases e'
            omega
      · rename_i h1
        exact final fun n' l' e' => by
          rw [List.drop_eq_nil_of_le (by omega)] at e'
          cases e'
theorem ok_written_bars {f : Addr} {fd : FuncData} (F : Fun K "written_bars" "written_bars" s_written_bars f fd) (T : Txt K mg c) {f_first_behind : Addr} {fd_first_behind : FuncData} (F_first_behind : Fn P w K mg base "first_behind" 1 ["notes", "first", "tick"] (sp_first_behind K c) f_first_behind fd_first_behind) {f_written_bar : Addr} {fd_written_bar : FuncData} (F_written_bar : Fn P w K mg base "written_bar" 2 ["player", "first", "begin", "end"] (sp_written_bar K c) f_written_bar fd_written_bar) : FnOk P w K mg base CX0 3 f fd ["bars", "player"] (sp_written_bars K c) := by
  refine F.ok sc_written_bars (fun vs H Q E h => ?_) (fun cdv A outer s H vs Q E hr h => ?_)
  · obtain ⟨lb, a, dx, ln, as, bars, p, rfl, _⟩ := h
    rfl
  · obtain ⟨lb, a, dx, ln, as, bars, p, rfl, hb, bo, hp, wo, k⟩ := h
    refine ⟨_, (pss_cons (ps_set (i := 2) sc_written_bars.nd rfl (by first | exact Or.inl rfl | exact Or.inr rfl) (pe_lst pa_nil))
      (pss_cons (ps_set (i := 3) sc_written_bars.nd rfl (by first | exact Or.inl rfl | exact Or.inr rfl) pe_int)
      (pss_cons (ps_set (i := 4) sc_written_bars.nd rfl (by first | exact Or.inl rfl | exact Or.inr rfl) pe_int)
      (pss_cons (ps_for PassesOwn.never rfl (pi_lst (pv 0)) (pg_name (i := 5) sc_written_bars.nd rfl (by first | exact Or.inl rfl | exact Or.inr rfl)) (pss_cons (ps_set (i := 6) sc_written_bars.nd rfl (by first | exact Or.inl rfl | exact Or.inr rfl) (pe_op op_add (pv 4) (pv 5)))
      (pss_cons (ps_set (i := 3) sc_written_bars.nd rfl (by first | exact Or.inl rfl | exact Or.inr rfl) (pe_fn F_first_behind (hr.mono (by decide)) (pa_cons (pe_fld (pv 1) rfl) (pa_cons (pv 3) (pa_cons (pv 4) pa_nil)))))
      (pss_cons (ps_expr (pe_lm PySem.F.slot_list_append PySem.F.type_list_append mt_append (pv 2) (pa_cons (pe_fn F_written_bar (hr.mono (by decide)) (pa_cons (pv 1) (pa_cons (pv 3) (pa_cons (pv 4) (pa_cons (pv 6) pa_nil))))) pa_nil)))
      (pss_one (ps_set (i := 4) sc_written_bars.nd rfl (by first | exact Or.inl rfl | exact Or.inr rfl) (pv 6)))))))
      (pss_one (ps_ret (pv 2))))))), ?_⟩
    have hb' : H lb = some (.lst (natsV bars)) := hb
    simp_arith only [hp.obj, hp.lst, hb', T.c_Player, T.a_Player_notes, l_Player_notes]
    refine ⟨by decide, fun D hD => ⟨_, by rw [upd_ne (ne_of_none hb' hD), hb']; rfl, ?_⟩⟩
    have hlen : (natsV bars).length = bars.length := by simp [natsV]
    have hbl := bo.len
    refine for_list (xs := natsV bars) (fun i σ H' => ∃ (B : Hp) (ts : List Addr) (kf : Nat) (v5 v6 : Option V), σ = [some (.ref lb), some (.ref a), some (.ref D), some (.int kf), some (.int (Kct9.sumOf (bars.take i) : Nat)), v5, v6] ∧ Same H B ∧ B D = none ∧ H' = upd B D (.lst (ts.map V.ref)) ∧ Paired (RowAt B) ts ((rowsOf p bars 0).take i) ∧ (∀ t ∈ ts, H t = none) ∧ kf ≤ p.notes.length ∧ (∀ n ∈ p.notes.take kf, Kct9.ends n ≤ Kct9.sumOf (bars.take i)))
      ⟨H, [], 0, none, none, rfl, Same.refl' H, hD, rfl, .nil, by simp, Nat.zero_le _, by simp⟩ (fun i σ H' _ ⟨B, ts, kf, v5, v6, _, sB, hB, e, _⟩ => ?_) ?_ ?_
    · subst e
      exact SqL.of (by rw [upd_ne (ne_of_none (sB _ _ hb') hB)]; exact sB _ _ hb')
    · rintro i y σ H' hi ⟨B, ts, kf, v5, v6, rfl, sB, hB, rfl, hts, hfr, hkf, hle⟩
      obtain ⟨n, hn, rfl⟩ := map_get hi
      have hn1 := bo.pos n (List.mem_of_getElem? hn)
      have sB' : Same H (upd B D (.lst (ts.map V.ref))) := Same.trans sB (Same.new hB)
      have hp' := hp.same sB'
      have hil := (List.getElem?_eq_some_iff.mp hn).1
      have htl : ts.length = i := by
        rw [Paired.length hts, List.length_take, rowsOf_len]
        omega
      simp_arith only [hp'.obj, hp'.lst, T.c_Player, T.a_Player_notes, l_Player_notes]
      refine ⟨ln, as, p.notes, kf, Kct9.sumOf (bars.take i), rfl, hp'.nl, wo.ord, hkf, hle, fun kk hk1 hk2 hk3 => ?_⟩
      simp_arith only []
      refine ⟨a, dx, ln, as, p, kk, Kct9.sumOf (bars.take i), Kct9.sumOf (bars.take i) + n, by simp, hp', wo, by omega, hk1, hk2, hk3, fun H'' q sm hq hrow => ?_⟩
      obtain ⟨B', s1, h1, rfl⟩ := grown sm hB
      have hqD := (upd_none.mp hq).1
      have hrow' : RowAt B' q (rowOf p (Kct9.sumOf (bars.take i)) (Kct9.sumOf (bars.take i) + n)) := by
        obtain ⟨rs, e1, e2⟩ := hrow
        rw [upd_ne hqD] at e1
        refine ⟨rs, e1, Paired.imp' (fun a' r' z => ?_) e2⟩
        have z' : upd B' D (HO.lst (ts.map V.ref)) a' = some (.tup [.int r'.1, .int r'.2]) := z
        by_cases ha : a' = D
        · rw [ha, upd_same] at z'
          cases z'
        · rw [upd_ne ha] at z'
          exact z'
      refine ⟨_, upd_same, by rw [List.length_map, sizeLine_eq]; omega, B', ts ++ [q], kk, rfl, by rw [Mm.sumOf_take_succ hn]; simp, Same.trans sB s1, h1, ?_, ?_, fun t ht => ?_, hk1, fun m hm => ?_⟩
      · rw [upd_upd]
        simp
      · have e := rowsOf_get p (a := 0) hn
        rw [Nat.zero_add] at e
        rw [take_snoc e]
        exact Paired.snoc (Paired.imp' (fun _ _ z => RowAt.same s1 z) hts) hrow'
      · rcases List.mem_append.mp ht with ht | ht
        · exact hfr t ht
        · simp at ht
          subst ht
          exact free_of sB (upd_none.mp hq).2
      · have := hk2 m hm
        rw [Mm.sumOf_take_succ hn]
        omega
    · rintro σ H' ⟨B, ts, kf, v5, v6, rfl, sB, hB, rfl, hts, hfr, hkf, hle⟩
      simp_arith only []
      rw [hlen, show (rowsOf p bars 0).take bars.length = rowsOf p bars 0 from List.take_of_length_le (by rw [rowsOf_len]; exact Nat.le_refl _)] at hts
      exact k _ D (Same.trans sB (Same.new hB)) hD ⟨ts, upd_same, Paired.imp' (fun _ _ z => RowAt.same (Same.new hB) z) hts, hfr⟩
theorem ok_written_empty {f : Addr} {fd : FuncData} (F : Fun K "written_empty" "written_empty" s_written_empty f fd) (T : Txt K mg c)  : FnOk P w K mg base CX0 1 f fd ["count"] (sp_written_empty K c) := by
  refine F.ok sc_written_empty (fun vs H Q E h => ?_) (fun cdv A outer s H vs Q E hr h => ?_)
  · obtain ⟨n, rfl, _⟩ := h
    rfl
  · obtain ⟨n, rfl, k⟩ := h
    refine ⟨_, (pss_cons (ps_if (pt_cmpR op_eq (pv 0) pe_int (nomark _)) (pss_one (ps_ret (pe_lst pa_nil))) pss_nil)
      (pss_one (ps_ret (pe_lst (pa_cons (pe_num T.n_EMPTY) (pa_cons (pv 0) pa_nil)))))), ?_⟩
    simp_arith only []
    split
    · rename_i h0
      refine ⟨by decide, fun q hq => ?_⟩
      have := k q hq
      rw [if_pos (by omega)] at this
      exact this
    · rename_i h0
      refine ⟨by decide, fun q hq => ?_⟩
      have := k q hq
      rw [if_neg (by omega)] at this
      exact this
theorem ok_written_part {f : Addr} {fd : FuncData} (F : Fun K "written_part" "written_part" s_written_part f fd) (T : Txt K mg c) {f_written_bars : Addr} {fd_written_bars : FuncData} (F_written_bars : Fn P w K mg base "written_bars" 3 ["bars", "player"] (sp_written_bars K c) f_written_bars fd_written_bars) {f_written_empty : Addr} {fd_written_empty : FuncData} (F_written_empty : Fn P w K mg base "written_empty" 1 ["count"] (sp_written_empty K c) f_written_empty fd_written_empty) : FnOk P w K mg base CX0 4 f fd ["bars", "player"] (sp_written_part K c) := by
  refine F.ok sc_written_part (fun vs H Q E h => ?_) (fun cdv A outer s H vs Q E hr h => ?_)
  · obtain ⟨lb, a, dx, ln, as, bars, p, rfl, _⟩ := h
    rfl
  · obtain ⟨lb, a, dx, ln, as, bars, p, rfl, hb, bo, hp, wo, k⟩ := h
    refine ⟨_, (pss_cons (ps_set (i := 2) sc_written_part.nd rfl (by first | exact Or.inl rfl | exact Or.inr rfl) (pe_lst pa_nil))
      (pss_cons (ps_set (i := 3) sc_written_part.nd rfl (by first | exact Or.inl rfl | exact Or.inr rfl) pe_int)
      (pss_cons (ps_for PassesOwn.never rfl (pi_lst (pe_fn F_written_bars (hr.mono (by decide)) (pa_cons (pv 0) (pa_cons (pv 1) pa_nil)))) (pg_name (i := 4) sc_written_part.nd rfl (by first | exact Or.inl rfl | exact Or.inr rfl)) (pss_one (ps_if (pt_cmpR op_eq (pe_callB call_len_l (by rfl) T.b_len PySem.boot_len (pa_cons (pv 4) pa_nil)) pe_int (nomark _)) (pss_one (ps_aug (i := 3) sc_written_part.nd rfl (by first | exact Or.inl rfl | exact Or.inr rfl) pe_int ip_add)) (pss_cons (ps_expr (pe_lm PySem.F.slot_list_extend PySem.F.type_list_extend mt_extend (pv 2) (pa_cons (pe_fn F_written_empty (hr.mono (by decide)) (pa_cons (pv 3) pa_nil)) pa_nil)))
      (pss_cons (ps_set (i := 3) sc_written_part.nd rfl (by first | exact Or.inl rfl | exact Or.inr rfl) pe_int)
      (pss_one (ps_for PassesOwn.never rfl (pi_lst (pv 4)) (pg_name (i := 5) sc_written_part.nd rfl (by first | exact Or.inl rfl | exact Or.inr rfl)) (pss_one (ps_expr (pe_lm PySem.F.slot_list_extend PySem.F.type_list_extend mt_extendT (pv 2) (pa_cons (pv 5) pa_nil)))))))))))
      (pss_cons (ps_expr (pe_lm PySem.F.slot_list_extend PySem.F.type_list_extend mt_extend (pv 2) (pa_cons (pe_fn F_written_empty (hr.mono (by decide)) (pa_cons (pv 3) pa_nil)) pa_nil)))
      (pss_one (ps_ret (pv 2))))))), ?_⟩
    simp_arith only []
    refine ⟨by decide, fun D hD => ⟨lb, a, dx, ln, as, bars, p, rfl, Same.new hD _ _ hb, bo, hp.same (Same.new hD), wo, fun H1 q s1 hq hrows => ?_⟩⟩
    obtain ⟨rs, hrs, hprs, hfrs⟩ := hrows
    obtain ⟨B0, sB0, hB0, e0⟩ := grown s1 hD
    have hqD := (upd_none.mp hq).1
    simp_arith only [hrs]
    have hr0 : ∀ i it, (Kct9.barsOf p bars 0)[i]? = some it → (rowsOf p bars 0)[i]? = some (if Kct9.isEmpty it = true then [] else it.map pairOf) := fun i it e => by
      have hi := (List.getElem?_eq_some_iff.mp e).1
      rw [Mm.barsOf_len] at hi
      obtain ⟨n, hn⟩ : ∃ n, bars[i]? = some n := ⟨_, List.getElem?_eq_getElem hi⟩
      rw [rowsOf_get p hn]
      rw [Mm.barsOf_get p hn] at e
      cases e
      rfl
    have hbound : (Kct9.write 0 (Kct9.barsOf p bars 0)).length ≤ 70000 := by
      have h1 := Mm.write_len (N := 513) (Kct9.barsOf p bars 0) 0 fun b' hb' => by
        obtain ⟨j, hj⟩ := List.getElem?_of_mem hb'
        have hi := (List.getElem?_eq_some_iff.mp hj).1
        rw [Mm.barsOf_len] at hi
        obtain ⟨n, hn⟩ : ∃ n, bars[j]? = some n := ⟨_, List.getElem?_eq_getElem hi⟩
        rw [Mm.barsOf_get p hn] at hj
        cases hj
        have h2 := Mm.fill_len2 p p.notes (0 + Kct9.sumOf (bars.take j)) (0 + Kct9.sumOf (bars.take j) + n)
        have h3 := wo.len
        omega
      rw [Mm.barsOf_len] at h1
      have h4 := bo.len
      have h5 : bars.length * (2 * 513 + 2) ≤ 64 * (2 * 513 + 2) := Nat.mul_le_mul_right _ h4
      omega
    have hrl : (rs.map V.ref).length = bars.length := by rw [List.length_map, Paired.length hprs, rowsOf_len]
    have hq0 : B0 q = some (.lst (rs.map V.ref)) := by
      rw [e0, upd_ne hqD] at hrs
      exact hrs
    subst e0
    have hprs0 : Paired (RowAt B0) rs (rowsOf p bars 0) := Mm.paired_mem (fun r hr row _ ⟨ts, e1, e2⟩ => by
      have hrD : r ≠ D := (upd_none.mp (hfrs r hr)).1
      rw [upd_ne hrD] at e1
      refine ⟨ts, e1, Paired.imp' (fun a' r' z => ?_) e2⟩
      have z' : upd B0 D (HO.lst []) a' = some (.tup [.int r'.1, .int r'.2]) := z
      by_cases ha : a' = D
      · rw [ha, upd_same] at z'
        cases z'
      · rw [upd_ne ha] at z'
        exact z') hprs
    refine for_list (xs := rs.map V.ref) (fun i σ H' => ∃ (B : Hp) (pt : List Nat) (em : Nat) (v4 v5 : Option V), σ = [some (.ref lb), some (.ref a), some (.ref D), some (.int em), v4, v5] ∧ Same B0 B ∧ B D = none ∧ H' = upd B D (.lst (natsV pt)) ∧ pt ++ Kct9.write em ((Kct9.barsOf p bars 0).drop i) = Kct9.write 0 (Kct9.barsOf p bars 0))
      ⟨B0, [], 0, none, none, rfl, Same.refl' B0, hB0, rfl, rfl⟩ (fun i σ H' _ ⟨B, pt, em, v4, v5, _, sB, hB, e, _⟩ => ?_) ?_ ?_
    · subst e
      exact SqL.of (by rw [upd_ne (ne_of_none (sB _ _ hq0) hB)]; exact sB _ _ hq0)
    · rintro i y σ H' hi ⟨B, pt, em, v4, v5, rfl, sB, hB, rfl, hw⟩
      obtain ⟨r, hr', rfl⟩ := map_get hi
      obtain ⟨row, hrow, ts, hts, htp⟩ := paired_get hprs0 hr'
      have hi2 : i < bars.length := by
        have := (List.getElem?_eq_some_iff.mp hr').1
        rw [List.length_map] at hrl
        omega
      obtain ⟨it, hit⟩ : ∃ it, (Kct9.barsOf p bars 0)[i]? = some it := ⟨_, List.getElem?_eq_getElem (by rw [Mm.barsOf_len]; exact hi2)⟩
      have hrow2 := hr0 i it hit
      rw [hrow] at hrow2
      cases hrow2
      have hdrop : (Kct9.barsOf p bars 0).drop i = it :: (Kct9.barsOf p bars 0).drop (i + 1) := by
        obtain ⟨l1, e1⟩ := List.getElem?_eq_some_iff.mp hit
        rw [← e1]
        exact List.drop_eq_getElem_cons l1
      rw [hdrop, Kct9.write] at hw
      have hrD : r ≠ D := ne_of_none (sB _ _ hts) hB
      have hts' : ∀ u, upd B D u r = some (.lst (ts.map V.ref)) := fun u => by
        rw [upd_ne hrD]
        exact sB _ _ hts
      simp_arith only [hts']
      have hlen := Paired.length htp
      rw [List.length_map, hlen]
      by_cases hemp : Kct9.isEmpty it = true
      · rw [if_pos hemp] at hw hlen ⊢
        rw [if_pos (by simp)]
        exact ⟨B, pt, em + 1, by omega, sB, hB, rfl, hw⟩
      · rw [if_neg hemp] at hw hlen htp ⊢
        have hnz : it ≠ [] := fun z => by
          subst z
          obtain ⟨n, hn⟩ : ∃ n, bars[i]? = some n := ⟨_, List.getElem?_eq_getElem hi2⟩
          rw [Mm.barsOf_get p hn] at hit
          have hl := Mx.fill_len p p.notes (0 + Kct9.sumOf (bars.take i)) (0 + Kct9.sumOf (bars.take i) + n) (by omega)
          have e2 := Option.some.inj hit
          rw [e2] at hl
          have := bo.pos n (List.mem_of_getElem? hn)
          simp [Mx.ilens] at hl
          omega
        have hnl : 0 < it.length := List.length_pos_iff.mpr hnz
        rw [if_neg (by rw [List.length_map]; omega)]
        refine ⟨em, rfl, fun e1 he1 => ?_⟩
        have he1' := upd_none.mp he1
        have hwl := congrArg List.length hw
        simp only [List.length_append] at hwl
        simp_arith only []
        refine ⟨_, by rw [upd_ne (Ne.symm he1'.1), upd_same], ?_, ?_⟩
        · rw [sizeLine_eq]
          simp only [natsV, List.length_map]
          split <;> simp <;> omega
        have eB : ∀ u L, upd (upd (upd B D (HO.lst (natsV pt))) e1 u) D L = upd (upd B e1 u) D L := fun u L => by
          rw [upd_swap (Ne.symm he1'.1), upd_upd]
        rw [eB, show natsV pt ++ natsV (if em = 0 then [] else [255, em]) = natsV (pt ++ (if em = 0 then [] else [255, em])) by simp [natsV]]
        have s1 : Same B (upd B e1 (HO.lst (natsV (if em = 0 then [] else [255, em])))) := Same.new he1'.2
        have h1D : (upd B e1 (HO.lst (natsV (if em = 0 then [] else [255, em])))) D = none := by
          rw [upd_ne (Ne.symm he1'.1)]
          exact hB
        generalize upd B e1 (HO.lst (natsV (if em = 0 then [] else [255, em]))) = B1 at s1 h1D ⊢
        have hts1 : ∀ u, upd B1 D u r = some (.lst (ts.map V.ref)) := fun u => by
          rw [upd_ne hrD]
          exact s1 _ _ (sB _ _ hts)
        refine ⟨_, by rw [hts1]; rfl, ?_⟩
        have hfl : it.flatMap Kct9.itemBytes = it.flatMap Kct9.itemBytes := rfl
        refine for_list (xs := ts.map V.ref) (fun j σ H' => ∃ v5, σ = [some (.ref lb), some (.ref a), some (.ref D), some (.int 0), some (.ref r), v5] ∧ H' = upd B1 D (.lst (natsV (pt ++ (if em = 0 then [] else [255, em]) ++ (it.take j).flatMap Kct9.itemBytes)))) ⟨v5, rfl, by simp⟩ (fun j σ H' _ ⟨v5, _, e⟩ => ?_) ?_ ?_
        · subst e
          exact SqL.of (hts1 _)
        · rintro j y σ H' hj ⟨v5, rfl, rfl⟩
          obtain ⟨t, ht, rfl⟩ := map_get hj
          obtain ⟨pr, hpr, htup⟩ := paired_get htp ht
          obtain ⟨x, hx, rfl⟩ := map_get hpr
          have htup' : B1 t = some (.tup [.int (pairOf x).1, .int (pairOf x).2]) := s1 _ _ (sB _ _ htup)
          have htu : ∀ u, upd B1 D u t = some (.tup [.int (pairOf x).1, .int (pairOf x).2]) := fun u => by
            rw [upd_ne (ne_of_none htup' h1D)]
            exact htup'
          simp_arith only [htu]
          have hxl : ((it.take j).flatMap Kct9.itemBytes).length + 2 ≤ (it.flatMap Kct9.itemBytes).length := by
            have e1 : it.flatMap Kct9.itemBytes = (it.take (j + 1)).flatMap Kct9.itemBytes ++ (it.drop (j + 1)).flatMap Kct9.itemBytes := by
              rw [← List.flatMap_append, List.take_append_drop]
            rw [e1, take_snoc hx, List.flatMap_append, List.length_append, List.length_append]
            have e2 : ([x].flatMap Kct9.itemBytes).length = 2 := by cases x <;> rfl
            omega
          refine ⟨?_, ?_⟩
          · rw [sizeLine_eq]
            simp only [natsV, List.length_map, List.length_append]
            omega
          · rw [take_snoc hx]
            have e3 : natsV (Kct9.itemBytes x) = [V.int (pairOf x).1, V.int (pairOf x).2] := by cases x <;> rfl
            simp only [List.flatMap_append, List.flatMap_cons, List.flatMap_nil, List.append_nil]
            rw [← e3]
            simp [natsV]
        · rintro σ H' ⟨v5, rfl, rfl⟩
          rw [List.length_map, hlen, List.length_map, List.take_length]
          refine ⟨B1, _, 0, _, _, rfl, Same.trans sB s1, h1D, rfl, ?_⟩
          rw [← hw]
          simp only [List.append_assoc]
    · rintro σ H' ⟨B, pt, em, v4, v5, rfl, sB, hB, rfl, hw⟩
      rw [hrl, List.drop_eq_nil_of_le (by rw [Mm.barsOf_len]; exact Nat.le_refl _), Kct9.write] at hw
      simp_arith only []
      refine ⟨em, rfl, fun e1 he1 => ?_⟩
      have he1' := upd_none.mp he1
      have hwl := congrArg List.length hw
      simp only [List.length_append] at hwl
      simp_arith only []
      refine ⟨_, by rw [upd_ne (Ne.symm he1'.1), upd_same], ?_, ?_⟩
      · rw [sizeLine_eq]
        simp only [natsV, List.length_map]
        omega
      · have sm : Same H (upd (upd (upd B D (.lst (natsV pt))) e1 (.lst (natsV (if em = 0 then [] else [255, em])))) D (.lst (natsV pt ++ natsV (if em = 0 then [] else [255, em])))) := by
          rw [upd_swap (Ne.symm he1'.1), upd_upd]
          have sH : Same H B := Same.trans (fun b o e => by
            have := sB0 b o e
            exact this) sB
          refine Same.upd' (Same.upd' sH (free_of sH he1'.2)) hD
        refine k _ D sm hD ?_
        show upd _ D _ D = _
        rw [upd_same, ← hw]
        simp [natsV]
theorem ok_silent_about_ends {f : Addr} {fd : FuncData} (F : Fun K "silent_about_ends" "silent_about_ends" s_silent_about_ends f fd) (T : Txt K mg c)  : FnOk P w K mg base CX0 1 f fd ["bars", "notes"] (sp_silent_about_ends K c) := by
  refine F.ok sc_silent_about_ends (fun vs H Q E h => ?_) (fun cdv A outer s H vs Q E hr h => ?_)
  · obtain ⟨lb, l, as, bars, ns, rfl, _⟩ := h
    rfl
  · obtain ⟨lb, l, as, bars, ns, rfl, hb, bo, hn, ho, hen, hlen, k⟩ := h
    refine ⟨_, (pss_cons (ps_set (i := 2) sc_silent_about_ends.nd rfl (by first | exact Or.inl rfl | exact Or.inr rfl) (pe_lst pa_nil))
      (pss_cons (ps_set (i := 3) sc_silent_about_ends.nd rfl (by first | exact Or.inl rfl | exact Or.inr rfl) (pe_callB (call_sum_l rfl) (by rfl) T.b_sum PyProof.Rows.boot_sum (pa_cons (pv 0) pa_nil)))
      (pss_cons (ps_set (i := 4) sc_silent_about_ends.nd rfl (by first | exact Or.inl rfl | exact Or.inr rfl) pe_int)
      (pss_cons (ps_set (i := 5) sc_silent_about_ends.nd rfl (by first | exact Or.inl rfl | exact Or.inr rfl) pe_int)
      (pss_cons (ps_set (i := 6) sc_silent_about_ends.nd rfl (by first | exact Or.inl rfl | exact Or.inr rfl) pe_int)
      (pss_cons (ps_for PassesOwn.never rfl (pi_lst (pv 0)) (pg_name (i := 7) sc_silent_about_ends.nd rfl (by first | exact Or.inl rfl | exact Or.inr rfl)) (pss_cons (ps_aug (i := 5) sc_silent_about_ends.nd rfl (by first | exact Or.inl rfl | exact Or.inr rfl) (pv 7) ip_add)
      (pss_cons (ps_while PassesOwn.never (pw_and (pt_cmpR op_lt (pv 6) (pe_callB call_len_l (by rfl) T.b_len PySem.boot_len (pa_cons (pv 1) pa_nil)) (nomark _)) (pw_and1 (pt_cmpR op_lt (pe_fld (pe_ix ix_lst (pv 1) (pv 6) (fun _ _ => rfl)) rfl) (pv 5) (nomark _)))).pt (pss_cons (ps_set (i := 4) sc_silent_about_ends.nd rfl (by first | exact Or.inl rfl | exact Or.inr rfl) (pe_fld (pe_ix ix_lst (pv 1) (pv 6) (fun _ _ => rfl)) rfl))
      (pss_one (ps_aug (i := 6) sc_silent_about_ends.nd rfl (by first | exact Or.inl rfl | exact Or.inr rfl) pe_int ip_add))))
      (pss_cons (ps_set (i := 8) sc_silent_about_ends.nd rfl (by first | exact Or.inl rfl | exact Or.inr rfl) (pe_ifExp (pt_cmpR op_lt (pv 6) (pe_callB call_len_l (by rfl) T.b_len PySem.boot_len (pa_cons (pv 1) pa_nil)) (nomark _)) (pe_fld (pe_ix ix_lst (pv 1) (pv 6) (fun _ _ => rfl)) rfl) (pv 3)))
      (pss_one (ps_expr (pe_lm PySem.F.slot_list_append PySem.F.type_list_append mt_append (pv 2) (pa_cons (pe_ifExp (pt_cmpR op_gt (pv 4) (pv 5) (nomark _)) pe_int (pe_op op_sub (pv 8) (pv 4))) pa_nil))))))))
      (pss_one (ps_ret (pv 2))))))))), ?_⟩
    have hb' : H lb = some (.lst (natsV bars)) := hb
    simp_arith only [hb', hn.lst]
    refine ⟨by decide, fun D hD => ?_⟩
    have hbD : ∀ u, upd H D u lb = some (.lst (natsV bars)) := fun u => by
      rw [upd_ne (ne_of_none hb' hD)]
      exact hb'
    have hnD : ∀ u, upd H D u l = some (.lst (as.map V.ref)) := fun u => by
      rw [upd_ne (ne_of_none hn.lst hD)]
      exact hn.lst
    have hl := Paired.length hn.nts
    refine ⟨_, by rw [hbD]; rfl, bars.map (fun n : Nat => (n : Int)), by simp [natsV], _, by rw [hbD]; rfl, ?_⟩
    have hsum : (bars.map fun n : Nat => (n : Int)).sum = (Kct9.sumOf bars : Int) := by
      clear hb hb' bo hen k hbD
      induction bars with
      | nil => rfl
      | cons a l ih =>
        rw [List.map_cons, List.sum_cons, ih, Kct9.sumOf]
        omega
    rw [hsum]
    have hblen := bo.len
    have hbl2 : (natsV bars).length = bars.length := by simp [natsV]
    refine for_list (xs := natsV bars) (fun i σ H' => ∃ (cs : List Nat) (kk : Nat) (sf : Nat) (v7 v8 : Option V), σ = [some (.ref lb), some (.ref l), some (.ref D), some (.int (Kct9.sumOf bars : Nat)), some (.int sf), some (.int (Kct9.sumOf (bars.take i) : Nat)), some (.int kk), v7, v8] ∧ H' = upd H D (.lst (natsV cs)) ∧ cs.length = i ∧ i ≤ bars.length ∧ kk ≤ ns.length ∧
        (∀ n ∈ ns.take kk, n.start < Kct9.sumOf (bars.take i)) ∧ sf = (match (ns.take kk).getLast? with | none => 0 | some z => Kct9.ends z) ∧
        (∀ j : Nat, j < i → cs[j]? = some (Kct9.before ns (Kct9.sumOf (bars.take (j + 1))) + Kct9.behind ns (Kct9.sumOf (bars.take (j + 1))) (Kct9.sumOf bars))))
      ⟨[], 0, 0, none, none, rfl, rfl, rfl, Nat.zero_le _, Nat.zero_le _, by simp, rfl, fun j h => absurd h (Nat.not_lt_zero _)⟩ (fun i σ H' _ ⟨cs, kk, sf, v7, v8, _, e, _⟩ => ?_) ?_ ?_
    · subst e
      exact SqL.of (hbD _)
    · rintro i y σ H' hi ⟨cs, kk, sf, v7, v8, rfl, rfl, hcl, hib, hkl, hst, hsf, hcs⟩
      obtain ⟨n, hni, rfl⟩ := map_get hi
      have hn1 := bo.pos n (List.mem_of_getElem? hni)
      have hil := (List.getElem?_eq_some_iff.mp hni).1
      have hT : ((Kct9.sumOf (bars.take i) : Nat) : Int) + (n : Int) = ((Kct9.sumOf (bars.take (i + 1)) : Nat) : Int) := by
        rw [Mm.sumOf_take_succ hni]
        omega
      simp_arith only []
      rw [hT]
      refine while_by (fun σ H' => H' = upd H D (.lst (natsV cs)) ∧ ∃ (kk : Nat) (sf : Nat), σ = [some (.ref lb), some (.ref l), some (.ref D), some (.int (Kct9.sumOf bars : Nat)), some (.int sf), some (.int (Kct9.sumOf (bars.take (i + 1)) : Nat)), some (.int kk), some (.int n), v8] ∧ kk ≤ ns.length ∧
          (∀ n ∈ ns.take kk, n.start < Kct9.sumOf (bars.take (i + 1))) ∧ sf = (match (ns.take kk).getLast? with | none => 0 | some z => Kct9.ends z))
        (fun σ _ => match σ with | [_, _, _, _, _, _, some (.int k), _, _] => ns.length - k.toNat | _ => 0) ⟨rfl, kk, sf, rfl, hkl, fun m hm => Nat.lt_of_lt_of_le (hst m hm) (by rw [Mm.sumOf_take_succ hni]; omega), hsf⟩ ?_ (mo_and (mo_test (mo_op mo_I0 mo_var (mo_len (mo_cons mo_var mo_nil)))) (mo_test (mo_op mo_I0 (mo_fld (mo_op mo_ixl mo_var mo_var)) mo_var)))
      rintro σ H' ⟨rfl, kk, sf, rfl, hkl, hst, hsf⟩
      simp_arith only [hnD]
      rw [List.length_map, hl]
      have hch := List.pairwise_iff_getElem.mp ho.ch
      have hTle : Kct9.sumOf (bars.take (i + 1)) ≤ Kct9.sumOf bars := by
        conv => rhs; rw [← List.take_append_drop (i + 1) bars, Mx.sumOf_append]
        omega
      split
      · rename_i h1
        obtain ⟨z, hzn⟩ : ∃ z, ns[kk]? = some z := ⟨_, List.getElem?_eq_getElem (by omega)⟩
        obtain ⟨az, haz, dz, hnz⟩ := paired_get' hn.nts hzn
        have at1 : atI (as.map V.ref) (kk : Int) = some (V.ref az) := atI_nat (by rw [List.getElem?_map, haz]; rfl)
        have hnz' : ∀ u, upd H D u az = some (.ins c.Note dz (fs_Note (.int z.start) (.int (Kct9.ends z)) (.int z.high))) := fun u => by
          rw [upd_ne (ne_of_none hnz hD)]
          exact hnz
        simp_arith only [hnD, at1, hnz', T.c_Note, T.a_Note_start, T.a_Note_end, l_Note_start, l_Note_end]
        split
        · rename_i h2
          refine ⟨⟨kk + 1, Kct9.ends z, rfl, by omega, by omega, fun m hm => ?_, ?_⟩, by omega⟩
          · rw [take_snoc hzn] at hm
            rcases List.mem_append.mp hm with hm | hm
            · exact hst m hm
            · simp at hm
              subst hm
              omega
          · rw [take_snoc hzn, List.getLast?_concat]
        · rename_i h2
          have hdrop : ns.drop kk = z :: ns.drop (kk + 1) := by
            obtain ⟨l1, e1⟩ := List.getElem?_eq_some_iff.mp hzn
            rw [← e1]
            exact List.drop_eq_getElem_cons l1
          have hlate : ∀ m ∈ ns.drop kk, Kct9.sumOf (bars.take (i + 1)) ≤ m.start := fun m hm => by
            obtain ⟨j, hj⟩ := List.getElem?_of_mem hm
            rw [List.getElem?_drop] at hj
            obtain ⟨l1, e1⟩ := List.getElem?_eq_some_iff.mp hzn
            obtain ⟨l2, e2⟩ := List.getElem?_eq_some_iff.mp hj
            by_cases h0 : j = 0
            · subst h0
              simp only [Nat.add_zero] at e2
              rw [e1] at e2
              subst e2
              omega
            · have := hch kk (kk + j) l1 l2 (by omega)
              rw [e1, e2] at this
              unfold Kct9.ends at this
              omega
          have hsil := Mm.silent (st := z.start) ho.ch ho.pos hen hTle hst hlate hsf (by rw [hdrop]; rfl)
          have hcs2 : ∀ v : Nat, Kct9.before ns (Kct9.sumOf (bars.take (i + 1))) + Kct9.behind ns (Kct9.sumOf (bars.take (i + 1))) (Kct9.sumOf bars) = v → ∀ j : Nat, j < i + 1 → (cs ++ [v])[j]? = some (Kct9.before ns (Kct9.sumOf (bars.take (j + 1))) + Kct9.behind ns (Kct9.sumOf (bars.take (j + 1))) (Kct9.sumOf bars)) := fun v hv j hj => by
            by_cases hji : j = i
            · subst hji
              rw [List.getElem?_append_right (by omega), hcl, Nat.sub_self, hv]
              rfl
            · rw [List.getElem?_append_left (by omega)]
              exact hcs j (by omega)
          split
          · rename_i h3
            rw [if_pos (by omega)] at hsil
            exact ⟨by simp [natsV, sizeLine_eq]; omega, cs ++ [0], kk, sf, rfl, rfl, by simp [natsV], by simp [hcl], by omega, hkl, hst, hsf, hcs2 0 hsil⟩
          · rename_i h3
            rw [if_neg (by omega)] at hsil
            have hle : sf ≤ z.start := by have := hlate z (by rw [hdrop]; simp); omega
            have e9 : ((z.start : Nat) : Int) - (sf : Int) = ((z.start - sf : Nat) : Int) := by omega
            rw [e9]
            exact ⟨by simp [natsV, sizeLine_eq]; omega, cs ++ [z.start - sf], kk, sf, rfl, rfl, by simp [natsV], by simp [hcl], by omega, hkl, hst, hsf, hcs2 _ hsil⟩
      · rename_i h1
        have hlate : ∀ m ∈ ns.drop kk, Kct9.sumOf (bars.take (i + 1)) ≤ m.start := fun m hm => by
          rw [List.drop_eq_nil_of_le (by omega)] at hm
          cases hm
        have hsil := Mm.silent (st := Kct9.sumOf bars) ho.ch ho.pos hen hTle hst hlate hsf (by rw [List.drop_eq_nil_of_le (by omega)]; rfl)
        have hcs2 : ∀ v : Nat, Kct9.before ns (Kct9.sumOf (bars.take (i + 1))) + Kct9.behind ns (Kct9.sumOf (bars.take (i + 1))) (Kct9.sumOf bars) = v → ∀ j : Nat, j < i + 1 → (cs ++ [v])[j]? = some (Kct9.before ns (Kct9.sumOf (bars.take (j + 1))) + Kct9.behind ns (Kct9.sumOf (bars.take (j + 1))) (Kct9.sumOf bars)) := fun v hv j hj => by
          by_cases hji : j = i
          · subst hji
            rw [List.getElem?_append_right (by omega), hcl, Nat.sub_self, hv]
            rfl
          · rw [List.getElem?_append_left (by omega)]
            exact hcs j (by omega)
        split
        · rename_i h3
          rw [if_pos (by omega)] at hsil
          exact ⟨by simp [natsV, sizeLine_eq]; omega, cs ++ [0], kk, sf, rfl, rfl, by simp [natsV], by simp [hcl], by omega, hkl, hst, hsf, hcs2 0 hsil⟩
        · rename_i h3
          rw [if_neg (by omega)] at hsil
          have hle : sf ≤ Kct9.sumOf bars := by omega
          have e9 : ((Kct9.sumOf bars : Nat) : Int) - (sf : Int) = ((Kct9.sumOf bars - sf : Nat) : Int) := by omega
          rw [e9]
          exact ⟨by simp [natsV, sizeLine_eq]; omega, cs ++ [Kct9.sumOf bars - sf], kk, sf, rfl, rfl, by simp [natsV], by simp [hcl], by omega, hkl, hst, hsf, hcs2 _ hsil⟩
    · rintro σ H' ⟨cs, kk, sf, v7, v8, rfl, rfl, hcl, hib, hkl, hst, hsf, hcs⟩
      rw [hbl2] at hcl hcs
      simp_arith only []
      exact k _ D cs (Same.new hD) hD upd_same hcl hcs
theorem cut_last (xs : List V) : cutV xs none (some (-1)) = xs.dropLast := by
  unfold cutV
  have e1 : HT.sIx xs.length 0 none = 0 := rfl
  have e2 : HT.sIx xs.length xs.length (some (-1)) = xs.length - 1 := by
    unfold HT.sIx
    simp
    omega
  rw [e1, e2]
  simp [List.dropLast_eq_take]
theorem ok_places_to_end {f : Addr} {fd : FuncData} (F : Fun K "places_to_end" "places_to_end" s_places_to_end f fd) (T : Txt K mg c) {f_silent_about_ends : Addr} {fd_silent_about_ends : FuncData} (F_silent_about_ends : Fn P w K mg base "silent_about_ends" 1 ["bars", "notes"] (sp_silent_about_ends K c) f_silent_about_ends fd_silent_about_ends) : FnOk P w K mg base CX0 2 f fd ["bars", "notes", "rest"] (sp_places_to_end K c) := by
  refine F.ok sc_places_to_end (fun vs H Q E h => ?_) (fun cdv A outer s H vs Q E hr h => ?_)
  · obtain ⟨lb, l, as, bars, ns, rest, rfl, _⟩ := h
    rfl
  · obtain ⟨lb, l, as, bars, ns, rest, rfl, hb, bo, hn, ho, hen, hlen, k⟩ := h
    refine ⟨_, (pss_cons (ps_setLc (i := 3) rfl sc_places_to_end.nd rfl rfl rfl (pi_lst (pe_fn F_silent_about_ends (hr.mono (by decide)) (pa_cons (pv 0) (pa_cons (pv 1) pa_nil)))) (blkOk_by (own := [("count", 4)]) (by with_unfolding_all rfl)) (fun _ _ _ _ _ => pg_name (i := 4) sc_places_to_end.nd rfl (Or.inl rfl)) (fun _ _ _ _ _ => pts_nil) (fun _ _ _ _ _ => (pe_cmpR op_ge (pv 4) (pv 2) (nomark _))))
      (pss_one (ps_ret (pe_op op_cat (pe_slice sl_lst (pv 3) po_none (po_some (pe_un un_neg pe_int))) (pe_lst (pa_cons pe_bl pa_nil)))))), ?_⟩
    simp_arith only []
    refine ⟨lb, l, as, bars, ns, rfl, hb, bo, hn, ho, hen, hlen, fun H1 q cs s1 hq hcs hcl hc => ⟨q, rfl, ?_⟩⟩
    have hcs' : H1 q = some (.lst (natsV cs)) := hcs
    have hbl := bo.len
    simp_arith only [hcs']
    intro D hD
    refine lc_list (xs := natsV cs) (fun i H' => H' = upd H1 D (.lst ((cs.take i).map fun x => V.bl (decide (rest ≤ x))))) rfl (fun i H' _ e => ?_) ?_ ?_
    · subst e
      exact SqL.of (by rw [upd_ne (ne_of_none hcs' hD)]; exact hcs')
    · rintro i y H' hi rfl
      obtain ⟨x, hx, rfl⟩ := map_get hi
      have hil := (List.getElem?_eq_some_iff.mp hx).1
      simp_arith only [wipe]
      refine ⟨by simp [sizeLine_eq]; omega, ?_⟩
      rw [take_snoc hx]
      simp
    · rintro H' rfl
      simp_arith only []
      have e0 : (natsV cs).length = cs.length := by simp [natsV]
      rw [e0, List.take_length]
      intro q1 hq1
      refine ⟨by decide, fun q2 hq2 => ⟨_, by rw [upd_ne (Ne.symm hq2.1), upd_same], ?_, fun q3 hq3 => ?_⟩⟩
      · rw [cut_last, sizeLine_eq]
        simp
        omega
      · rw [cut_last]
        have sm : Same H (upd (upd (upd (upd H1 D (.lst (cs.map fun x => V.bl (decide (rest ≤ x))))) q1 (.lst (cs.map fun x => V.bl (decide (rest ≤ x))).dropLast)) q2 (.lst [V.bl true])) q3 (.lst ((cs.map fun x => V.bl (decide (rest ≤ x))).dropLast ++ [V.bl true]))) := by
          have f1 := free_of s1 hD
          have f2 := free_of s1 hq1.2
          have f3 := free_of s1 hq2.2.2
          have f4 := free_of s1 hq3.2.2.2
          exact Same.upd' (Same.upd' (Same.upd' (Same.upd' s1 f1) f2) f3) f4
        refine k _ q3 ((cs.map fun x => decide (rest ≤ x)).dropLast ++ [true]) sm (free_of s1 hq3.2.2.2) ?_ fun i hi => ?_
        · show upd _ q3 _ q3 = _
          rw [upd_same, List.map_append, List.map_dropLast, List.map_map]
          rfl
        · have hci := hc i hi
          by_cases hl : i + 1 = bars.length
          · have e1 : ((cs.map fun x => decide (rest ≤ x)).dropLast).length = i := by
              rw [List.length_dropLast, List.length_map]
              omega
            rw [List.getElem?_append_right (by omega), e1, Nat.sub_self]
            simp [hl]
          · have e1 : ((cs.map fun x => decide (rest ≤ x)).dropLast).length = cs.length - 1 := by
              rw [List.length_dropLast, List.length_map]
            rw [List.getElem?_append_left (by omega), List.getElem?_dropLast, if_pos (by rw [List.length_map]; omega), List.getElem?_map, hci]
            simp [hl]
theorem row_at {H : Hp} {p : Kct9.Player} {s : Kct9.Abs} {ts : List Addr} (bo : BOk s.bars) (htp : Paired (RowAt H) ts (rowsOf p s.bars 0)) {j : Nat} (hj : j < s.bars.length) : ∃ (it : List Kct9.Item) (t : Addr) (us : List Addr), (Kct9.barsOf p s.bars 0)[j]? = some it ∧ atI (ts.map V.ref) (j : Int) = some (V.ref t) ∧ H t = some (.lst (us.map V.ref)) ∧ us.length = (if Kct9.isEmpty it = true then 0 else it.length) ∧ 0 < it.length := by
  obtain ⟨n, hn⟩ : ∃ n, s.bars[j]? = some n := ⟨_, List.getElem?_eq_getElem hj⟩
  have h1 := rowsOf_get p (a := 0) hn
  have h2 := Mm.barsOf_get p (a := 0) hn
  obtain ⟨t, ht, us, hus, hup⟩ := paired_get' htp h1
  refine ⟨_, t, us, h2, atI_nat (by rw [List.getElem?_map, ht]; rfl), hus, ?_, ?_⟩
  · rw [Paired.length hup]
    unfold rowOf
    split
    · rfl
    · rw [List.length_map]
  · have hl := Mx.fill_len p p.notes (0 + Kct9.sumOf (s.bars.take j)) (0 + Kct9.sumOf (s.bars.take j) + n) (by omega)
    have := bo.pos n (List.mem_of_getElem? hn)
    cases e : Kct9.fill p p.notes (0 + Kct9.sumOf (s.bars.take j)) (0 + Kct9.sumOf (s.bars.take j) + n) with
    | nil =>
      rw [e] at hl
      simp [Mx.ilens] at hl
      omega
    | cons x l => simp
theorem isPage_iff {s : Kct9.Abs} {p : Kct9.Player} {most rest a e : Nat} : Kct9.isPage s p most rest a e = true ↔ a < e ∧ Kct9.weight false (((Kct9.barsOf p s.bars 0).drop a).take (e - a)) ≤ most ∧ (e = s.bars.length ∨ Kct9.turns s p rest e = true) := by
  unfold Kct9.isPage
  simp [and_assoc]
theorem isPage_no {s : Kct9.Abs} {p : Kct9.Player} {most rest a e : Nat} (h : ¬ (a < e ∧ Kct9.weight false (((Kct9.barsOf p s.bars 0).drop a).take (e - a)) ≤ most ∧ (e = s.bars.length ∨ Kct9.turns s p rest e = true))) : Kct9.isPage s p most rest a e = false := by
  cases e2 : Kct9.isPage s p most rest a e with
  | false => rfl
  | true => exact absurd (isPage_iff.mp e2) h
theorem fur_next {f : Nat → Nat → Bool} {a m fu : Nat} (h : Furthest f a m fu) (hn : f a (m + 1) = false) : Furthest f a (m + 1) fu := by
  rcases h with ⟨rfl, h⟩ | ⟨h1, h2, h3, h4⟩
  · refine .inl ⟨rfl, fun e he => ?_⟩
    by_cases h5 : e = m + 1
    · rw [h5]
      exact hn
    · exact h e (by omega)
  · refine .inr ⟨h1, by omega, h3, fun e he he2 => ?_⟩
    by_cases h5 : e = m + 1
    · rw [h5]
      exact hn
    · exact h4 e he (by omega)
theorem fur_end {f : Nat → Nat → Bool} {a m n fu : Nat} (h : Furthest f a m fu) (hmn : m ≤ n) (hn : ∀ e, m < e → e ≤ n → f a e = false) : Furthest f a n fu := by
  rcases h with ⟨rfl, h⟩ | ⟨h1, h2, h3, h4⟩
  · refine .inl ⟨rfl, fun e he => ?_⟩
    by_cases h5 : e ≤ m
    · exact h e h5
    · exact hn e (by omega) he
  · refine .inr ⟨h1, by omega, h3, fun e he he2 => ?_⟩
    by_cases h5 : e ≤ m
    · exact h4 e he h5
    · exact hn e (by omega) he2
theorem ok_furthest_end {f : Addr} {fd : FuncData} (F : Fun K "furthest_end" "furthest_end" s_furthest_end f fd) (T : Txt K mg c)  : FnOk P w K mg base CX0 1 f fd ["rows", "places", "begin", "most"] (sp_furthest_end K c) := by
  refine F.ok sc_furthest_end (fun vs H Q E h => ?_) (fun cdv A outer s H vs Q E hr h => ?_)
  · obtain ⟨lr, lb, p, s, bs, a, most, rest, rfl, _⟩ := h
    rfl
  · obtain ⟨lr, lb, p, s, bs, a, most, rest, rfl, ⟨ts, hts, htp⟩, hb, bo, ha, hbs, k⟩ := h
    refine ⟨_, (pss_cons (ps_set (i := 4) sc_furthest_end.nd rfl (by first | exact Or.inl rfl | exact Or.inr rfl) (pv 2))
      (pss_cons (ps_set (i := 5) sc_furthest_end.nd rfl (by first | exact Or.inl rfl | exact Or.inr rfl) pe_int)
      (pss_cons (ps_for PassesOwn.never rfl (pi_range2 rfl T.b_range (pa_cons (pv 2) (pa_cons (pe_callB call_len_l (by rfl) T.b_len PySem.boot_len (pa_cons (pv 0) pa_nil)) pa_nil))) (pg_name (i := 6) sc_furthest_end.nd rfl (by first | exact Or.inl rfl | exact Or.inr rfl)) (pss_cons (ps_if (pt_cmpR op_gt (pe_callB call_len_l (by rfl) T.b_len PySem.boot_len (pa_cons (pe_ix ix_lst (pv 0) (pv 6) (fun _ _ => rfl)) pa_nil)) pe_int (nomark _)) (pss_one (ps_aug (i := 5) sc_furthest_end.nd rfl (by first | exact Or.inl rfl | exact Or.inr rfl) (pe_callB call_len_l (by rfl) T.b_len PySem.boot_len (pa_cons (pe_ix ix_lst (pv 0) (pv 6) (fun _ _ => rfl)) pa_nil)) ip_add)) (pss_one (ps_if (pw_or (pt_cmpR op_eq (pv 6) (pv 2) (nomark _)) (pw_or1 (pt_cmpR op_gt (pe_callB call_len_l (by rfl) T.b_len PySem.boot_len (pa_cons (pe_ix ix_lst (pv 0) (pe_op op_sub (pv 6) pe_int) (fun _ _ => rfl)) pa_nil)) pe_int (nomark _)))).pt (pss_one (ps_aug (i := 5) sc_furthest_end.nd rfl (by first | exact Or.inl rfl | exact Or.inr rfl) pe_int ip_add)) pss_nil)))
      (pss_cons (ps_if (pt_cmpR op_gt (pv 5) (pv 3) (nomark _)) (pss_one ps_break) pss_nil)
      (pss_one (ps_if (pt_val (pe_ix ix_lst (pv 1) (pv 6) (fun _ _ => rfl))) (pss_one (ps_set (i := 4) sc_furthest_end.nd rfl (by first | exact Or.inl rfl | exact Or.inr rfl) (pe_op op_add (pv 6) pe_int))) pss_nil)))))
      (pss_one (ps_ret (pv 4)))))), ?_⟩
    simp_arith only [hts]
    have hb' : H lb = some (.lst (bs.map V.bl)) := hb
    have hl := bo.len
    have hrl : ts.length = s.bars.length := by rw [Paired.length htp, rowsOf_len]
    rw [List.length_map, hrl]
    refine ⟨by omega, by omega, by omega, by omega, ?_⟩
    have en : ((s.bars.length : Int) - (a : Int)).toNat = s.bars.length - a := by omega
    rw [en]
    refine for_range (fun j σ H' => H' = H ∧ ∃ (fu : Nat) (v6 : Option V), σ = [some (.ref lr), some (.ref lb), some (.int a), some (.int most), some (.int fu), some (.int (Kct9.weight false (((Kct9.barsOf p s.bars 0).drop a).take j) : Nat)), v6] ∧ Kct9.weight false (((Kct9.barsOf p s.bars 0).drop a).take j) ≤ most ∧ Furthest (Kct9.isPage s p most rest) a (a + j) fu)
      ⟨rfl, a, none, by simp [Kct9.weight], by simp [Kct9.weight], .inl ⟨rfl, fun e he => isPage_no (by omega)⟩⟩ ?_ ?_
    · rintro j σ H' hj ⟨rfl, fu, v6, rfl, hw, hfu⟩
      obtain ⟨it, t, us, hit, hat, hus, hul, hpos⟩ := row_at bo htp (j := a + j) (by omega)
      have ej : (a : Int) + (j : Int) = ((a + j : Nat) : Int) := by omega
      rw [ej]
      have htk : ((Kct9.barsOf p s.bars 0).drop a).take (j + 1) = ((Kct9.barsOf p s.bars 0).drop a).take j ++ [it] := take_snoc (by rw [List.getElem?_drop]; exact hit)
      have hws := Mm.weight_snoc it (((Kct9.barsOf p s.bars 0).drop a).take j) false
      rw [← htk] at hws
      have hbj := hbs (a + j) (by omega)
      have atb : atI (bs.map V.bl) ((a + j : Nat) : Int) = some (V.bl (decide (a + j + 1 = s.bars.length) || Kct9.turns s p rest (a + j + 1))) := atI_nat (by rw [List.getElem?_map, hbj]; rfl)
      have tail : ∀ (W : Nat), W = Kct9.weight false (((Kct9.barsOf p s.bars 0).drop a).take (j + 1)) →
          if (most : Int) < (W : Int) then Q (.int fu) H' else
            if (decide (a + j + 1 = s.bars.length) || Kct9.turns s p rest (a + j + 1)) = true then (∃ fu_1 : Nat, ((a + j : Nat) : Int) + 1 = (fu_1 : Int) ∧ (W : Int) = ((Kct9.weight false (((Kct9.barsOf p s.bars 0).drop a).take (j + 1)) : Nat) : Int) ∧ Kct9.weight false (((Kct9.barsOf p s.bars 0).drop a).take (j + 1)) ≤ most ∧ Furthest (Kct9.isPage s p most rest) a (a + (j + 1)) fu_1)
            else (∃ fu_1 : Nat, (fu : Int) = (fu_1 : Int) ∧ (W : Int) = ((Kct9.weight false (((Kct9.barsOf p s.bars 0).drop a).take (j + 1)) : Nat) : Int) ∧ Kct9.weight false (((Kct9.barsOf p s.bars 0).drop a).take (j + 1)) ≤ most ∧ Furthest (Kct9.isPage s p most rest) a (a + (j + 1)) fu_1) := by
        intro W hW
        split
        · rename_i h1
          refine k fu (fur_end hfu (by omega) fun e he he2 => isPage_no fun ⟨_, z, _⟩ => ?_)
          have := Mm.weight_take_mono ((Kct9.barsOf p s.bars 0).drop a) false (i := j + 1) (j := e - a) (by omega)
          omega
        · rename_i h1
          have hwm : Kct9.weight false (((Kct9.barsOf p s.bars 0).drop a).take (j + 1)) ≤ most := by omega
          have e1 : a + (j + 1) - a = j + 1 := by omega
          split
          · rename_i h2
            refine ⟨a + j + 1, by omega, by omega, hwm, .inr ⟨by omega, by omega, isPage_iff.mpr ⟨by omega, ?_, ?_⟩, fun e he he2 => by omega⟩⟩
            · rw [show a + j + 1 - a = j + 1 by omega]
              exact hwm
            · simpa using h2
          · rename_i h2
            refine ⟨fu, rfl, by omega, hwm, fur_next hfu (isPage_no fun ⟨_, _, z⟩ => h2 ?_)⟩
            simpa using z
      simp_arith only [hts, hat, hus, hb', atb]
      rw [List.length_map, hul]
      by_cases hemp : Kct9.isEmpty it = true
      · rw [if_pos hemp, if_neg (by simp)]
        rw [if_pos hemp] at hws
        split
        · rename_i h0
          have hj0 : j = 0 := by omega
          subst hj0
          exact tail (Kct9.weight false (((Kct9.barsOf p s.bars 0).drop a).take 0) + 1) (by rw [hws]; rfl)
        · rename_i h0
          obtain ⟨it2, t2, us2, hit2, hat2, hus2, hul2, hpos2⟩ := row_at bo htp (j := a + j - 1) (by omega)
          have ej2 : ((a + j : Nat) : Int) - 1 = ((a + j - 1 : Nat) : Int) := by omega
          have hlast : (((Kct9.barsOf p s.bars 0).drop a).take j).getLast? = some it2 := by
            have e1 : j = (j - 1) + 1 := by omega
            rw [e1, take_snoc (x := it2) (by rw [List.getElem?_drop, show a + (j - 1) = a + j - 1 by omega]; exact hit2), List.getLast?_concat]
          rw [hlast] at hws
          rw [ej2]
          simp_arith only [hat2, hus2]
          rw [List.length_map, hul2]
          by_cases hemp2 : Kct9.isEmpty it2 = true
          · rw [if_pos hemp2, if_neg (by simp)]
            rw [if_pos hemp2] at hws
            exact tail (Kct9.weight false (((Kct9.barsOf p s.bars 0).drop a).take j)) (by rw [hws]; rfl)
          · rw [if_neg hemp2, if_pos (by omega)]
            rw [if_neg hemp2] at hws
            exact tail (Kct9.weight false (((Kct9.barsOf p s.bars 0).drop a).take j) + 1) (by rw [hws])
      · rw [if_neg hemp, if_pos (by omega)]
        rw [if_neg hemp] at hws
        exact tail (Kct9.weight false (((Kct9.barsOf p s.bars 0).drop a).take j) + it.length) (by rw [hws])
    · rintro σ H' ⟨rfl, fu, v6, rfl, hw, hfu⟩
      simp_arith only []
      rw [show a + (s.bars.length - a) = s.bars.length by omega] at hfu
      exact k fu hfu
theorem ok_page_ends {f : Addr} {fd : FuncData} (F : Fun K "page_ends" "page_ends" s_page_ends f fd) (T : Txt K mg c) {f_furthest_end : Addr} {fd_furthest_end : FuncData} (F_furthest_end : Fn P w K mg base "furthest_end" 1 ["rows", "places", "begin", "most"] (sp_furthest_end K c) f_furthest_end fd_furthest_end) {f_places_to_end : Addr} {fd_places_to_end : FuncData} (F_places_to_end : Fn P w K mg base "places_to_end" 2 ["bars", "notes", "rest"] (sp_places_to_end K c) f_places_to_end fd_places_to_end) {f_written_bars : Addr} {fd_written_bars : FuncData} (F_written_bars : Fn P w K mg base "written_bars" 3 ["bars", "player"] (sp_written_bars K c) f_written_bars fd_written_bars) : FnOk P w K mg base CX0 4 f fd ["bars", "player", "most", "rest"] (sp_page_ends K c) := by
  refine F.ok sc_page_ends (fun vs H Q E h => ?_) (fun cdv A outer s H vs Q E hr h => ?_)
  · obtain ⟨lb, a, dx, ln, as, s, p, most, rest, rfl, _⟩ := h
    rfl
  · obtain ⟨lb, a, dx, ln, as, s, p, most, rest, rfl, hb, bo, hp, wo, hen, k⟩ := h
    refine ⟨_, (pss_cons (ps_set (i := 4) sc_page_ends.nd rfl (by first | exact Or.inl rfl | exact Or.inr rfl) (pe_fn F_written_bars (hr.mono (by decide)) (pa_cons (pv 0) (pa_cons (pv 1) pa_nil))))
      (pss_cons (ps_set (i := 5) sc_page_ends.nd rfl (by first | exact Or.inl rfl | exact Or.inr rfl) (pe_fn F_places_to_end (hr.mono (by decide)) (pa_cons (pv 0) (pa_cons (pe_fld (pv 1) rfl) (pa_cons (pv 3) pa_nil)))))
      (pss_cons (ps_set (i := 6) sc_page_ends.nd rfl (by first | exact Or.inl rfl | exact Or.inr rfl) (pe_lst pa_nil))
      (pss_cons (ps_set (i := 7) sc_page_ends.nd rfl (by first | exact Or.inl rfl | exact Or.inr rfl) pe_int)
      (pss_cons (ps_while PassesOwn.never (pt_cmpR op_lt (pv 7) (pe_callB call_len_l (by rfl) T.b_len PySem.boot_len (pa_cons (pv 0) pa_nil)) (nomark _)) (pss_cons (ps_set (i := 8) sc_page_ends.nd rfl (by first | exact Or.inl rfl | exact Or.inr rfl) (pe_fn F_furthest_end (hr.mono (by decide)) (pa_cons (pv 4) (pa_cons (pv 5) (pa_cons (pv 7) (pa_cons (pv 2) pa_nil))))))
      (pss_cons (ps_if (pt_cmpR op_eq (pv 8) (pv 7) (nomark _)) (pss_one (ps_ret pe_non)) pss_nil)
      (pss_cons (ps_expr (pe_lm PySem.F.slot_list_append PySem.F.type_list_append mt_append (pv 6) (pa_cons (pv 8) pa_nil)))
      (pss_one (ps_set (i := 7) sc_page_ends.nd rfl (by first | exact Or.inl rfl | exact Or.inr rfl) (pv 8)))))))
      (pss_one (ps_ret (pv 6)))))))), ?_⟩
    simp_arith only []
    refine ⟨lb, a, dx, ln, as, s.bars, p, rfl, hb, bo, hp, wo, fun H1 q s1 hq hrows => ?_⟩
    have hrows1 := hrows.at
    have hp1 := hp.same s1
    simp_arith only [hp1.obj, T.c_Player, T.a_Player_notes, l_Player_notes]
    refine ⟨lb, ln, as, s.bars, p.notes, rest, rfl, s1 _ _ hb, bo, hp1.nl, wo.ord, hen, wo.len, fun H2 q2 bs s2 hq2 hbs hbb => ?_⟩
    refine ⟨by decide, fun D hD => ?_⟩
    have hbl := bo.len
    have sH : Same H H2 := Same.trans s1 s2
    have hb2 : H2 lb = some (.lst (natsV s.bars)) := sH _ _ hb
    have hbs' : H2 q2 = some (.lst (bs.map V.bl)) := hbs
    have n1 : lb ≠ D := ne_of_none hb2 hD
    refine while_by (fun σ H' => ∃ (es : List Nat) (kb : Nat) (v8 : Option V), σ = [some (.ref lb), some (.ref a), some (.int most), some (.int rest), some (.ref q), some (.ref q2), some (.ref D), some (.int kb), v8] ∧ H' = upd H2 D (.lst (natsV es)) ∧ kb ≤ s.bars.length ∧ es.length ≤ kb ∧ Kct9.pages s p most rest = (Mm.best (Kct9.isPage s p most rest) s.bars.length kb).map (fun l => es ++ l))
      (fun σ _ => match σ with | [_, _, _, _, _, _, _, some (.int k), _] => s.bars.length - k.toNat | _ => 0) ?_ ?_ (mo_test (mo_op mo_I0 mo_var (mo_len (mo_cons mo_var mo_nil))))
    · refine ⟨[], 0, none, rfl, rfl, Nat.zero_le _, Nat.le_refl _, ?_⟩
      rw [Mm.pages_eq]
      cases Mm.best (Kct9.isPage s p most rest) s.bars.length 0 <;> rfl
    · rintro σ H' ⟨es, kb, v8, rfl, rfl, hkb, hel, hpg⟩
      have hbD : ∀ u, upd H2 D u lb = some (.lst (natsV s.bars)) := fun u => by
        rw [upd_ne n1]
        exact hb2
      have hnl : (natsV s.bars).length = s.bars.length := by simp [natsV]
      have sD := Same.new (H := H2) (o := HO.lst (natsV es)) hD
      simp_arith only [hbD]
      rw [hnl]
      split
      · rename_i h1
        refine ⟨q, q2, p, s, bs, kb, most, rest, rfl, RowsAt.same sD (RowsAt.same s2 hrows1), sD _ _ hbs', bo, by omega, fun i hi => ?_, fun r hr => ?_⟩
        · exact hbb i hi
        · simp_arith only []
          rcases hr with ⟨rfl, hno⟩ | ⟨h2, h3, h4, h5⟩
          · rw [if_pos rfl]
            refine (k _ (Same.trans sH sD)).1 ?_
            rw [hpg, Mm.best_no (by omega) hno]
            rfl
          · rw [if_neg (by omega)]
            refine ⟨by simp [natsV, sizeLine_eq]; omega, ⟨es ++ [r], r, rfl, ?_, h3, by simp; omega, ?_⟩, by omega⟩
            · simp [natsV]
            · rw [hpg, Mm.best_step (Mm.isPage_mono s p most rest) (by omega) h2 h3 h4 h5, Option.map_map]
              refine congrArg (fun f => (Mm.best (Kct9.isPage s p most rest) s.bars.length r).map f) (funext fun l => ?_)
              simp
      · rename_i h1
        have hkn : kb = s.bars.length := by omega
        rw [hkn, Mm.best_end] at hpg
        refine (k _ (Same.trans sH sD)).2 es D (by rw [hpg]; simp) (free_of sH hD) (by omega) upd_same
theorem for_items {d : Addr} {o : Obj} {kvs : List (Key × V)} {g : TG} {tb : TS} {D : Ends} {σ : L2.St} {H : Hp} (Pv : Nat → L2.St → Hp → Prop) (h0 : Pv 0 σ H) (hl : ∀ i σ H, i ≤ kvs.length → Pv i σ H → H d = some (.frz o (.dK kvs)))
    (hs : ∀ i k v T σ H, kvs[i]? = some (k, v) → Pv i σ H → H T = none → g (.ref T) σ (upd H T (.tup [kV k, v])) fun σ2 H2 => tb { D with nx := Pv (i + 1), ct := Pv (i + 1), bk := D.nx } σ2 H2) (hd : ∀ σ H, Pv kvs.length σ H → D.nx σ H) : LoopF (Iti d o kvs) g tb D σ H := by
  refine ⟨fun i m σ H => m = kvs.length - i ∧ i ≤ kvs.length ∧ Pv i σ H, ⟨kvs.length, by simp, Nat.zero_le _, h0⟩, ?_⟩
  rintro i m σ H ⟨rfl, hi, p⟩
  by_cases hlt : i < kvs.length
  · refine .inr ⟨⟨hl i σ H hi p, hlt⟩, Pv (i + 1), fun σ' H' p' => ⟨kvs.length - (i + 1), by omega, rfl, hlt, p'⟩, ?_⟩
    rintro x H' ⟨T, k, v, e, rfl, hT, rfl⟩
    exact hs i k v T σ H e p hT
  · have : i = kvs.length := by omega
    subst this
    exact .inl ⟨⟨hl _ σ H hi p, Nat.le_refl _⟩, hd σ H p⟩
def kvsOf (l : List (Int × (Int × Int))) (ts : List Addr) : List (Key × V) := (l.zip ts).map fun z => (Sum.inl z.1.1, V.ref z.2)
theorem kvs_none {l : List (Int × (Int × Int))} {ts : List Addr} {k : Int} (h : ∀ x ∈ l, x.1 ≠ k) : valV (kvsOf l ts) (Sum.inl k) = none := by
  unfold valV kvsOf
  have : ((l.zip ts).map fun z => ((Sum.inl z.1.1 : Key), V.ref z.2)).find? (fun kv => decide (kv.1 = Sum.inl k)) = none := by
    rw [List.find?_eq_none]
    intro x hx
    obtain ⟨z, hz, rfl⟩ := List.mem_map.mp hx
    have := h z.1 (List.of_mem_zip hz).1
    simpa using this
  rw [this]
  rfl
theorem kvs_look : ∀ {l : List (Int × (Int × Int))} {ts : List Addr} {k : Int}, l.length = ts.length → (Mm.lookS l k = none ∧ valV (kvsOf l ts) (Sum.inl k) = none) ∨ ∃ (i : Nat) (x : Int × (Int × Int)) (t : Addr), l[i]? = some x ∧ ts[i]? = some t ∧ Mm.lookS l k = some x.2 ∧ valV (kvsOf l ts) (Sum.inl k) = some (V.ref t)
  | [], ts, k, _ => .inl ⟨rfl, rfl⟩
  | x :: l, [], k, h => by simp at h
  | x :: l, t :: ts, k, h => by
    by_cases hx : x.1 = k
    · refine .inr ⟨0, x, t, rfl, rfl, ?_, ?_⟩
      · simp [Mm.lookS, List.find?_cons, hx]
      · show valV ((Sum.inl x.1, V.ref t) :: kvsOf l ts) (Sum.inl k) = _
        exact valV_pos (by rw [hx])
    · have e1 : Mm.lookS (x :: l) k = Mm.lookS l k := by simp [Mm.lookS, List.find?_cons, hx]
      have e2 : valV (kvsOf (x :: l) (t :: ts)) (Sum.inl k) = valV (kvsOf l ts) (Sum.inl k) := valV_neg (p := (Sum.inl x.1, V.ref t)) (by simpa using hx)
      rw [e1, e2]
      rcases kvs_look (l := l) (ts := ts) (k := k) (by simpa using h) with h | ⟨i, y, u, h1, h2, h3, h4⟩
      · exact .inl h
      · exact .inr ⟨i + 1, y, u, by simpa using h1, by simpa using h2, h3, h4⟩
theorem ok_steps {f : Addr} {fd : FuncData} (F : Fun K "steps" "steps" s_steps f fd) (T : Txt K mg c)  : FnOk P w K mg base CX0 1 f fd ["notes"] (sp_steps K c) := by
  refine F.ok sc_steps (fun vs H Q E h => ?_) (fun cdv A outer s H vs Q E hr h => ?_)
  · obtain ⟨l, as, ns, rfl, _⟩ := h
    rfl
  · obtain ⟨l, as, ns, rfl, hn, ho, hlen, k⟩ := h
    refine ⟨_, (pss_cons (ps_set (i := 1) sc_steps.nd rfl (by first | exact Or.inl rfl | exact Or.inr rfl) pe_dnewK)
      (pss_cons (ps_for PassesOwn.never rfl (pi_range2 rfl T.b_range (pa_cons pe_int (pa_cons (pe_callB call_len_l (by rfl) T.b_len PySem.boot_len (pa_cons (pv 0) pa_nil)) pa_nil))) (pg_name (i := 2) sc_steps.nd rfl (by first | exact Or.inl rfl | exact Or.inr rfl)) (pss_cons (ps_set (i := 3) sc_steps.nd rfl (by first | exact Or.inl rfl | exact Or.inr rfl) (pe_ix ix_lst (pv 0) (pe_op op_sub (pv 2) pe_int) (fun _ _ => rfl)))
      (pss_cons (ps_set (i := 4) sc_steps.nd rfl (by first | exact Or.inl rfl | exact Or.inr rfl) (pe_ix ix_lst (pv 0) (pv 2) (fun _ _ => rfl)))
      (pss_one (ps_if (pt_cmpR op_eq (pe_fld (pv 3) rfl) (pe_fld (pv 4) rfl) (nomark _)) (pss_one (ps_dput (hu_of hr) (pv 1) (pe_fld (pv 4) rfl) (pe_tup (pa_cons (pe_fld (pv 3) rfl) (pa_cons (pe_fld (pv 4) rfl) pa_nil))) rfl)) pss_nil)))))
      (pss_one (ps_ret (pv 1))))), ?_⟩
    simp_arith only [hn.lst]
    intro D hD
    have hl := Paired.length hn.nts
    refine ⟨_, by rw [upd_ne (ne_of_none hn.lst hD), hn.lst]; rfl, by decide, by decide, by omega, by rw [List.length_map]; omega, ?_⟩
    rw [List.length_map, hl]
    have hch := List.pairwise_iff_getElem.mp ho.ch
    refine for_range (fun j σ H' => ∃ (B : Hp) (ts : List Addr) (v2 v3 v4 : Option V), σ = [some (.ref l), some (.ref D), v2, v3, v4] ∧ Same H B ∧ B D = none ∧ H' = upd B D (.dK (kvsOf (Mm.stepsOf (ns.take (j + 1))) ts)) ∧ Paired (TupAt B) ts ((Mm.stepsOf (ns.take (j + 1))).map (·.2))) ?_ ?_ ?_
    · have e : Mm.stepsOf (ns.take 1) = [] := by
        cases ns with
        | nil => rfl
        | cons a l => rfl
      refine ⟨H, [], none, none, none, rfl, Same.refl' H, hD, ?_, ?_⟩
      · rw [e]
        rfl
      · rw [e]
        exact .nil
    · rintro j σ H' hj ⟨B, ts, v2, v3, v4, rfl, sB, hB, rfl, htp⟩
      have hj1 : j + 1 < ns.length := by omega
      obtain ⟨a, ha⟩ : ∃ a, ns[j]? = some a := ⟨_, List.getElem?_eq_getElem (by omega)⟩
      obtain ⟨b, hb⟩ : ∃ b, ns[j + 1]? = some b := ⟨_, List.getElem?_eq_getElem hj1⟩
      obtain ⟨az, haz, hna⟩ := paired_get' hn.nts ha
      obtain ⟨bz, hbz, hnb⟩ := paired_get' hn.nts hb
      have sB' : ∀ u, Same H (upd B D u) := fun u => Same.trans sB (Same.new hB)
      have hll : ∀ u, upd B D u l = some (.lst (as.map V.ref)) := fun u => sB' u _ _ hn.lst
      have at0 : atI (as.map V.ref) (1 + (j : Int) - 1) = some (V.ref az) := by
        rw [show 1 + (j : Int) - 1 = ((j : Nat) : Int) by omega]
        exact atI_nat (by rw [List.getElem?_map, haz]; rfl)
      have at1 : atI (as.map V.ref) (1 + (j : Int)) = some (V.ref bz) := by
        rw [show 1 + (j : Int) = ((j + 1 : Nat) : Int) by omega]
        exact atI_nat (by rw [List.getElem?_map, hbz]; rfl)
      obtain ⟨da, hna1⟩ := hna
      obtain ⟨db, hnb1⟩ := hnb
      have hna2 : ∀ u, upd B D u az = some (.ins c.Note da (fs_Note (.int a.start) (.int (Kct9.ends a)) (.int a.high))) := fun u => sB' u _ _ hna1
      have hnb2 : ∀ u, upd B D u bz = some (.ins c.Note db (fs_Note (.int b.start) (.int (Kct9.ends b)) (.int b.high))) := fun u => sB' u _ _ hnb1
      simp_arith only [hll, at0, at1, hna2, hnb2, T.c_Note, T.a_Note_start, T.a_Note_end, T.a_Note_high, l_Note_start, l_Note_end, l_Note_high]
      have htake : ns.take (j + 1 + 1) = ns.take j ++ [a] ++ [b] := by
        rw [take_snoc hb, take_snoc ha]
      have hst := Mm.steps_snoc (ns.take j) a b
      rw [← htake, ← take_snoc ha] at hst
      have htl := Paired.length htp
      rw [List.length_map] at htl
      split
      · rename_i h1
        have h1' : Kct9.ends a = b.start := by omega
        rw [if_pos h1'] at hst
        refine ⟨by decide, fun q hq => ?_⟩
        have hsl : (Mm.stepsOf (ns.take (j + 1))).length ≤ 256 := by
          have : ∀ l : List Kct9.Note, (Mm.stepsOf l).length ≤ l.length := by
            intro l
            induction l with
            | nil => simp [Mm.stepsOf]
            | cons x l ih =>
              cases l with
              | nil => simp [Mm.stepsOf]
              | cons y l =>
                rw [Mm.stepsOf]
                split
                · simp only [List.length_cons] at ih ⊢
                  omega
                · simp only [List.length_cons] at ih ⊢
                  omega
          have h2 := this (ns.take (j + 1))
          rw [List.length_take] at h2
          omega
        have hnew : valV (kvsOf (Mm.stepsOf (ns.take (j + 1))) ts) (Sum.inl (b.start : Int)) = none := kvs_none fun x hx => by
          obtain ⟨k0, w0, y0⟩ := x
          obtain ⟨i0, a0, b0, h2, h3, h4, rfl, _⟩ := Mm.mem_steps.mp hx
          have hi0 : i0 + 1 < j + 1 := by
            have := (List.getElem?_eq_some_iff.mp h3).1
            rw [List.length_take] at this
            omega
          rw [List.getElem?_take_of_lt hi0] at h3
          obtain ⟨l1, e1⟩ := List.getElem?_eq_some_iff.mp h3
          obtain ⟨l2, e2⟩ := List.getElem?_eq_some_iff.mp hb
          have h5 := hch (i0 + 1) (j + 1) l1 l2 (by omega)
          rw [e1, e2] at h5
          have h6 := ho.pos b0 (List.mem_of_getElem? h3)
          unfold Kct9.ends at h5
          simp only
          omega
        obtain ⟨hqD, hqB⟩ := hq
        have sq : Same B (upd B q (.tup [.int a.high, .int b.high])) := Same.new hqB
        have hqD2 : upd B q (.tup [.int a.high, .int b.high]) D = none := by
          rw [upd_ne (Ne.symm hqD)]
          exact hB
        rw [upd_swap (Ne.symm hqD)]
        have sq2 : ∀ u, Same H (upd (upd B q (.tup [.int a.high, .int b.high])) D u) := fun u => Same.trans (Same.trans sB sq) (Same.new hqD2)
        have hnb3 : ∀ u, upd (upd B q (.tup [.int a.high, .int b.high])) D u bz = some (.ins c.Note db (fs_Note (.int b.start) (.int (Kct9.ends b)) (.int b.high))) := fun u => sq2 u _ _ hnb1
        simp_arith only [hnb3, T.c_Note, T.a_Note_start, l_Note_start]
        refine ⟨_, DPut.k (k := Sum.inl (b.start : Int)) upd_same ?_, upd B q (.tup [.int a.high, .int b.high]), Same.trans sB sq, hqD2, ts ++ [q], ?_, ?_⟩
        · rw [sizeLine_eq]
          simp only [kvsOf, List.length_map, List.length_zip]
          omega
        · rw [upd_upd, putK_new _ hnew, hst]
          have : kvsOf (Mm.stepsOf (ns.take (j + 1)) ++ [((b.start : Int), (a.high, b.high))]) (ts ++ [q]) = kvsOf (Mm.stepsOf (ns.take (j + 1))) ts ++ [(Sum.inl (b.start : Int), V.ref q)] := by
            unfold kvsOf
            rw [List.zip_append htl.symm, List.map_append]
            rfl
          rw [this]
        · rw [hst, List.map_append]
          refine Paired.snoc (Paired.imp' (fun _ _ z => TupAt.same sq z) htp) ?_
          show upd B q _ q = _
          rw [upd_same]
      · rename_i h1
        rw [if_neg (by omega), List.append_nil] at hst
        rw [hst]
        exact ⟨B, sB, hB, ts, rfl, htp⟩
    · rintro σ H' ⟨B, ts, v2, v3, v4, rfl, sB, hB, rfl, htp⟩
      simp_arith only []
      have e : ns.take ((((ns.length : Nat) : Int) - 1).toNat + 1) = ns := List.take_of_length_le (by omega)
      rw [e] at htp ⊢
      exact k _ D (Same.trans sB (Same.new hB)) hD ⟨ts, upd_same, Paired.imp' (fun _ _ z => TupAt.same (Same.new hB) z) htp⟩
theorem ok_is_parallel {f : Addr} {fd : FuncData} (F : Fun K "is_parallel" "is_parallel" s_is_parallel f fd) (T : Txt K mg c)  : FnOk P w K mg base CX0 1 f fd ["high", "other"] (sp_is_parallel K c) := by
  refine F.ok sc_is_parallel (fun vs H Q E h => ?_) (fun cdv A outer s H vs Q E hr h => ?_)
  · obtain ⟨x, y, rfl, _⟩ := h
    rfl
  · obtain ⟨x, y, rfl, k⟩ := h
    refine ⟨_, (pss_one (ps_ret (pe_cmpR op_in_seq (pe_op op_mod (pe_callB call_abs_l (by rfl) T.b_abs PyProof.Rows.boot_abs (pa_cons (pe_op op_sub (pv 0) (pv 1)) pa_nil)) (pe_num T.n_OCTAVE)) (pe_kt T.k_PARALLEL) (by with_unfolding_all rfl)))), ?_⟩
    simp_arith only []
    refine ⟨by decide, fun a ha => ⟨_, .inr ha, rfl, rfl, ?_⟩⟩
    have e : (if x - y < 0 then -(x - y) else x - y) % 12 = (((x - y).natAbs % 12 : Nat) : Int) := by
      split <;> omega
    rw [e]
    have e2 : inV (V.int (((x - y).natAbs % 12 : Nat) : Int)) [V.int 0, V.int 7] = Kct9.isPerfect (x - y) := by
      unfold Kct9.isPerfect
      simp only [inV, eqV, List.any_cons, List.any_nil, Bool.or_false]
      generalize (x - y).natAbs % 12 = m
      rw [Bool.eq_iff_iff]
      simp
      omega
    rw [e2]
    exact k
theorem ok_goes_parallel {f : Addr} {fd : FuncData} (F : Fun K "goes_parallel" "goes_parallel" s_goes_parallel f fd) (T : Txt K mg c) {f_is_parallel : Addr} {fd_is_parallel : FuncData} (F_is_parallel : Fn P w K mg base "is_parallel" 1 ["high", "other"] (sp_is_parallel K c) f_is_parallel fd_is_parallel) : FnOk P w K mg base CX0 2 f fd ["step", "other"] (sp_goes_parallel K c) := by
  refine F.ok sc_goes_parallel (fun vs H Q E h => ?_) (fun cdv A outer s H vs Q E hr h => ?_)
  · obtain ⟨t, u, a, b, rfl, _⟩ := h
    rfl
  · obtain ⟨t, u, a, b, rfl, ht, hu, k⟩ := h
    refine ⟨_, (pss_cons (ps_set (i := 2) sc_goes_parallel.nd rfl (by first | exact Or.inl rfl | exact Or.inr rfl) (pe_and (pe_cmpR op_lt (pe_ix ix_tpl (pv 0) pe_int (fun _ _ => rfl)) (pe_ix ix_tpl (pv 0) pe_int (fun _ _ => rfl)) (nomark _)) (pe_one (pe_cmpR op_lt (pe_ix ix_tpl (pv 1) pe_int (fun _ _ => rfl)) (pe_ix ix_tpl (pv 1) pe_int (fun _ _ => rfl)) (nomark _)))))
      (pss_cons (ps_set (i := 3) sc_goes_parallel.nd rfl (by first | exact Or.inl rfl | exact Or.inr rfl) (pe_and (pe_cmpR op_gt (pe_ix ix_tpl (pv 0) pe_int (fun _ _ => rfl)) (pe_ix ix_tpl (pv 0) pe_int (fun _ _ => rfl)) (nomark _)) (pe_one (pe_cmpR op_gt (pe_ix ix_tpl (pv 1) pe_int (fun _ _ => rfl)) (pe_ix ix_tpl (pv 1) pe_int (fun _ _ => rfl)) (nomark _)))))
      (pss_cons (ps_if (pw_and (pt_not (pt_val (pv 2))) (pw_and1 (pt_not (pt_val (pv 3))))).pt (pss_one (ps_ret pe_bl)) pss_nil)
      (pss_one (ps_ret (pe_and (pe_fn F_is_parallel (hr.mono (by decide)) (pa_cons (pe_ix ix_tpl (pv 0) pe_int (fun _ _ => rfl)) (pa_cons (pe_ix ix_tpl (pv 1) pe_int (fun _ _ => rfl)) pa_nil))) (pe_one (pe_fn F_is_parallel (hr.mono (by decide)) (pa_cons (pe_ix ix_tpl (pv 0) pe_int (fun _ _ => rfl)) (pa_cons (pe_ix ix_tpl (pv 1) pe_int (fun _ _ => rfl)) pa_nil)))))))))), ?_⟩
    have ht' : H t = some (.tup [.int a.1, .int a.2]) := ht
    have hu' : H u = some (.tup [.int b.1, .int b.2]) := hu
    have ea0 : atI [V.int a.1, V.int a.2] 0 = some (V.int a.1) := rfl
    have ea1 : atI [V.int a.1, V.int a.2] 1 = some (V.int a.2) := rfl
    have eb0 : atI [V.int b.1, V.int b.2] 0 = some (V.int b.1) := rfl
    have eb1 : atI [V.int b.1, V.int b.2] 1 = some (V.int b.2) := rfl
    have fin : ((a.1 < a.2 ∧ b.1 < b.2) ∨ (a.2 < a.1 ∧ b.2 < b.1)) → sp_is_parallel K c [V.int a.1, V.int b.1] H (fun x H1 => ∃ c_1, x = V.bl c_1 ∧ if c_1 = true then ∃ x, tupOf (H1 t) = some x ∧ ∃ x_1, atI x 1 = some x_1 ∧ ∃ x, tupOf (H1 u) = some x ∧ ∃ x_2, atI x 1 = some x_2 ∧ sp_is_parallel K c [x_1, x_2] H1 Q E0 else Q (V.bl false) H1) E0 := fun hd => by
      refine ⟨a.1, b.1, rfl, _, rfl, ?_⟩
      have hg : Mm.goesPar a b = (Kct9.isPerfect (a.1 - b.1) && Kct9.isPerfect (a.2 - b.2)) := by
        unfold Mm.goesPar
        have : ((decide (a.1 < a.2) && decide (b.1 < b.2)) || (decide (a.2 < a.1) && decide (b.2 < b.1))) = true := by simpa using hd
        rw [this, Bool.and_true]
      rw [hg] at k
      split
      · rename_i h
        rw [h] at k
        exact ⟨_, by rw [ht']; rfl, _, ea1, _, by rw [hu']; rfl, _, eb1, a.2, b.2, rfl, k⟩
      · rename_i h
        have h' : Kct9.isPerfect (a.1 - b.1) = false := by simpa using h
        rw [h'] at k
        exact k
    have fal : ¬ ((a.1 < a.2 ∧ b.1 < b.2) ∨ (a.2 < a.1 ∧ b.2 < b.1)) → Q (V.bl false) H := fun hd => by
      have hg : Mm.goesPar a b = false := by
        unfold Mm.goesPar
        have : ((decide (a.1 < a.2) && decide (b.1 < b.2)) || (decide (a.2 < a.1) && decide (b.2 < b.1))) = false := by
          rw [Bool.eq_false_iff]
          intro z
          exact hd (by simpa using z)
        rw [this, Bool.and_false]
      rw [hg] at k
      exact k
    simp_arith only [ht', hu', ea0, ea1, eb0, eb1]
    split
    · rename_i h1
      rw [if_neg (by omega)]
      split
      · exact fal (by omega)
      · exact fin (by omega)
    · rename_i h1
      split
      · rename_i h2
        split
        · exact fal (by omega)
        · exact fin (by omega)
      · exact fal (by omega)
theorem ok_count_parallels {f : Addr} {fd : FuncData} (F : Fun K "count_parallels" "count_parallels" s_count_parallels f fd) (T : Txt K mg c) {f_goes_parallel : Addr} {fd_goes_parallel : FuncData} (F_goes_parallel : Fn P w K mg base "goes_parallel" 2 ["step", "other"] (sp_goes_parallel K c) f_goes_parallel fd_goes_parallel) {f_steps : Addr} {fd_steps : FuncData} (F_steps : Fn P w K mg base "steps" 1 ["notes"] (sp_steps K c) f_steps fd_steps) : FnOk P w K mg base CX0 3 f fd ["notes", "other_notes"] (sp_count_parallels K c) := by
  refine F.ok sc_count_parallels (fun vs H Q E h => ?_) (fun cdv A outer s H vs Q E hr h => ?_)
  · obtain ⟨l, m, as, bs, ns, ms, all, rfl, _⟩ := h
    rfl
  · obtain ⟨l, m, as, bs, ns, ms, all, rfl, hn, hm, on, om, ln, lm, en, em, k⟩ := h
    refine ⟨_, (pss_cons (ps_set (i := 2) sc_count_parallels.nd rfl (by first | exact Or.inl rfl | exact Or.inr rfl) (pe_fn F_steps (hr.mono (by decide)) (pa_cons (pv 1) pa_nil)))
      (pss_cons (ps_set (i := 3) sc_count_parallels.nd rfl (by first | exact Or.inl rfl | exact Or.inr rfl) pe_int)
      (pss_cons (ps_for PassesOwn.never rfl (pi_itemsL (pe_fn F_steps (hr.mono (by decide)) (pa_cons (pv 0) pa_nil))) (pg_tup rfl (pgs_cons (pg_name (i := 4) sc_count_parallels.nd rfl (by first | exact Or.inl rfl | exact Or.inr rfl)) (pgs_cons (pg_name (i := 5) sc_count_parallels.nd rfl (by first | exact Or.inl rfl | exact Or.inr rfl)) pgs_nil))) (pss_one (ps_if (pw_and (pt_cmp (pc_din (hu_of hr) (pv 4) (pv 2))) (pw_and1 (pt_val (pe_fn F_goes_parallel (hr.mono (by decide)) (pa_cons (pv 5) (pa_cons (pe_dget (hu_of hr) (pv 2) (pv 4) (fun _ _ => rfl)) pa_nil)))))).pt (pss_one (ps_aug (i := 3) sc_count_parallels.nd rfl (by first | exact Or.inl rfl | exact Or.inr rfl) pe_int ip_add)) pss_nil)))
      (pss_one (ps_ret (pv 3)))))), ?_⟩
    simp_arith only []
    refine ⟨m, bs, ms, rfl, hm, om, lm, fun H1 dm s1 hdm hst1 => ⟨l, as, ns, rfl, hn.same s1, on, ln, fun H2 d s2 hd hst2 => ⟨d, rfl, ?_⟩⟩⟩
    obtain ⟨ts, hts, htp⟩ := hst2
    obtain ⟨us, hus0, hup0⟩ := StepsAt.same s2 hst1
    refine ⟨_, hts, fun o => ?_⟩
    have hddm : dm ≠ d := by
      obtain ⟨_, e, _⟩ := hst1
      exact ne_of_none e hd
    have htl := Paired.length htp
    have hul := Paired.length hup0
    rw [List.length_map] at htl hul
    have hkl : (((Mm.stepsOf ns).zip ts).map fun z => ((Sum.inl z.1.1 : Key), V.ref z.2)).length = (Mm.stepsOf ns).length := by
      rw [List.length_map, List.length_zip]
      omega
    have hHd : ∀ b x, H2 b = some x → b ≠ d → upd H2 d (.frz o (.dK (((Mm.stepsOf ns).zip ts).map fun z => ((Sum.inl z.1.1 : Key), V.ref z.2)))) b = some x := fun b x e hb => by
      rw [upd_ne hb]
      exact e
    have hus : upd H2 d (.frz o (.dK (((Mm.stepsOf ns).zip ts).map fun z => ((Sum.inl z.1.1 : Key), V.ref z.2)))) dm = some (.dK (kvsOf (Mm.stepsOf ms) us)) := hHd _ _ hus0 hddm
    have tupne : ∀ a r, TupAt H2 a r → TupAt (upd H2 d (.frz o (.dK (((Mm.stepsOf ns).zip ts).map fun z => ((Sum.inl z.1.1 : Key), V.ref z.2))))) a r := fun a r z => hHd _ _ z (ne_of (show H2 a = some (HO.tup [.int r.1, .int r.2]) from z) hts (by intro z; cases z))
    have htp' := Paired.imp' tupne htp
    have hup' := Paired.imp' tupne hup0
    have sH2 : ∀ b x, H b = some x → upd H2 d (.frz o (.dK (((Mm.stepsOf ns).zip ts).map fun z => ((Sum.inl z.1.1 : Key), V.ref z.2)))) b = some x := fun b x e => hHd b x (s2 _ _ (s1 _ _ e)) (ne_of_none (s1 _ _ e) hd)
    have hdd : upd H2 d (.frz o (.dK (((Mm.stepsOf ns).zip ts).map fun z => ((Sum.inl z.1.1 : Key), V.ref z.2)))) d = some (.frz o (.dK (((Mm.stepsOf ns).zip ts).map fun z => ((Sum.inl z.1.1 : Key), V.ref z.2)))) := upd_same
    generalize upd H2 d (.frz o (.dK (((Mm.stepsOf ns).zip ts).map fun z => ((Sum.inl z.1.1 : Key), V.ref z.2)))) = HX at *
    refine for_items (fun i σ H' => ∃ (v4 v5 : Option V), σ = [some (.ref l), some (.ref m), some (.ref dm), some (.int ((Mm.counts ((Mm.stepsOf ns).take i) (Mm.stepsOf ms)).length : Nat)), v4, v5] ∧ Same HX H') ⟨none, none, rfl, Same.refl' HX⟩ (fun i σ H' _ ⟨_, _, _, sX⟩ => sX _ _ hdd) ?_ ?_
    · rintro i kk v Tt σ H' hi ⟨v4, v5, rfl, sX⟩ hT
      obtain ⟨zz, hzz, ezz⟩ := map_get hi
      obtain ⟨⟨k0, w0, y0⟩, t0⟩ := zz
      cases ezz
      obtain ⟨hz1, hz2⟩ := List.getElem?_zip_eq_some.mp hzz
      obtain ⟨r0, hr0, htup⟩ := paired_get htp' hz2
      have er : r0 = (w0, y0) := by
        rw [List.getElem?_map, hz1] at hr0
        exact (Option.some.inj hr0).symm
      subst er
      have sT : Same HX (upd H' Tt (.tup [kV (Sum.inl k0), .ref t0])) := Same.trans sX (Same.new hT)
      refine ⟨Tt, [.int k0, .ref t0], rfl, SqT.of (by rw [upd_same]; rfl), rfl, ?_⟩
      simp_arith only []
      rw [take_snoc hz1]
      rcases kvs_look (l := Mm.stepsOf ms) (ts := us) (k := k0) hul.symm with ⟨h1, h2⟩ | ⟨j, x, u, h1, h2, h3, h4⟩
      · have dg : DGet (upd H' Tt (.tup [kV (Sum.inl k0), .ref t0])) dm (.int k0) none := by
          have := DGet.k (k := Sum.inl k0) (sT _ _ hus)
          rw [h2] at this
          exact this
        refine ⟨none, dg, ?_⟩
        rw [if_neg (by simp), Mm.counts_none h1]
        exact ⟨rfl, sT⟩
      · have dg : DGet (upd H' Tt (.tup [kV (Sum.inl k0), .ref t0])) dm (.int k0) (some (.ref u)) := by
          have := DGet.k (k := Sum.inl k0) (sT _ _ hus)
          rw [h4] at this
          exact this
        refine ⟨some (.ref u), dg, ?_⟩
        rw [if_pos (by simp)]
        obtain ⟨r1, hr1, htup1⟩ := paired_get hup' h2
        have er1 : r1 = x.2 := by
          rw [List.getElem?_map, h1] at hr1
          exact (Option.some.inj hr1).symm
        subst er1
        refine ⟨.ref u, dg, t0, u, (w0, y0), x.2, rfl, TupAt.same sT htup, TupAt.same sT htup1, _, rfl, ?_⟩
        rw [Mm.counts_some h3]
        split
        · exact ⟨by omega, sT⟩
        · exact ⟨by omega, sT⟩
    · rintro σ H' ⟨v4, v5, rfl, sX⟩
      simp_arith only []
      rw [hkl, List.take_length, Mm.count_eq on.ch on.pos om.ch om.pos en]
      exact k H' fun b x e => sX _ _ (sH2 b x e)
theorem at_last {xs : List V} {v : V} (h : xs.getLast? = some v) : atI xs (-1) = some v := by
  unfold atI ixN
  have hne : 0 < xs.length := by
    cases xs with
    | nil => simp at h
    | cons x l => simp
  rw [if_neg (by decide), if_pos (by omega)]
  simp only [Option.bind_some]
  have e : (-1 + (xs.length : Int)).toNat = xs.length - 1 := by omega
  rw [e, ← List.getLast?_eq_getElem?]
  exact h
theorem ok_bar_begins {f : Addr} {fd : FuncData} (F : Fun K "bar_begins" "bar_begins" s_bar_begins f fd) (T : Txt K mg c)  : FnOk P w K mg base CX0 1 f fd ["bars"] (sp_bar_begins K c) := by
  refine F.ok sc_bar_begins (fun vs H Q E h => ?_) (fun cdv A outer s H vs Q E hr h => ?_)
  · obtain ⟨lb, bars, rfl, _⟩ := h
    rfl
  · obtain ⟨lb, bars, rfl, hb, hl, k⟩ := h
    refine ⟨_, (pss_cons (ps_set (i := 1) sc_bar_begins.nd rfl (by first | exact Or.inl rfl | exact Or.inr rfl) (pe_lst (pa_cons pe_int pa_nil)))
      (pss_cons (ps_for PassesOwn.never rfl (pi_lst (pv 0)) (pg_name (i := 2) sc_bar_begins.nd rfl (by first | exact Or.inl rfl | exact Or.inr rfl)) (pss_one (ps_expr (pe_lm PySem.F.slot_list_append PySem.F.type_list_append mt_append (pv 1) (pa_cons (pe_op op_add (pe_ix ix_lst (pv 1) (pe_un un_neg pe_int) (fun _ _ => rfl)) (pv 2)) pa_nil)))))
      (pss_one (ps_ret (pv 1))))), ?_⟩
    have hb' : H lb = some (.lst (natsV bars)) := hb
    simp_arith only [hb']
    refine ⟨by decide, fun D hD => ⟨_, by rw [upd_ne (ne_of_none hb' hD), hb']; rfl, ?_⟩⟩
    refine for_list (xs := natsV bars) (fun i σ H' => ∃ v, σ = [some (.ref lb), some (.ref D), v] ∧ H' = upd H D (.lst (natsV (Mm.begins (bars.take i) 0)))) ⟨none, rfl, rfl⟩ (fun i σ H' _ ⟨v, _, e⟩ => ?_) ?_ ?_
    · subst e
      exact SqL.of (by rw [upd_ne (ne_of_none hb' hD)]; exact hb')
    · rintro i y σ H' hi ⟨v, rfl, rfl⟩
      obtain ⟨n, hn, rfl⟩ := map_get hi
      have hil := (List.getElem?_eq_some_iff.mp hn).1
      have hlt : (bars.take i).length = i := by
        rw [List.length_take]
        omega
      have hlast : atI (natsV (Mm.begins (bars.take i) 0)) (-1) = some (V.int (Kct9.sumOf (bars.take i) : Nat)) := by
        refine at_last ?_
        rw [List.getLast?_eq_getElem?]
        unfold natsV
        rw [List.length_map, Mm.begins_len, List.getElem?_map, Nat.add_sub_cancel, Mm.begins_get _ _ _ (Nat.le_refl _), List.take_length, Nat.zero_add]
        rfl
      simp_arith only [hlast]
      refine ⟨by simp [natsV, sizeLine_eq, Mm.begins_len]; omega, ?_⟩
      rw [take_snoc hn, Mm.begins_snoc]
      simp [natsV]
    · rintro σ H' ⟨v, rfl, rfl⟩
      simp_arith only []
      have e : (natsV bars).length = bars.length := by simp [natsV]
      rw [e, List.take_length]
      exact k _ D (Same.new hD) hD upd_same
theorem ok_behind_empty {f : Addr} {fd : FuncData} (F : Fun K "behind_empty" "behind_empty" s_behind_empty f fd) (T : Txt K mg c)  : FnOk P w K mg base CX0 1 f fd ["begins", "at", "count"] (sp_behind_empty K c) := by
  refine F.ok sc_behind_empty (fun vs H Q E h => ?_) (fun cdv A outer s H vs Q E hr h => ?_)
  · obtain ⟨l, bars, a, kk, rfl, _⟩ := h
    rfl
  · obtain ⟨l, bars, a, kk, rfl, hb, bo, k⟩ := h
    refine ⟨_, (pss_cons (ps_if (pt_cmpR op_notIn_seq (pv 1) (pv 0) (by with_unfolding_all rfl)) (pss_one (ps_ret pe_non)) pss_nil)
      (pss_cons (ps_set (i := 3) sc_behind_empty.nd rfl (by first | exact Or.inl rfl | exact Or.inr rfl) (pe_op op_add (pe_lm PySem.F.slot_list_index PySem.F.type_list_index mt_index (pv 0) (pa_cons (pv 1) pa_nil)) (pv 2)))
      (pss_cons (ps_if (pt_cmpR op_ge (pv 3) (pe_callB call_len_l (by rfl) T.b_len PySem.boot_len (pa_cons (pv 0) pa_nil)) (nomark _)) (pss_one (ps_ret pe_non)) pss_nil)
      (pss_one (ps_ret (pe_ix ix_lst (pv 0) (pv 3) (fun _ _ => rfl))))))), ?_⟩
    have hb' : H l = some (.lst (natsV (Mm.begins bars 0))) := hb
    simp_arith only [hb']
    have hflat : (natsV (Mm.begins bars 0)).all flatV = true := by
      rw [List.all_eq_true]
      intro x hx
      obtain ⟨n, _, rfl⟩ := List.mem_map.mp hx
      rfl
    have hget : ∀ i, i ≤ bars.length → (natsV (Mm.begins bars 0))[i]? = some (V.int (Kct9.sumOf (bars.take i) : Nat)) := fun i hi => by
      unfold natsV
      rw [List.getElem?_map, Mm.begins_get _ _ _ hi, Nat.zero_add]
      rfl
    have hlen : (natsV (Mm.begins bars 0)).length = bars.length + 1 := by
      unfold natsV
      rw [List.length_map, Mm.begins_len]
    refine ⟨natsV (Mm.begins bars 0), .inl (SqL.of hb'), rfl, hflat, ?_⟩
    split
    · rename_i h1
      have hno : ∀ i, i ≤ bars.length → a ≠ Kct9.sumOf (bars.take i) := fun i hi z => by
        unfold inV at h1
        rw [List.any_eq_false] at h1
        refine h1 _ (List.mem_of_getElem? (hget i hi)) ?_
        simp [eqV, z]
      rw [Mm.barsFrom_no bo.pos hno] at k
      exact k
    · rename_i h1
      have h1' : inV (V.int (a : Int)) (natsV (Mm.begins bars 0)) = true := by simpa using h1
      unfold inV at h1'
      obtain ⟨x, hx, hxe⟩ := List.any_eq_true.mp h1'
      obtain ⟨i, hi⟩ := List.getElem?_of_mem hx
      have hil := (List.getElem?_eq_some_iff.mp hi).1
      have hia : a = Kct9.sumOf (bars.take i) := by
        rw [hget i (by omega)] at hi
        cases hi
        simp [eqV] at hxe
        omega
      refine ⟨natsV (Mm.begins bars 0), SqL.of hb', rfl, hflat, i, V.int a, by rw [hget i (by omega), hia], by simp [eqV], fun m z' hm hz' => ?_, ?_⟩
      · rw [hget m (by omega)] at hz'
        cases hz'
        have := Mm.begins_sorted bo.pos (i := m) (j := i) hm (by omega)
        simp [eqV]
        omega
      · rw [hlen]
        have hbf := Mm.barsFrom_yes (k := kk) (i := i) bo.pos (by omega)
        rw [← hia] at hbf
        rw [hbf] at k
        split
        · rename_i h2
          rw [if_pos (by omega)] at k
          exact k
        · rename_i h2
          rw [if_neg (by omega)] at k
          refine ⟨_, ?_, k⟩
          have e : (i : Int) + (kk : Int) = ((i + kk : Nat) : Int) := by omega
          rw [e, atI_nat (hget (i + kk) (by omega))]
          have hle : Kct9.sumOf (bars.take i) ≤ Kct9.sumOf (bars.take (i + kk)) := by
            by_cases h0 : kk = 0
            · subst h0
              exact Nat.le_refl _
            · exact Nat.le_of_lt (Mm.begins_sorted bo.pos (by omega) (by omega))
          congr 2
          omega
def SpInv (c : Cl) (bars b : List Nat) (sh : Int) (lb l qb D : Addr) (H1 : Hp) (i : Nat) (σ : L2.St) (H' : Hp) : Prop := ∃ (as : List Addr) (ns : List Kct9.Note) (a : Nat) (v6 v7 v8 v9 v10 : Option V), σ = [some (.ref lb), some (.int sh), some (.ref l), some (.ref qb), some (.ref D), some (.int a), v6, v7, v8, v9, v10] ∧ Same H1 H' ∧ NotesAt c H' D as ns ∧ as.Nodup ∧ (∀ x ∈ as, H1 x = none) ∧ ns.length ≤ i ∧ Mm.spelled bars sh (b.drop (2 * i)) a ns = Mm.spelled bars sh b 0 [] ∧ (∀ n ∈ ns, Kct9.ends n ≤ a)
theorem fitsL (z : Int) (h1 : 0 ≤ z) (h2 : z ≤ 40000) : Builtin.Range.rangeFitsLong z = true := by
  unfold Builtin.Range.rangeFitsLong
  rw [Bool.and_eq_true, decide_eq_true_eq, decide_eq_true_eq]
  omega
theorem rgc2 {n : Nat} (h : n % 2 = 0) (h2 : n ≤ 30000) : RgC 0 (n : Int) 2 (n / 2) := by
  refine ⟨by decide, by decide, ?_, ?_⟩
  · unfold Builtin.Range.small
    have e : Builtin.Range.rangeSize 0 (n : Int) 2 = ((n / 2 : Nat) : Int) := by
      unfold Builtin.Range.rangeSize
      rw [if_pos (by decide)]
      split <;> omega
    rw [e]
    have h3 : n / 2 ≤ 15000 := by omega
    generalize n / 2 = m at h3
    rw [fitsL 0 (by omega) (by omega), fitsL n (by omega) (by omega), fitsL 2 (by omega) (by omega), fitsL m (by omega) (by omega), if_pos (by decide), fitsL ((n : Int) + (2 - 1)) (by omega) (by omega)]
    simp
  · unfold Builtin.Range.rangeSize
    rw [if_pos (by decide)]
    split <;> omega
theorem ok_spelled_notes {f : Addr} {fd : FuncData} (F : Fun K "spelled_notes" "spelled_notes" s_spelled_notes f fd) (T : Txt K mg c) {f_Note_init : Addr} {fd_Note_init : FuncData} (N_Note : Nw P w K mg base "Note" c.Note 1 ["self", "start", "end", "high"] (sp_Note_init K c) f_Note_init fd_Note_init) {f_bar_begins : Addr} {fd_bar_begins : FuncData} (F_bar_begins : Fn P w K mg base "bar_begins" 1 ["bars"] (sp_bar_begins K c) f_bar_begins fd_bar_begins) {f_behind_empty : Addr} {fd_behind_empty : FuncData} (F_behind_empty : Fn P w K mg base "behind_empty" 1 ["begins", "at", "count"] (sp_behind_empty K c) f_behind_empty fd_behind_empty) : FnOk P w K mg base CX0 3 f fd ["bars", "shift", "part"] (sp_spelled_notes K c) := by
  refine F.ok sc_spelled_notes (fun vs H Q E h => ?_) (fun cdv A outer s H vs Q E hr h => ?_)
  · obtain ⟨lb, l, bars, b, sh, rfl, _⟩ := h
    rfl
  · obtain ⟨lb, l, bars, b, sh, rfl, hb, bo, hl, hev, hlen, k⟩ := h
    refine ⟨_, (pss_cons (ps_set (i := 3) sc_spelled_notes.nd rfl (by first | exact Or.inl rfl | exact Or.inr rfl) (pe_fn F_bar_begins (hr.mono (by decide)) (pa_cons (pv 0) pa_nil)))
      (pss_cons (ps_set (i := 4) sc_spelled_notes.nd rfl (by first | exact Or.inl rfl | exact Or.inr rfl) (pe_lst pa_nil))
      (pss_cons (ps_set (i := 5) sc_spelled_notes.nd rfl (by first | exact Or.inl rfl | exact Or.inr rfl) pe_int)
      (pss_cons (ps_for PassesOwn.never rfl (pi_range3 rfl T.b_range (pa_cons pe_int (pa_cons (pe_callB call_len_l (by rfl) T.b_len PySem.boot_len (pa_cons (pv 2) pa_nil)) (pa_cons pe_int pa_nil)))) (pg_name (i := 6) sc_spelled_notes.nd rfl (by first | exact Or.inl rfl | exact Or.inr rfl)) (pss_cons (ps_set (i := 7) sc_spelled_notes.nd rfl (by first | exact Or.inl rfl | exact Or.inr rfl) (pe_ix ix_lst (pv 2) (pv 6) (fun _ _ => rfl)))
      (pss_cons (ps_set (i := 8) sc_spelled_notes.nd rfl (by first | exact Or.inl rfl | exact Or.inr rfl) (pe_ix ix_lst (pv 2) (pe_op op_add (pv 6) pe_int) (fun _ _ => rfl)))
      (pss_cons (ps_set (i := 9) sc_spelled_notes.nd rfl (by first | exact Or.inl rfl | exact Or.inr rfl) (pe_ifExp (pt_cmpR op_eq (pv 7) (pe_num T.n_EMPTY) (nomark _)) (pe_fn F_behind_empty (hr.mono (by decide)) (pa_cons (pv 3) (pa_cons (pv 5) (pa_cons (pv 8) pa_nil)))) (pe_op op_add (pv 5) (pv 8))))
      (pss_cons (ps_if (pw_or (pt_cmpR op_eq (pv 8) pe_int (nomark _)) (pw_or1 (pt_cmp (pc_isN (pv 9))))).pt (pss_one (ps_ret pe_non)) pss_nil)
      (pss_cons (ps_if (pt_cmpR op_eq (pv 7) (pe_num T.n_GOES_ON) (nomark _)) (pss_cons (ps_if (pt_cmpR op_eq (pe_callB call_len_l (by rfl) T.b_len PySem.boot_len (pa_cons (pv 4) pa_nil)) pe_int (nomark _)) (pss_one (ps_ret pe_non)) pss_nil)
      (pss_cons (ps_set (i := 10) sc_spelled_notes.nd rfl (by first | exact Or.inl rfl | exact Or.inr rfl) (pe_ix ix_lst (pv 4) (pe_un un_neg pe_int) (fun _ _ => rfl)))
      (pss_one (ps_fld (pv 10) (pv 9) rfl)))) (pss_one (ps_if (pw_and (pt_cmpR op_ne (pv 7) (pe_num T.n_REST) (nomark _)) (pw_and1 (pt_cmpR op_ne (pv 7) (pe_num T.n_EMPTY) (nomark _)))).pt (pss_one (ps_expr (pe_lm PySem.F.slot_list_append PySem.F.type_list_append mt_append (pv 4) (pa_cons (pe_new N_Note (hr.mono (by decide)) (pa_cons (pv 5) (pa_cons (pv 9) (pa_cons (pe_op op_sub (pe_op op_sub (pv 7) (pv 1)) (pe_num T.n_LIFT)) pa_nil)))) pa_nil)))) pss_nil)))
      (pss_one (ps_set (i := 5) sc_spelled_notes.nd rfl (by first | exact Or.inl rfl | exact Or.inr rfl) (pv 9)))))))))
      (pss_one (ps_ret (pv 4))))))), ?_⟩
    simp_arith only []
    refine ⟨lb, bars, rfl, hb, bo.len, fun H1 qb s1 hqb hbg => ⟨by decide, fun D hD => ?_⟩⟩
    have hl1 : H1 l = some (.lst (natsV b)) := s1 _ _ hl
    have hDH : H D = none := free_of s1 hD
    refine ⟨_, by rw [upd_ne (ne_of_none hl1 hD), hl1]; rfl, b.length / 2, ?_, ?_⟩
    · have e : (natsV b).length = b.length := by simp [natsV]
      rw [e]
      exact rgc2 hev hlen
    have sD0 : Same H1 (upd H1 D (HO.lst [])) := Same.new hD
    refine for_rangeC (SpInv c bars b sh lb l qb D H1) ⟨[], [], 0, none, none, none, none, none, rfl, sD0, ⟨upd_same, .nil⟩, List.nodup_nil, by simp, Nat.le_refl _, rfl, by simp⟩ ?_ ?_
    · rintro i σ H' hi ⟨as, ns, a, v6, v7, v8, v9, v10, rfl, sH, hn, hnd, hfr, hnl, hsp, hen⟩
      obtain ⟨x, hx⟩ : ∃ x, b[2 * i]? = some x := ⟨_, List.getElem?_eq_getElem (by omega)⟩
      obtain ⟨n, hnn⟩ : ∃ n, b[2 * i + 1]? = some n := ⟨_, List.getElem?_eq_getElem (by omega)⟩
      have hdrop : b.drop (2 * i) = x :: n :: b.drop (2 * (i + 1)) := by
        obtain ⟨l1, e1⟩ := List.getElem?_eq_some_iff.mp hx
        obtain ⟨l2, e2⟩ := List.getElem?_eq_some_iff.mp hnn
        rw [List.drop_eq_getElem_cons l1, e1, List.drop_eq_getElem_cons l2, e2]
        rfl
      rw [hdrop, Mm.spelled] at hsp
      have at0 : atI (natsV b) (0 + (i : Int) * 2) = some (V.int x) := by
        rw [show 0 + (i : Int) * 2 = ((2 * i : Nat) : Int) by omega]
        exact atI_nat (by unfold natsV; rw [List.getElem?_map, hx]; rfl)
      have at1 : atI (natsV b) (0 + (i : Int) * 2 + 1) = some (V.int n) := by
        rw [show 0 + (i : Int) * 2 + 1 = ((2 * i + 1 : Nat) : Int) by omega]
        exact atI_nat (by unfold natsV; rw [List.getElem?_map, hnn]; rfl)
      have hl2 : H' l = some (.lst (natsV b)) := sH _ _ hl1
      have hll := Paired.length hn.nts
      simp_arith only [hl2, at0, at1]
      have sm : Same H H' := Same.trans s1 sH
      have qn : Mm.spelled bars sh b 0 [] = none → Q V.non H' := (k H' sm).1
      by_cases h255 : x = 255
      · rw [if_pos (show (x : Int) = 255 by omega)]
        rw [if_pos h255] at hsp
        refine ⟨qb, bars, a, n, rfl, sH _ _ hbg, bo, ?_⟩
        cases e : Kct9.barsFrom bars a n with
        | none =>
          rw [e] at hsp
          have := qn hsp.symm
          simp only [if_true]
          split <;> exact this
        | some m =>
          rw [e] at hsp
          simp only at hsp
          by_cases h0 : n = 0
          · rw [if_pos h0] at hsp
            rw [if_pos (by omega)]
            exact qn hsp.symm
          · rw [if_neg h0, if_neg (by omega), if_pos (Or.inr h255)] at hsp
            rw [if_neg (by omega), if_neg (by simp), if_neg (by omega), if_pos (by omega), if_neg (by omega)]
            exact ⟨as, ns, a + m, _, _, _, _, _, rfl, sH, hn, hnd, hfr, by omega, hsp, fun z hz => Nat.le_trans (hen z hz) (by omega)⟩
      · rw [if_neg (show ¬ (x : Int) = 255 by omega)]
        rw [if_neg h255] at hsp
        simp only at hsp
        have ean : (a : Int) + (n : Int) = ((a + n : Nat) : Int) := rfl
        rw [ean]
        by_cases h0 : n = 0
        · rw [if_pos h0] at hsp
          rw [if_pos (by omega)]
          exact qn hsp.symm
        · rw [if_neg h0] at hsp
          rw [if_neg (by omega), if_neg (by simp)]
          by_cases h253 : x = 253
          · rw [if_pos h253] at hsp
            rw [if_pos (by omega)]
            refine ⟨_, by rw [hn.lst]; rfl, ?_⟩
            rw [List.length_map, hll]
            rcases List.eq_nil_or_concat ns with hns | ⟨ns', z, hns⟩
            · subst hns
              rw [if_pos (by simp)]
              exact qn hsp.symm
            · rw [List.concat_eq_append] at hns
              subst hns
              rw [if_neg (by simp; omega)]
              rw [List.getLast?_concat] at hsp
              simp only [List.dropLast_concat] at hsp
              rcases List.eq_nil_or_concat as with has | ⟨as', y, has⟩
              · subst has
                simp at hll
              · rw [List.concat_eq_append] at has
                subst has
                have hpr : Paired (NoteAt c H') as' ns' ∧ NoteAt c H' y z := Mm.paired_snoc_inv hn.nts
                obtain ⟨hpr, dz, hz⟩ := hpr
                refine ⟨_, by rw [hn.lst]; rfl, V.ref y, at_last (by simp), y, rfl, ?_⟩
                simp_arith only [hz, T.c_Note, T.a_Note_end, n_Note, p_Note_end]
                have hzs := hen z (by simp)
                have hyD : y ≠ D := ne_of hz hn.lst (by intro q; cases q)
                have hya : ∀ x ∈ as', x ≠ y := fun x hx e => by
                  subst e
                  exact (List.nodup_append.mp hnd).2.2 x hx x (by simp) rfl
                have hyH : H1 y = none := hfr y (by simp)
                refine ⟨by decide, as' ++ [y], ns' ++ [{ z with long := a + n - z.start }], a + n, _, _, _, _, _, rfl, Same.upd' sH hyH, ⟨by rw [upd_ne (Ne.symm hyD)]; exact hn.lst, Paired.snoc (Mm.paired_mem (fun x hx m _ ⟨dm, hm⟩ => ⟨dm, by rw [upd_ne (hya x hx)]; exact hm⟩) hpr) ⟨dz, ?_⟩⟩, hnd, hfr, by simp at hnl ⊢; omega, hsp, fun m hm => ?_⟩
                · rw [upd_same]
                  have e9 : Kct9.ends { z with long := a + n - z.start } = a + n := by
                    unfold Kct9.ends at hzs ⊢
                    simp only
                    omega
                  rw [e9]
                · rcases List.mem_append.mp hm with hm | hm
                  · exact Nat.le_trans (hen m (by simp [hm])) (by omega)
                  · simp at hm
                    subst hm
                    unfold Kct9.ends at hzs ⊢
                    simp only
                    omega
          · rw [if_neg h253] at hsp
            rw [if_neg (by omega)]
            by_cases h254 : x = 254
            · rw [if_pos (Or.inl h254)] at hsp
              rw [if_neg (by omega)]
              exact ⟨as, ns, a + n, _, _, _, _, _, rfl, sH, hn, hnd, hfr, by omega, hsp, fun z hz => Nat.le_trans (hen z hz) (by omega)⟩
            · rw [if_neg (by omega)] at hsp
              rw [if_pos (by omega), if_pos (by omega)]
              refine ⟨_, by rw [hn.lst]; rfl, fun y dy hy hdy nxy => ⟨y, dy, _, _, _, rfl, upd_same, rfl, ?_⟩⟩
              have hyH : H1 y = none := free_of sH hy
              have sy : ∀ u1 u2 u3, Same H' (upd (upd (upd H' dy u1) y u2) y u3) := fun u1 u2 u3 => Same.upd' (Same.upd' (Same.new hdy) hy) hy
              have hDy : D ≠ y := ne_of_none hn.lst hy
              refine ⟨_, sy _ _ _ _ _ hn.lst, by rw [List.length_map, sizeLine_eq]; omega, as ++ [y], ns ++ [⟨a, n, (x : Int) - sh - 24⟩], a + n, _, _, _, _, _, rfl, Same.upd' (Same.trans sH (sy _ _ _)) hD, ⟨by rw [upd_same]; simp, ?_⟩, ?_, ?_, by simp; omega, hsp, fun m hm => ?_⟩
              · refine Paired.snoc (Paired.imp' (fun x' m ⟨dm, hm⟩ => ⟨dm, ?_⟩) hn.nts) ⟨dy, ?_⟩
                · rw [upd_ne (Ne.symm hDy), upd_same]
                  rfl
                · rw [upd_ne (ne_of hm hn.lst (by intro q; cases q))]
                  exact sy _ _ _ _ _ hm
              · refine List.nodup_append.mpr ⟨hnd, by simp, fun x' hx' y' hy' e => ?_⟩
                simp at hy'
                subst e hy'
                obtain ⟨j, hj⟩ := List.getElem?_of_mem hx'
                obtain ⟨m, _, dm, hm⟩ := paired_get hn.nts hj
                rw [hm] at hy
                cases hy
              · intro x' hx'
                rcases List.mem_append.mp hx' with hx' | hx'
                · exact hfr x' hx'
                · simp at hx'
                  subst hx'
                  exact hyH
              · rcases List.mem_append.mp hm with hm | hm
                · exact Nat.le_trans (hen m hm) (by omega)
                · simp at hm
                  subst hm
                  exact Nat.le_refl _
    · rintro σ H' ⟨as, ns, a, v6, v7, v8, v9, v10, rfl, sH, hn, hnd, hfr, hnl, hsp, hen⟩
      simp_arith only []
      rw [show 2 * (b.length / 2) = b.length by omega, List.drop_length, Mm.spelled] at hsp
      exact (k H' (Same.trans s1 sH)).2 ns D as hsp.symm hDH hnd (fun x hx => free_of s1 (hfr x hx)) (by omega) hn
def dN (l : List Nat) : PyData := .list (l.map fun n : Nat => PyData.int n)
theorem dpAll_nats {K : PySem.W.Frag} {H : Hp} : ∀ l : List Nat, DpAll K H (natsV l) (l.map fun n : Nat => PyData.int n)
  | [] => .nil
  | n :: l => .cons (.int n) (dpAll_nats l)
theorem dp_nats {K : PySem.W.Frag} {H : Hp} {a : Addr} {l : List Nat} (h : H a = some (.lst (natsV l))) : Dp K H (.ref a) (dN l) := .lst (SqL.of h) (dpAll_nats l)
theorem shaped_nats (l : List Nat) : SeqAt.shaped (dN l) = true := by
  have h : PyData.canLayAll0 (l.map fun n : Nat => PyData.int n) = true ∧ PyData.depthAll (l.map fun n : Nat => PyData.int n) = 0 := by
    induction l with
    | nil => exact ⟨by simp only [List.map_nil, PyData.canLayAll0], by simp only [List.map_nil, PyData.depthAll]⟩
    | cons x l ih => exact ⟨by simp only [List.map_cons, PyData.canLayAll0, PyData.canLay0, ih.1, Bool.and_self], by simp only [List.map_cons, PyData.depthAll, PyData.depth, ih.2, Nat.max_self]⟩
  unfold SeqAt.shaped dN
  rw [Bool.and_eq_true, decide_eq_true_eq]
  refine ⟨by simp only [PyData.canLay0, h.1], ?_⟩
  simp only [PyData.depth, h.2]
  decide
theorem eqv_nats : ∀ (l m : List Nat), (dN l).eqv (dN m) = decide (l = m) := by
  have h : ∀ (l m : List Nat), PyData.eqvAll (l.map fun n : Nat => PyData.int n) (m.map fun n : Nat => PyData.int n) = decide (l = m) := by
    intro l
    induction l with
    | nil =>
      intro m
      cases m with
      | nil => rfl
      | cons y m => rfl
    | cons x l ih =>
      intro m
      cases m with
      | nil => rfl
      | cons y m =>
        show ((x : Int) == (y : Int) && PyData.eqvAll _ _) = _
        rw [ih m, Bool.eq_iff_iff]
        simp
        omega
  intro l m
  exact h l m
theorem ok_read_notes {f : Addr} {fd : FuncData} (F : Fun K "read_notes" "read_notes" s_read_notes f fd) (T : Txt K mg c) {f_Player_init : Addr} {fd_Player_init : FuncData} (N_Player : Nw P w K mg base "Player" c.Player 1 ["self", "shift", "low", "top"] (sp_Player_init K c) f_Player_init fd_Player_init) {f_Player_may_sound : Addr} {fd_Player_may_sound : FuncData} (M_Player_may_sound : Mt P w K mg base c.Player "may_sound" 1 ["self", "high"] (sp_Player_may_sound K c) f_Player_may_sound fd_Player_may_sound) {f_spelled_notes : Addr} {fd_spelled_notes : FuncData} (F_spelled_notes : Fn P w K mg base "spelled_notes" 3 ["bars", "shift", "part"] (sp_spelled_notes K c) f_spelled_notes fd_spelled_notes) {f_written_part : Addr} {fd_written_part : FuncData} (F_written_part : Fn P w K mg base "written_part" 4 ["bars", "player"] (sp_written_part K c) f_written_part fd_written_part) : FnOk P w K mg base CX0 5 f fd ["bars", "player", "part"] (sp_read_notes K c) := by
  refine F.ok sc_read_notes (fun vs H Q E h => ?_) (fun cdv A outer s H vs Q E hr h => ?_)
  · obtain ⟨lb, a, dx, ln, l, as, s, p, b, rfl, _⟩ := h
    rfl
  · obtain ⟨lb, a, dx, ln, l, as, s, p, b, rfl, hb, wf, hp, wp, hl, hlen, hby, k⟩ := h
    refine ⟨_, (pss_cons (ps_if (pt_cmpR op_eq (pe_op op_mod (pe_callB call_len_l (by rfl) T.b_len PySem.boot_len (pa_cons (pv 2) pa_nil)) pe_int) pe_int (nomark _)) (pss_one (ps_ret pe_non)) pss_nil)
      (pss_cons (ps_set (i := 3) sc_read_notes.nd rfl (by first | exact Or.inl rfl | exact Or.inr rfl) (pe_fn F_spelled_notes (hr.mono (by decide)) (pa_cons (pv 0) (pa_cons (pe_fld (pv 1) rfl) (pa_cons (pv 2) pa_nil)))))
      (pss_cons (ps_if (pw_or (pt_cmp (pc_isN (pv 3))) (pw_or1 (pt_cmpR op_gt (pe_callB call_len_l (by rfl) T.b_len PySem.boot_len (pa_cons (pv 3) pa_nil)) (pe_num T.n_MOST_NOTES) (nomark _)))).pt (pss_one (ps_ret pe_non)) pss_nil)
      (pss_cons (ps_if (pt_not (pt_val (pe_callB (cr_all rfl) (by rfl) T.b_all PyProof.Rows.boot_all (pa_cons (pe_lc rfl sc_read_notes.nd (pi_lst (pv 3)) (blkOk_by (own := [("note", 5)]) (by with_unfolding_all rfl)) (fun _ _ _ _ _ => pg_name (i := 5) sc_read_notes.nd rfl (Or.inl rfl)) (fun _ _ _ _ _ => pts_nil) (fun _ _ _ _ _ => (pe_mt M_Player_may_sound T.c_Player (hr.mono (by decide)) (pv 1) (pa_cons (pe_fldB (pv 5) rfl) pa_nil)))) pa_nil)))) (pss_one (ps_ret pe_non)) pss_nil)
      (pss_cons (ps_set (i := 4) sc_read_notes.nd rfl (by first | exact Or.inl rfl | exact Or.inr rfl) (pe_new N_Player (hr.mono (by decide)) (pa_cons (pe_fld (pv 1) rfl) (pa_cons (pe_fld (pv 1) rfl) (pa_cons (pe_fld (pv 1) rfl) pa_nil)))))
      (pss_cons (ps_fld (pv 4) (pv 3) rfl)
      (pss_cons (ps_if (pt_cmpR (op_neD hr.units) (pe_fn F_written_part (hr.mono (by decide)) (pa_cons (pv 0) (pa_cons (pv 4) pa_nil))) (pv 2) (nomark _)) (pss_one (ps_ret pe_non)) pss_nil)
      (pss_one (ps_ret (pv 3)))))))))), ?_⟩
    have hl' : H l = some (.lst (natsV b)) := hl
    simp_arith only [hl', hp.obj, T.c_Player, T.a_Player_shift, l_Player_shift]
    have hbl : (natsV b).length = b.length := by simp [natsV]
    rw [hbl]
    refine ⟨by decide, ?_⟩
    split
    · rename_i h1
      exact (k H (Same.refl' H)).1 (Mm.read_odd (by omega))
    · rename_i h1
      have bo : BOk s.bars := ⟨wf.blen, fun b hb => (wf.bars b hb).1⟩
      refine ⟨lb, l, s.bars, b, p.shift, rfl, hb, bo, hl, by omega, hlen, fun H1 s1 => ⟨fun hno => ?_, fun ns q as' hsp hq hnd hfr hnl hn => ?_⟩⟩
      · dsimp only
        rw [if_pos rfl]
        refine (k H1 s1).1 ?_
        cases e : Kct9.notesOf s p b with
        | none => rfl
        | some l2 =>
          have := (Mm.read_of wf wp e).1
          rw [hno] at this
          cases this
      · dsimp only
        rw [if_neg (by simp)]
        have none_if : (¬ (ns.length ≤ 256 ∧ (∀ n ∈ ns, Kct9.inRange p n.high = true) ∧ Kct9.part s { p with notes := ns } = b)) → Kct9.notesOf s p b = none := fun hno => by
          cases e : Kct9.notesOf s p b with
          | none => rfl
          | some l2 =>
            obtain ⟨h2, h3, h4, h5⟩ := Mm.read_of wf wp e
            rw [hsp] at h2
            cases h2
            exact absurd ⟨h3, h4, h5⟩ hno
        have hnl2 := Paired.length hn.nts
        simp_arith only [hn.lst]
        rw [List.length_map, hnl2]
        split
        · rename_i h2
          exact (k H1 s1).1 (none_if fun ⟨z, _⟩ => by omega)
        · rename_i h2
          intro D hD
          have hp1 := hp.same s1
          refine lc_list (xs := as'.map V.ref) (fun i H' => H' = upd H1 D (.lst ((ns.take i).map fun n => V.bl (Kct9.inRange p n.high)))) rfl (fun i H' _ e => ?_) ?_ ?_
          · subst e
            exact SqL.of (by rw [upd_ne (ne_of_none hn.lst hD)]; exact hn.lst)
          · rintro i y H' hi rfl
            obtain ⟨x, hx, rfl⟩ := map_get hi
            obtain ⟨n, hnn, dn, hnote⟩ := paired_get hn.nts hx
            have hnote' : ∀ u, upd H1 D u x = some (HO.ins c.Note dn (fs_Note (V.int n.start) (V.int (Kct9.ends n)) (V.int n.high))) := fun u => by rw [upd_ne (ne_of_none hnote hD)]; exact hnote
            have hpo : ∀ u, upd H1 D u a = some (.ins c.Player dx (fs_Player (.int p.shift) (.int p.low) (.int p.top) (.ref ln))) := fun u => by rw [upd_ne (ne_of_none hp1.obj hD)]; exact hp1.obj
            simp_arith only [wipe, hnote', hpo, T.c_Note, T.a_Note_high, l_Note_high, l_Player_may_sound]
            refine ⟨a, dx, p.shift, p.low, p.top, .ref ln, n.high, rfl, hpo _, _, upd_same, by simp [sizeLine_eq]; omega, ?_⟩
            rw [upd_upd, take_snoc hnn]
            simp [Kct9.inRange]
          · rintro H' rfl
            rw [List.length_map, hnl2, List.take_length]
            refine ⟨ns.map fun n => Kct9.inRange p n.high, SqL.of (by rw [upd_same, List.map_map]; rfl), ?_⟩
            have sD : Same H1 (upd H1 D (.lst (ns.map fun n => V.bl (Kct9.inRange p n.high)))) := Same.new hD
            generalize upd H1 D (.lst (ns.map fun n => V.bl (Kct9.inRange p n.high))) = H2 at sD ⊢
            split
            · rename_i h3
              refine (k H2 (Same.trans s1 sD)).1 (none_if fun ⟨_, z, _⟩ => ?_)
              rw [List.all_eq_false] at h3
              obtain ⟨x, hx, h4⟩ := h3
              obtain ⟨n, hnn, rfl⟩ := List.mem_map.mp hx
              exact h4 (z n hnn)
            · rename_i h3
              have hall : ∀ n ∈ ns, Kct9.inRange p n.high = true := fun n hnn => by
                have h4 : (ns.map fun n => Kct9.inRange p n.high).all id = true := by simpa using h3
                exact List.all_eq_true.mp h4 _ (List.mem_map_of_mem hnn)
              have hp2 := hp1.same sD
              have hn2 := hn.same sD
              obtain ⟨hch, hpos, _⟩ := Mm.spelled_ord b 0 [] ns hsp List.Pairwise.nil (by simp) (by simp)
              simp_arith only [hp2.obj, T.c_Player, T.a_Player_shift, T.a_Player_low, T.a_Player_top, l_Player_shift, l_Player_low, l_Player_top]
              intro y dy hy hdy nxy
              refine ⟨y, dy, _, _, _, rfl, upd_same, fun l2 hl2 => ⟨rfl, ?_⟩⟩
              have l2y : l2 ≠ y := fun e => by
                rw [e, upd_same] at hl2
                cases hl2
              have hl20 : H2 l2 = none := by
                rw [upd_ne l2y] at hl2
                by_cases e : l2 = dy
                · rw [e, upd_same] at hl2
                  cases hl2
                · rw [upd_ne e] at hl2
                  exact hl2
              simp_arith only [T.c_Player, T.a_Player_notes, n_Player, p_Player_notes]
              refine ⟨by decide, ?_⟩
              have s3 : ∀ u1 u2 u3 u4, Same H2 (upd (upd (upd (upd H2 dy u1) y u2) l2 u3) y u4) := fun u1 u2 u3 u4 => Same.upd' (Same.upd' (Same.upd' (Same.new hdy) hy) hl20) hy
              have s4 : ∀ u1 u2 u3 u4, Same H (upd (upd (upd (upd H2 dy u1) y u2) l2 u3) y u4) := fun u1 u2 u3 u4 => Same.trans (Same.trans s1 sD) (s3 u1 u2 u3 u4)
              refine ⟨lb, y, dy, q, as', s.bars, { p with notes := ns }, rfl, s4 _ _ _ _ _ _ hb, bo, ⟨upd_same, hn2.same (s3 _ _ _ _)⟩, ⟨⟨hch, hpos⟩, wp.sh1, fun n hnn => ?_, by show ns.length ≤ 256; omega⟩, fun H5 qp s5 hqp hpt => ?_⟩
              · have h5 : p.low ≤ n.high ∧ n.high ≤ p.top := by simpa [Kct9.inRange] using hall n hnn
                have h6 := wp.low0
                omega
              · have sH5 : Same H H5 := Same.trans (s4 _ _ _ _) s5
                have hpt' : H5 qp = some (.lst (natsV (Kct9.write 0 (Kct9.barsOf { p with notes := ns } s.bars 0)))) := hpt
                refine ⟨_, dp_nats hpt', _, dp_nats (sH5 _ _ hl'), shaped_nats _, shaped_nats _, ?_⟩
                rw [eqv_nats]
                split
                · rename_i h7
                  refine (k H5 sH5).1 (none_if fun ⟨_, _, z⟩ => ?_)
                  have : Kct9.write 0 (Kct9.barsOf { p with notes := ns } s.bars 0) = b := z
                  rw [this] at h7
                  simp at h7
                · rename_i h7
                  have h8 : Kct9.write 0 (Kct9.barsOf { p with notes := ns } s.bars 0) = b := by simpa using h7
                  refine (k H5 sH5).2 ns q as' (Mm.read_some wf wp hsp (by omega) hall h8) hq hnd hfr (hn2.same (Same.trans (s3 _ _ _ _) s5))
def sndP (s : Kct9.Abs) (t i : Nat) : List (Nat × Nat) := (List.range i).filterMap fun i => ((s.players[i]?).bind fun p => Kct9.soundsAt p.notes t).map fun h => (i, h.toNat)
theorem sndP_none {s : Kct9.Abs} {t i : Nat} {p : Kct9.Player} (hp : s.players[i]? = some p) (h : Kct9.soundsAt p.notes t = none) : sndP s t (i + 1) = sndP s t i := by
  unfold sndP
  rw [List.range_succ, List.filterMap_append]
  simp [hp, h]
theorem sndP_some {s : Kct9.Abs} {t i : Nat} {p : Kct9.Player} {z : Int} (hp : s.players[i]? = some p) (h : Kct9.soundsAt p.notes t = some z) : sndP s t (i + 1) = sndP s t i ++ [(i, z.toNat)] := by
  unfold sndP
  rw [List.range_succ, List.filterMap_append]
  simp [hp, h]
theorem sndP_len (s : Kct9.Abs) (t i : Nat) : (sndP s t i).length ≤ i := by
  unfold sndP
  have := List.length_filterMap_le (fun i => ((s.players[i]?).bind fun p => Kct9.soundsAt p.notes t).map fun h => (i, h.toNat)) (List.range i)
  simpa using this
theorem flat2_len (l : List (Nat × Nat)) : (l.flatMap fun p : Nat × Nat => [p.1, p.2]).length = 2 * l.length := by
  induction l with
  | nil => rfl
  | cons x l ih =>
    rw [List.flatMap_cons, List.length_append, ih]
    simp
    omega
theorem for_enum {K : PySem.W.Frag} {a : Addr} {xs : List V} {g : TG} {tb : TS} {D : Ends} {σ : L2.St} {H : Hp} (Pv : Nat → L2.St → Hp → Prop) (h0 : Pv 0 σ H) (hl : ∀ i σ H, i ≤ xs.length → Pv i σ H → SqL K H a xs)
    (hs : ∀ (i : Nat) x T σ H, xs[i]? = some x → Pv i σ H → H T = none → g (.ref T) σ (upd H T (.tup [.int (i : Nat), x])) fun σ2 H2 => tb { D with nx := Pv (i + 1), ct := Pv (i + 1), bk := D.nx } σ2 H2) (hd : ∀ σ H, Pv xs.length σ H → D.nx σ H) : LoopF (Ite K a) g tb D σ H := by
  refine ⟨fun i m σ H => m = xs.length - i ∧ i ≤ xs.length ∧ Pv i σ H, ⟨xs.length, by simp, Nat.zero_le _, h0⟩, ?_⟩
  rintro i m σ H ⟨rfl, hi, p⟩
  by_cases hlt : i < xs.length
  · refine .inr ⟨⟨xs, xs[i], hl i σ H hi p, List.getElem?_eq_getElem hlt⟩, Pv (i + 1), fun σ' H' p' => ⟨xs.length - (i + 1), by omega, rfl, hlt, p'⟩, ?_⟩
    rintro v H' ⟨T, x, rfl, hT, rfl, hx⟩
    exact hs i x T σ H (hx xs (hl i σ H hi p)) p hT
  · have : i = xs.length := by omega
    subst this
    exact .inl ⟨⟨xs, hl _ σ H hi p, Nat.le_refl _⟩, hd σ H p⟩
theorem no_player {s : Kct9.Abs} {i : Nat} (h : decide (i < s.players.length) = false) : s.players[i]? = none := by
  simp at h
  simp
  omega
theorem the_player {s : Kct9.Abs} {i : Nat} (h : ¬ decide (i < s.players.length) = false) : ∃ p, s.players[i]? = some p := ⟨_, List.getElem?_eq_getElem (by simpa using h)⟩
theorem ok_part_answer {f : Addr} {fd : FuncData} (F : Fun K "part_answer" "part_answer" s_part_answer f fd) (T : Txt K mg c) {f_Score_has_player : Addr} {fd_Score_has_player : FuncData} (M_Score_has_player : Mt P w K mg base c.Score "has_player" 1 ["self", "i"] (sp_Score_has_player K c) f_Score_has_player fd_Score_has_player) {f_written_part : Addr} {fd_written_part : FuncData} (F_written_part : Fn P w K mg base "written_part" 4 ["bars", "player"] (sp_written_part K c) f_written_part fd_written_part) : FnOk P w K mg base CX0 5 f fd ["score", "i"] (sp_part_answer K c) := by
  refine F.ok sc_part_answer (fun vs H Q E h => ?_) (fun cdv A outer s H vs Q E hr h => ?_)
  · obtain ⟨x, R, s, r, cl, rfl, ⟨i, rfl, _⟩, _⟩ := h
    rfl
  · obtain ⟨x, R, s, r, cl, rfl, ⟨i, rfl, rfl⟩, hs, wf, k⟩ := h
    refine ⟨_, (pss_cons (ps_if (pt_not (pt_val (pe_mt M_Score_has_player T.c_Score (hr.mono (by decide)) (pv 0) (pa_cons (pv 1) pa_nil)))) (pss_one (ps_ret (pe_lst (pa_cons (pe_num T.n_NOT_THERE) pa_nil)))) pss_nil)
      (pss_one (ps_ret (pe_op op_cat (pe_lst (pa_cons pe_int pa_nil)) (pe_fn F_written_part (hr.mono (by decide)) (pa_cons (pe_fld (pv 0) rfl) (pa_cons (pe_ix ix_lst (pe_fld (pv 0) rfl) (pv 1) (fun _ _ => rfl)) pa_nil))))))), ?_⟩
    simp_arith only [hs.obj, hs.lp, T.c_Score, T.a_Score_players, l_Score_players, l_Score_has_player]
    refine ⟨x, R, s, i, rfl, hs, _, rfl, ?_⟩
    split
    · rename_i h0
      rw [show Kct9.step s (.part i) = (s, .num (-2)) by simp only [Kct9.step, no_player h0]] at k
      exact ⟨by decide, fun q hq => k _ R q (hs.same (Same.new hq)) (Chg.of_same (Same.new hq)) upd_same hq⟩
    · rename_i h0
      obtain ⟨p, hp⟩ := the_player h0
      obtain ⟨r, hr', hpl, hat⟩ := hs.get hp
      have wp := wf.pl p (List.mem_of_getElem? hp)
      rw [show Kct9.step s (.part i) = (s, .bytes (Kct9.part s p)) by simp only [Kct9.step, hp]] at k
      refine ⟨by decide, fun q hq => ?_⟩
      have s1 : Same H (upd H q (.lst [.int 0])) := Same.new hq
      have hs1 := hs.same s1
      simp_arith only [hs1.obj, hs1.lp, T.c_Score, T.a_Score_players, T.a_Score_bars, l_Score_players, l_Score_bars, hat]
      refine ⟨R.lb, r.a, r.dx, r.ln, r.as, s.bars, p, rfl, hs1.lb, BOk.of wf, hpl.same s1, WOk.of wp, fun H' q2 s2 hq2 hpt => ?_⟩
      have hpt' : H' q2 = some (.lst (natsV (Kct9.part s p))) := hpt
      simp_arith only [hpt']
      refine ⟨_, s2 _ _ upd_same, ?_, fun q3 hq3 => ?_⟩
      · have h1 := Mm.part_len wf wp
        simp only [natsV, List.length_map, List.length_cons, List.length_nil, sizeLine_eq]
        omega
      · have s3 : Same H (upd H' q3 (.lst ([.int 0] ++ natsV (Kct9.part s p)))) := Same.trans (Same.trans s1 s2) (Same.new hq3)
        refine k _ R q3 (hs.same s3) (Chg.of_same s3) ?_ (free_of (Same.trans s1 s2) hq3)
        show upd _ q3 _ q3 = _
        rw [upd_same, map_nat]
        rfl
theorem ok_read_answer {f : Addr} {fd : FuncData} (F : Fun K "read_answer" "read_answer" s_read_answer f fd) (T : Txt K mg c) {f_Score_has_player : Addr} {fd_Score_has_player : FuncData} (M_Score_has_player : Mt P w K mg base c.Score "has_player" 1 ["self", "i"] (sp_Score_has_player K c) f_Score_has_player fd_Score_has_player) {f_read_notes : Addr} {fd_read_notes : FuncData} (F_read_notes : Fn P w K mg base "read_notes" 5 ["bars", "player", "part"] (sp_read_notes K c) f_read_notes fd_read_notes) : FnOk P w K mg base CX0 6 f fd ["score", "i", "part"] (sp_read_answer K c) := by
  refine F.ok sc_read_answer (fun vs H Q E h => ?_) (fun cdv A outer s H vs Q E hr h => ?_)
  · obtain ⟨x, R, s, r, cl, rfl, ⟨i, l, b, rfl, _⟩, _⟩ := h
    rfl
  · obtain ⟨x, R, s, r, cl, rfl, ⟨i, l, b, rfl, hl, hlen, hby, rfl⟩, hs, wf, k⟩ := h
    refine ⟨_, (pss_cons (ps_if (pt_not (pt_val (pe_mt M_Score_has_player T.c_Score (hr.mono (by decide)) (pv 0) (pa_cons (pv 1) pa_nil)))) (pss_one (ps_ret (pe_lst (pa_cons (pe_num T.n_NOT_THERE) pa_nil)))) pss_nil)
      (pss_cons (ps_set (i := 3) sc_read_answer.nd rfl (by first | exact Or.inl rfl | exact Or.inr rfl) (pe_ix ix_lst (pe_fld (pv 0) rfl) (pv 1) (fun _ _ => rfl)))
      (pss_cons (ps_set (i := 4) sc_read_answer.nd rfl (by first | exact Or.inl rfl | exact Or.inr rfl) (pe_fn F_read_notes (hr.mono (by decide)) (pa_cons (pe_fld (pv 0) rfl) (pa_cons (pv 3) (pa_cons (pv 2) pa_nil)))))
      (pss_cons (ps_if (pt_cmp (pc_isN (pv 4))) (pss_one (ps_ret (pe_lst (pa_cons (pe_num T.n_NOT_A_PART) pa_nil)))) pss_nil)
      (pss_cons (ps_fld (pv 3) (pv 4) rfl)
      (pss_one (ps_ret (pe_lst (pa_cons (pe_callB call_len_l (by rfl) T.b_len PySem.boot_len (pa_cons (pv 4) pa_nil)) pa_nil))))))))), ?_⟩
    simp_arith only [hs.obj, hs.lp, T.c_Score, T.a_Score_players, l_Score_players, l_Score_has_player]
    refine ⟨x, R, s, i, rfl, hs, _, rfl, ?_⟩
    split
    · rename_i h0
      rw [show Kct9.step s (.read i b) = (s, .num (-2)) by simp only [Kct9.step, no_player h0]] at k
      exact ⟨by decide, fun q hq => k _ R q (hs.same (Same.new hq)) (Chg.of_same (Same.new hq)) upd_same hq⟩
    · rename_i h0
      obtain ⟨p, hp⟩ := the_player h0
      obtain ⟨r, hr', hpl, hat⟩ := hs.get hp
      have wp := wf.pl p (List.mem_of_getElem? hp)
      simp_arith only [hs.obj, hs.lp, T.c_Score, T.a_Score_players, T.a_Score_bars, l_Score_players, l_Score_bars, hat]
      refine ⟨R.lb, r.a, r.dx, r.ln, l, r.as, s, p, b, rfl, hs.lb, wf, hpl, wp, hl, hlen, hby, fun H' s1 => ⟨fun hno => ?_, fun ns q as' hno hq hnd hfr hn => ?_⟩⟩
      · rw [show Kct9.step s (.read i b) = (s, .num (-71)) by simp only [Kct9.step, hp, hno]] at k
        simp_arith only []
        exact ⟨by decide, fun q hq => k _ R q (hs.same (Same.trans s1 (Same.new hq))) (Chg.of_same (Same.trans s1 (Same.new hq))) upd_same (free_of s1 hq)⟩
      · rw [show Kct9.step s (.read i b) = (Kct9.setAt s i { p with notes := ns }, .num ns.length) by simp only [Kct9.step, hp, hno]] at k
        have hpl1 := hpl.same s1
        have hs1 := hs.same s1
        simp_arith only [hpl1.obj, T.c_Player, T.a_Player_notes, n_Player, p_Player_notes]
        rw [if_neg (by simp)]
        refine ⟨by decide, ?_⟩
        have nq : q ≠ r.a := ne_of hn.lst hpl1.obj (by intro z; cases z)
        have hq2 : upd H' r.a (.ins c.Player r.dx (fs_Player (.int p.shift) (.int p.low) (.int p.top) (.ref q))) q = some (.lst (as'.map V.ref)) := by
          rw [upd_ne nq]
          exact hn.lst
        simp_arith only [hq2]
        have pl' : PlAt c (upd H' r.a (.ins c.Player r.dx (fs_Player (.int p.shift) (.int p.low) (.int p.top) (.ref q)))) r.a r.dx q as' { p with notes := ns } := ⟨upd_same, hq2, Paired.imp' (fun a m ⟨dm, hm⟩ => ⟨dm, by rw [upd_ne (note_ne hm hpl1.obj)]; exact hm⟩) hn.nts⟩
        have kp : ∀ b o, H b = some o → b ≠ r.a → upd H' r.a (.ins c.Player r.dx (fs_Player (.int p.shift) (.int p.low) (.int p.top) (.ref q))) b = some o := fun b o e hb => by
          rw [upd_ne hb]
          exact s1 _ _ e
        have kt : ∀ b o, H b = some o → (∀ xs dx fs, o ≠ .ins xs dx fs) → upd H' r.a (.ins c.Player r.dx (fs_Player (.int p.shift) (.int p.low) (.int p.top) (.ref q))) b = some o := fun b o e d => kp b o e (ne_of e hpl.obj (d _ _ _))
        obtain ⟨q1, q2⟩ := hs.setPl hr' hp pl' (fun b o e h1 h2 => kp b o e h1) (by
          rcases hs.tab with t | ⟨c', t, u⟩
          · exact .inl (kt _ _ t (fun _ _ _ z => by cases z))
          · exact .inr ⟨c', kt _ _ t (fun _ _ _ z => by cases z), kt _ _ u (fun _ _ _ z => by cases z)⟩) (.inr hq) hnd (fun a ha => .inr (hfr a ha))
        refine ⟨by decide, fun q3 hq3 => ?_⟩
        have s3 := Same.new (o := HO.lst [V.int ((as'.map V.ref).length : Nat)]) (upd_none.mpr hq3 : upd H' r.a (.ins c.Player r.dx (fs_Player (.int p.shift) (.int p.low) (.int p.top) (.ref q))) q3 = none)
        refine k _ _ q3 (q1.same s3) (q2.after s3) ?_ (free_of s1 hq3.2)
        show upd _ q3 _ q3 = _
        rw [upd_same, List.length_map, Paired.length hn.nts]
        rfl
theorem ok_pages_answer {f : Addr} {fd : FuncData} (F : Fun K "pages_answer" "pages_answer" s_pages_answer f fd) (T : Txt K mg c) {f_Score_has_player : Addr} {fd_Score_has_player : FuncData} (M_Score_has_player : Mt P w K mg base c.Score "has_player" 1 ["self", "i"] (sp_Score_has_player K c) f_Score_has_player fd_Score_has_player) {f_page_ends : Addr} {fd_page_ends : FuncData} (F_page_ends : Fn P w K mg base "page_ends" 4 ["bars", "player", "most", "rest"] (sp_page_ends K c) f_page_ends fd_page_ends) : FnOk P w K mg base CX0 5 f fd ["score", "i", "most", "rest"] (sp_pages_answer K c) := by
  refine F.ok sc_pages_answer (fun vs H Q E h => ?_) (fun cdv A outer s H vs Q E hr h => ?_)
  · obtain ⟨x, R, s, r, cl, rfl, ⟨i, m, t, rfl, _⟩, _⟩ := h
    rfl
  · obtain ⟨x, R, s, r, cl, rfl, ⟨i, m, t, rfl, rfl⟩, hs, wf, k⟩ := h
    refine ⟨_, (pss_cons (ps_if (pt_not (pt_val (pe_mt M_Score_has_player T.c_Score (hr.mono (by decide)) (pv 0) (pa_cons (pv 1) pa_nil)))) (pss_one (ps_ret (pe_lst (pa_cons (pe_num T.n_NOT_THERE) pa_nil)))) pss_nil)
      (pss_cons (ps_set (i := 4) sc_pages_answer.nd rfl (by first | exact Or.inl rfl | exact Or.inr rfl) (pe_fn F_page_ends (hr.mono (by decide)) (pa_cons (pe_fld (pv 0) rfl) (pa_cons (pe_ix ix_lst (pe_fld (pv 0) rfl) (pv 1) (fun _ _ => rfl)) (pa_cons (pv 2) (pa_cons (pv 3) pa_nil))))))
      (pss_cons (ps_if (pt_cmp (pc_isN (pv 4))) (pss_one (ps_ret (pe_lst (pa_cons (pe_num T.n_NO_PAGES) pa_nil)))) pss_nil)
      (pss_one (ps_ret (pe_op op_cat (pe_lst (pa_cons (pe_callB call_len_l (by rfl) T.b_len PySem.boot_len (pa_cons (pv 4) pa_nil)) pa_nil)) (pv 4))))))), ?_⟩
    simp_arith only [hs.obj, hs.lp, T.c_Score, T.a_Score_players, l_Score_players, l_Score_has_player]
    refine ⟨x, R, s, i, rfl, hs, _, rfl, ?_⟩
    split
    · rename_i h0
      rw [show Kct9.step s (.pages i m t) = (s, .num (-2)) by simp only [Kct9.step, no_player h0]] at k
      exact ⟨by decide, fun q hq => k _ R q (hs.same (Same.new hq)) (Chg.of_same (Same.new hq)) upd_same hq⟩
    · rename_i h0
      obtain ⟨p, hp⟩ := the_player h0
      obtain ⟨r, hr', hpl, hat⟩ := hs.get hp
      have wp := wf.pl p (List.mem_of_getElem? hp)
      simp_arith only [hs.obj, hs.lp, T.c_Score, T.a_Score_players, T.a_Score_bars, l_Score_players, l_Score_bars, hat]
      refine ⟨R.lb, r.a, r.dx, r.ln, r.as, s, p, m, t, rfl, hs.lb, BOk.of wf, hpl, WOk.of wp, wp.en, fun H' s1 => ⟨fun hno => ?_, fun l q hno hq hll hl => ?_⟩⟩
      · rw [show Kct9.step s (.pages i m t) = (s, .num (-33)) by simp only [Kct9.step, hp, hno]] at k
        simp_arith only []
        exact ⟨by decide, fun q hq => k _ R q (hs.same (Same.trans s1 (Same.new hq))) (Chg.of_same (Same.trans s1 (Same.new hq))) upd_same (free_of s1 hq)⟩
      · rw [show Kct9.step s (.pages i m t) = (s, .some_ l) by simp only [Kct9.step, hp, hno]] at k
        have hl' : H' q = some (.lst (natsV l)) := hl
        simp_arith only [hl']
        rw [if_neg (by simp)]
        have hnl : (natsV l).length = l.length := by simp [natsV]
        refine ⟨by decide, fun q2 hq2 => ⟨_, by rw [upd_ne (ne_of_none hl' hq2)]; exact hl', by rw [sizeLine_eq]; omega, fun q3 hq3 => ?_⟩⟩
        have s3 : Same H (upd (upd H' q2 (.lst [.int (natsV l).length])) q3 (.lst ([.int (natsV l).length] ++ natsV l))) := Same.trans s1 (Same.upd' (Same.new hq2) hq3.2)
        refine k _ R q3 (hs.same s3) (Chg.of_same s3) ?_ (free_of s1 hq3.2)
        show upd _ q3 _ q3 = _
        rw [upd_same, hnl, map_nat]
        rfl
theorem ok_parallels_answer {f : Addr} {fd : FuncData} (F : Fun K "parallels_answer" "parallels_answer" s_parallels_answer f fd) (T : Txt K mg c) {f_Score_has_player : Addr} {fd_Score_has_player : FuncData} (M_Score_has_player : Mt P w K mg base c.Score "has_player" 1 ["self", "i"] (sp_Score_has_player K c) f_Score_has_player fd_Score_has_player) {f_count_parallels : Addr} {fd_count_parallels : FuncData} (F_count_parallels : Fn P w K mg base "count_parallels" 3 ["notes", "other_notes"] (sp_count_parallels K c) f_count_parallels fd_count_parallels) : FnOk P w K mg base CX0 4 f fd ["score", "i", "j"] (sp_parallels_answer K c) := by
  refine F.ok sc_parallels_answer (fun vs H Q E h => ?_) (fun cdv A outer s H vs Q E hr h => ?_)
  · obtain ⟨x, R, s, r, cl, rfl, ⟨i, j, rfl, _⟩, _⟩ := h
    rfl
  · obtain ⟨x, R, s, r, cl, rfl, ⟨i, j, rfl, rfl⟩, hs, wf, k⟩ := h
    refine ⟨_, (pss_cons (ps_if (pw_or (pt_not (pt_val (pe_mt M_Score_has_player T.c_Score (hr.mono (by decide)) (pv 0) (pa_cons (pv 1) pa_nil)))) (pw_or1 (pt_not (pt_val (pe_mt M_Score_has_player T.c_Score (hr.mono (by decide)) (pv 0) (pa_cons (pv 2) pa_nil)))))).pt (pss_one (ps_ret (pe_lst (pa_cons (pe_num T.n_NOT_THERE) pa_nil)))) pss_nil)
      (pss_cons (ps_if (pt_cmpR op_eq (pv 1) (pv 2) (nomark _)) (pss_one (ps_ret (pe_lst (pa_cons (pe_num T.n_NOT_ALLOWED) pa_nil)))) pss_nil)
      (pss_one (ps_ret (pe_lst (pa_cons (pe_fn F_count_parallels (hr.mono (by decide)) (pa_cons (pe_fld (pe_ix ix_lst (pe_fld (pv 0) rfl) (pv 1) (fun _ _ => rfl)) rfl) (pa_cons (pe_fld (pe_ix ix_lst (pe_fld (pv 0) rfl) (pv 2) (fun _ _ => rfl)) rfl) pa_nil))) pa_nil)))))), ?_⟩
    simp_arith only [hs.obj, hs.lp, T.c_Score, T.a_Score_players, l_Score_players, l_Score_has_player]
    refine ⟨x, R, s, i, rfl, hs, _, rfl, ?_⟩
    split
    · rename_i h0
      rw [show Kct9.step s (.parallels i j) = (s, .num (-2)) by simp only [Kct9.step, no_player h0]] at k
      exact ⟨by decide, fun q hq => k _ R q (hs.same (Same.new hq)) (Chg.of_same (Same.new hq)) upd_same hq⟩
    · rename_i h0
      obtain ⟨p, hp⟩ := the_player h0
      obtain ⟨r, hr', hpl, hat⟩ := hs.get hp
      have wp := wf.pl p (List.mem_of_getElem? hp)
      simp_arith only [hs.obj, l_Score_has_player]
      refine ⟨x, R, s, j, rfl, hs, _, rfl, ?_⟩
      split
      · rename_i h1
        rw [show Kct9.step s (.parallels i j) = (s, .num (-2)) by simp only [Kct9.step, hp, no_player h1]] at k
        exact ⟨by decide, fun q hq => k _ R q (hs.same (Same.new hq)) (Chg.of_same (Same.new hq)) upd_same hq⟩
      · rename_i h1
        obtain ⟨p2, hp2⟩ := the_player h1
        obtain ⟨r2, hr2, hpl2, hat2⟩ := hs.get hp2
        have wp2 := wf.pl p2 (List.mem_of_getElem? hp2)
        have hst : Kct9.step s (.parallels i j) = if i = j then (s, .num (-22)) else (s, .num ((List.range (Kct9.total s)).filter (Kct9.isParallel p.notes p2.notes)).length) := by simp only [Kct9.step, hp, hp2]
        rw [hst] at k
        split
        · rename_i h2
          rw [if_pos (by omega)] at k
          exact ⟨by decide, fun q hq => k _ R q (hs.same (Same.new hq)) (Chg.of_same (Same.new hq)) upd_same hq⟩
        · rename_i h2
          rw [if_neg (by omega)] at k
          simp_arith only [hs.obj, hs.lp, T.c_Score, T.a_Score_players, l_Score_players, hat, hat2, hpl.obj, hpl2.obj, T.c_Player, T.a_Player_notes, l_Player_notes]
          refine ⟨r.ln, r2.ln, r.as, r2.as, p.notes, p2.notes, Kct9.total s, rfl, hpl.nl, hpl2.nl, ⟨wp.ch, wp.pos⟩, ⟨wp2.ch, wp2.pos⟩, wp.len, wp2.len, wp.en, wp2.en, fun H' s1 => ⟨by decide, fun q hq => ?_⟩⟩
          exact k _ R q (hs.same (Same.trans s1 (Same.new hq))) (Chg.of_same (Same.trans s1 (Same.new hq))) upd_same (free_of s1 hq)
theorem ok_behind_call {f : Addr} {fd : FuncData} (F : Fun K "behind_call" "behind_call" s_behind_call f fd) (T : Txt K mg c)  : FnOk P w K mg base CX0 1 f fd ["calls", "k"] (sp_behind_call K c) := by
  refine F.ok sc_behind_call (fun vs H Q E h => ?_) (fun cdv A outer s H vs Q E hr h => ?_)
  · obtain ⟨a, cs, k, p, rfl, _⟩ := h
    rfl
  · obtain ⟨a, cs, kk, p, rfl, hS, hp, h0, h1, h6, k⟩ := h
    refine ⟨_, (pss_cons (ps_set (i := 2) sc_behind_call.nd rfl (by first | exact Or.inl rfl | exact Or.inr rfl) (pe_op op_add (pe_op op_add (pv 1) pe_int) (pe_ix ix_tup (pe_kt T.k_SIZES) (pe_ix (ix_sq (intsV cs)) (pv 0) (pv 1) (fun _ _ => rfl)) (fun _ _ => rfl))))
      (pss_cons (ps_if (pt_cmpR op_eq (pe_ix (ix_sq (intsV cs)) (pv 0) (pv 1) (fun _ _ => rfl)) (pe_num T.n_READ) (nomark _)) (pss_one (ps_ret (pe_op op_add (pv 2) (pe_ix (ix_sq (intsV cs)) (pv 0) (pe_op op_sub (pv 2) pe_int) (fun _ _ => rfl))))) pss_nil)
      (pss_one (ps_ret (pv 2))))), ?_⟩
    have at0 : atI (intsV cs) (kk : Int) = some (V.int p) := atI_nat (by unfold intsV; rw [List.getElem?_map, hp]; rfl)
    simp_arith only [hS, at0]
    intro a2 ha2
    have ats : atI [V.int 0, V.int 1, V.int 3, V.int 4, V.int 2, V.int 1, V.int 2, V.int 3, V.int 1, V.int 1, V.int 2] p = some (V.int (Mm.sizeOf' p)) := by
      obtain ⟨n, rfl⟩ : ∃ n : Nat, p = (n : Int) := ⟨p.toNat, by omega⟩
      have hn : n ≤ 10 := by omega
      match n, hn with
      | 0, _ => rfl
      | 1, _ => rfl
      | 2, _ => rfl
      | 3, _ => rfl
      | 4, _ => rfl
      | 5, _ => rfl
      | 6, _ => rfl
      | 7, _ => rfl
      | 8, _ => rfl
      | 9, _ => rfl
      | 10, _ => rfl
    refine ⟨_, ha2, _, ats, _, rfl, ?_⟩
    split
    · rename_i h7
      have h7' : p = 6 := by simpa using h7
      rw [if_pos h7'] at k
      have hk := h6 h7'
      obtain ⟨z, hz⟩ : ∃ z, cs[kk + 2]? = some z := ⟨_, List.getElem?_eq_getElem hk⟩
      rw [hz] at k
      have e : Mm.sizeOf' p = 2 := by rw [h7']; rfl
      have e2 : (kk : Int) + 1 + Mm.sizeOf' p - 1 = ((kk + 2 : Nat) : Int) := by
        rw [e]
        omega
      rw [e2]
      exact ⟨_, atI_nat (by unfold intsV; rw [List.getElem?_map, hz]; rfl), _, rfl, k⟩
    · rename_i h7
      have h7' : ¬ p = 6 := by simpa using h7
      rw [if_neg h7', Int.add_zero] at k
      exact k
theorem ok_answer {f : Addr} {fd : FuncData} (F : Fun K "answer" "answer" s_answer f fd) (T : Txt K mg c) {f_Score_begin : Addr} {fd_Score_begin : FuncData} (M_Score_begin : Mt P w K mg base c.Score "begin" 1 ["self"] (sp_Score_begin K c) f_Score_begin fd_Score_begin) {f_Score_drop_note : Addr} {fd_Score_drop_note : FuncData} (M_Score_drop_note : Mt P w K mg base c.Score "drop_note" 2 ["self", "i", "start"] (sp_Score_drop_note K c) f_Score_drop_note fd_Score_drop_note) {f_Score_move_all : Addr} {fd_Score_move_all : FuncData} (M_Score_move_all : Mt P w K mg base c.Score "move_all" 3 ["self", "k"] (sp_Score_move_all K c) f_Score_move_all fd_Score_move_all) {f_Score_new_bar : Addr} {fd_Score_new_bar : FuncData} (M_Score_new_bar : Mt P w K mg base c.Score "new_bar" 1 ["self", "length"] (sp_Score_new_bar K c) f_Score_new_bar fd_Score_new_bar) {f_Score_new_note : Addr} {fd_Score_new_note : FuncData} (M_Score_new_note : Mt P w K mg base c.Score "new_note" 3 ["self", "i", "start", "length", "high"] (sp_Score_new_note K c) f_Score_new_note fd_Score_new_note) {f_Score_new_player : Addr} {fd_Score_new_player : FuncData} (M_Score_new_player : Mt P w K mg base c.Score "new_player" 3 ["self", "shift", "low", "top"] (sp_Score_new_player K c) f_Score_new_player fd_Score_new_player) {f_pages_answer : Addr} {fd_pages_answer : FuncData} (F_pages_answer : Fn P w K mg base "pages_answer" 5 ["score", "i", "most", "rest"] (sp_pages_answer K c) f_pages_answer fd_pages_answer) {f_parallels_answer : Addr} {fd_parallels_answer : FuncData} (F_parallels_answer : Fn P w K mg base "parallels_answer" 4 ["score", "i", "j"] (sp_parallels_answer K c) f_parallels_answer fd_parallels_answer) {f_part_answer : Addr} {fd_part_answer : FuncData} (F_part_answer : Fn P w K mg base "part_answer" 5 ["score", "i"] (sp_part_answer K c) f_part_answer fd_part_answer) {f_read_answer : Addr} {fd_read_answer : FuncData} (F_read_answer : Fn P w K mg base "read_answer" 6 ["score", "i", "part"] (sp_read_answer K c) f_read_answer fd_read_answer) {f_sounds_answer : Addr} {fd_sounds_answer : FuncData} (F_sounds_answer : Fn P w K mg base "sounds_answer" 2 ["score", "tick"] (sp_sounds_answer K c) f_sounds_answer fd_sounds_answer) : FnOk P w K mg base CX0 7 f fd ["score", "call", "numbers"] (sp_answer K c) := by
  refine F.ok sc_answer (fun vs H Q E h => ?_) (fun cdv A outer s H vs Q E hr h => ?_)
  · obtain ⟨x, R, s, r, cl, rfl, ⟨n, l, ns, rfl, _⟩, _⟩ := h
    rfl
  · obtain ⟨x, R, s, r, cl, rfl, ⟨n, l, ns, rfl, hl, hc⟩, hs, wf, k⟩ := h
    refine ⟨_, (pss_cons (ps_if (pt_cmpR op_eq (pv 1) (pe_num T.n_BEGIN) (nomark _)) (pss_one (ps_ret (pe_lst (pa_cons (pe_mt0 M_Score_begin T.c_Score (hr.mono (by decide)) (pv 0)) pa_nil)))) pss_nil)
      (pss_cons (ps_if (pt_cmpR op_eq (pv 1) (pe_num T.n_BAR) (nomark _)) (pss_one (ps_ret (pe_lst (pa_cons (pe_mt M_Score_new_bar T.c_Score (hr.mono (by decide)) (pv 0) (pa_cons (pe_ix ix_lst (pv 2) pe_int (fun _ _ => rfl)) pa_nil)) pa_nil)))) pss_nil)
      (pss_cons (ps_if (pt_cmpR op_eq (pv 1) (pe_num T.n_PLAYER) (nomark _)) (pss_one (ps_ret (pe_lst (pa_cons (pe_mt M_Score_new_player T.c_Score (hr.mono (by decide)) (pv 0) (pa_cons (pe_ix ix_lst (pv 2) pe_int (fun _ _ => rfl)) (pa_cons (pe_ix ix_lst (pv 2) pe_int (fun _ _ => rfl)) (pa_cons (pe_ix ix_lst (pv 2) pe_int (fun _ _ => rfl)) pa_nil)))) pa_nil)))) pss_nil)
      (pss_cons (ps_if (pt_cmpR op_eq (pv 1) (pe_num T.n_NOTE) (nomark _)) (pss_one (ps_ret (pe_lst (pa_cons (pe_mt M_Score_new_note T.c_Score (hr.mono (by decide)) (pv 0) (pa_cons (pe_ix ix_lst (pv 2) pe_int (fun _ _ => rfl)) (pa_cons (pe_ix ix_lst (pv 2) pe_int (fun _ _ => rfl)) (pa_cons (pe_ix ix_lst (pv 2) pe_int (fun _ _ => rfl)) (pa_cons (pe_ix ix_lst (pv 2) pe_int (fun _ _ => rfl)) pa_nil))))) pa_nil)))) pss_nil)
      (pss_cons (ps_if (pt_cmpR op_eq (pv 1) (pe_num T.n_DROP) (nomark _)) (pss_one (ps_ret (pe_lst (pa_cons (pe_mt M_Score_drop_note T.c_Score (hr.mono (by decide)) (pv 0) (pa_cons (pe_ix ix_lst (pv 2) pe_int (fun _ _ => rfl)) (pa_cons (pe_ix ix_lst (pv 2) pe_int (fun _ _ => rfl)) pa_nil))) pa_nil)))) pss_nil)
      (pss_cons (ps_if (pt_cmpR op_eq (pv 1) (pe_num T.n_PART) (nomark _)) (pss_one (ps_ret (pe_fn F_part_answer (hr.mono (by decide)) (pa_cons (pv 0) (pa_cons (pe_ix ix_lst (pv 2) pe_int (fun _ _ => rfl)) pa_nil))))) pss_nil)
      (pss_cons (ps_if (pt_cmpR op_eq (pv 1) (pe_num T.n_READ) (nomark _)) (pss_one (ps_ret (pe_fn F_read_answer (hr.mono (by decide)) (pa_cons (pv 0) (pa_cons (pe_ix ix_lst (pv 2) pe_int (fun _ _ => rfl)) (pa_cons (pe_slice sl_lst (pv 2) (po_some pe_int) po_none) pa_nil)))))) pss_nil)
      (pss_cons (ps_if (pt_cmpR op_eq (pv 1) (pe_num T.n_PAGES) (nomark _)) (pss_one (ps_ret (pe_fn F_pages_answer (hr.mono (by decide)) (pa_cons (pv 0) (pa_cons (pe_ix ix_lst (pv 2) pe_int (fun _ _ => rfl)) (pa_cons (pe_ix ix_lst (pv 2) pe_int (fun _ _ => rfl)) (pa_cons (pe_ix ix_lst (pv 2) pe_int (fun _ _ => rfl)) pa_nil))))))) pss_nil)
      (pss_cons (ps_if (pt_cmpR op_eq (pv 1) (pe_num T.n_SOUNDS) (nomark _)) (pss_one (ps_ret (pe_fn F_sounds_answer (hr.mono (by decide)) (pa_cons (pv 0) (pa_cons (pe_ix ix_lst (pv 2) pe_int (fun _ _ => rfl)) pa_nil))))) pss_nil)
      (pss_cons (ps_if (pt_cmpR op_eq (pv 1) (pe_num T.n_MOVE) (nomark _)) (pss_one (ps_ret (pe_lst (pa_cons (pe_mt M_Score_move_all T.c_Score (hr.mono (by decide)) (pv 0) (pa_cons (pe_ix ix_lst (pv 2) pe_int (fun _ _ => rfl)) pa_nil)) pa_nil)))) pss_nil)
      (pss_one (ps_ret (pe_fn F_parallels_answer (hr.mono (by decide)) (pa_cons (pv 0) (pa_cons (pe_ix ix_lst (pv 2) pe_int (fun _ _ => rfl)) (pa_cons (pe_ix ix_lst (pv 2) pe_int (fun _ _ => rfl)) pa_nil)))))))))))))))), ?_⟩
    have hl' : H l = some (.lst (intsV ns)) := hl
    simp_arith only [hl', hs.obj, T.c_Score]
    have one : ∀ {v : V} {H1 : Hp} {R' : SR} {s' : Kct9.Abs} {w : Int}, Kct9.step s cl = (s', .num w) → ScAt c H1 x R' s' → Chg H H1 R R' → v = .int w → 0 + 1 ≤ sizeLine ∧ ∀ (p : Addr), H1 p = none → Q (V.ref p) (upd H1 p (HO.lst [v])) := fun {v H1 R' s' w} hst hs' hch hv => by
      subst hv
      rw [hst] at k
      exact ⟨by decide, fun q hq => k _ R' q (hs'.same (Same.new hq)) (hch.after (Same.new hq)) upd_same (hch.free q hq)⟩
    have e0 : ∀ a r, atI (intsV (a :: r)) 0 = some (V.int a) := fun a r => atI_nat (j := 0) rfl
    have e1 : ∀ a b r, atI (intsV (a :: b :: r)) 1 = some (V.int b) := fun a b r => atI_nat (j := 1) rfl
    have e2 : ∀ a b d r, atI (intsV (a :: b :: d :: r)) 2 = some (V.int d) := fun a b d r => atI_nat (j := 2) rfl
    have e3 : ∀ a b d g r, atI (intsV (a :: b :: d :: g :: r)) 3 = some (V.int g) := fun a b d g r => atI_nat (j := 3) rfl
    rcases hc with ⟨rfl, rfl⟩ | ⟨a, rfl, rfl, rfl⟩ | ⟨h, a, z, rfl, rfl, rfl⟩ | ⟨i, a, m, h, rfl, rfl, rfl⟩ | ⟨i, a, rfl, rfl, rfl⟩ | ⟨i, rfl, rfl, rfl⟩ | ⟨i, kk, b, rfl, rfl, hb1, hb2, rfl⟩ | ⟨i, m, t, rfl, rfl, rfl⟩ | ⟨t, rfl, rfl, rfl⟩ | ⟨kk, rfl, rfl, rfl⟩ | ⟨i, j, rfl, rfl, rfl⟩
    · rw [if_pos rfl]
      exact ⟨l_Score_begin, x, R, s, rfl, hs, fun H' R' hs' hch => one rfl hs' hch rfl⟩
    · rw [if_neg (by decide), if_pos rfl]
      exact ⟨l_Score_new_bar, _, e0 _ _, x, R, s, _, _, rfl, ⟨a, rfl, rfl⟩, hs, wf, fun H' R' s' v hst hs' hch => one hst hs' hch rfl⟩
    · rw [if_neg (by decide), if_neg (by decide), if_pos rfl]
      exact ⟨l_Score_new_player, _, e0 _ _, _, e1 _ _ _, _, e2 _ _ _ _, x, R, s, _, _, rfl, ⟨h, a, z, rfl, rfl⟩, hs, wf, fun H' R' s' v hst hs' hch => one hst hs' hch rfl⟩
    · rw [if_neg (by decide), if_neg (by decide), if_neg (by decide), if_pos rfl]
      exact ⟨l_Score_new_note, _, e0 _ _, _, e1 _ _ _, _, e2 _ _ _ _, _, e3 _ _ _ _ _, x, R, s, _, _, rfl, ⟨i, a, m, h, rfl, rfl⟩, hs, wf, fun H' R' s' v hst hs' hch => one hst hs' hch rfl⟩
    · rw [if_neg (by decide), if_neg (by decide), if_neg (by decide), if_neg (by decide), if_pos rfl]
      exact ⟨l_Score_drop_note, _, e0 _ _, _, e1 _ _ _, x, R, s, _, _, rfl, ⟨i, a, rfl, rfl⟩, hs, wf, fun H' R' s' v hst hs' hch => one hst hs' hch rfl⟩
    · rw [if_neg (by decide), if_neg (by decide), if_neg (by decide), if_neg (by decide), if_neg (by decide), if_pos rfl]
      exact ⟨_, e0 _ _, x, R, s, _, _, rfl, ⟨i, rfl, rfl⟩, hs, wf, k⟩
    · rw [if_neg (by decide), if_neg (by decide), if_neg (by decide), if_neg (by decide), if_neg (by decide), if_neg (by decide), if_pos rfl]
      refine ⟨_, e0 _ _, fun q hq => ?_⟩
      have hcut : cutV (intsV ((i : Int) :: kk :: b.map fun z : Nat => (z : Int))) (some 2) none = natsV b := by
        have e9 : natsV b = intsV (b.map fun z : Nat => (z : Int)) := map_nat b
        rw [e9]
        unfold cutV intsV
        rw [show HT.sIx ((((i : Int) :: kk :: b.map fun z : Nat => (z : Int)).map V.int).length) 0 (some 2) = 2 from (HT.sIx_nat _ _ 2).trans (by simp), HT.sIx_none]
        simp [List.take_of_length_le]
      rw [hcut]
      have s1 := Same.new (o := HO.lst (natsV b)) hq
      exact ⟨x, R, s, _, _, rfl, ⟨i, q, b, rfl, upd_same, hb1, hb2, rfl⟩, hs.same s1, wf, fun H' R' q2 a1 a2 a3 a4 => k H' R' q2 a1 (Chg.before s1 a2) a3 (free_of s1 a4)⟩
    · rw [if_neg (by decide), if_neg (by decide), if_neg (by decide), if_neg (by decide), if_neg (by decide), if_neg (by decide), if_neg (by decide), if_pos rfl]
      exact ⟨_, e0 _ _, _, e1 _ _ _, _, e2 _ _ _ _, x, R, s, _, _, rfl, ⟨i, m, t, rfl, rfl⟩, hs, wf, k⟩
    · rw [if_neg (by decide), if_neg (by decide), if_neg (by decide), if_neg (by decide), if_neg (by decide), if_neg (by decide), if_neg (by decide), if_neg (by decide), if_pos rfl]
      exact ⟨_, e0 _ _, x, R, s, _, _, rfl, ⟨t, rfl, rfl⟩, hs, wf, k⟩
    · rw [if_neg (by decide), if_neg (by decide), if_neg (by decide), if_neg (by decide), if_neg (by decide), if_neg (by decide), if_neg (by decide), if_neg (by decide), if_neg (by decide), if_pos rfl]
      exact ⟨l_Score_move_all, _, e0 _ _, x, R, s, _, _, rfl, ⟨kk, rfl, rfl⟩, hs, wf, fun H' R' s' v hst hs' hch => one hst hs' hch rfl⟩
    · rw [if_neg (by decide), if_neg (by decide), if_neg (by decide), if_neg (by decide), if_neg (by decide), if_neg (by decide), if_neg (by decide), if_neg (by decide), if_neg (by decide), if_neg (by decide)]
      exact ⟨_, e0 _ _, _, e1 _ _ _, x, R, s, _, _, rfl, ⟨i, j, rfl, rfl⟩, hs, wf, k⟩
theorem ok_sounds_answer {f : Addr} {fd : FuncData} (F : Fun K "sounds_answer" "sounds_answer" s_sounds_answer f fd) (T : Txt K mg c) {f_Player_note_at : Addr} {fd_Player_note_at : FuncData} (M_Player_note_at : Mt P w K mg base c.Player "note_at" 1 ["self", "tick"] (sp_Player_note_at K c) f_Player_note_at fd_Player_note_at) {f_Score_last_end : Addr} {fd_Score_last_end : FuncData} (M_Score_last_end : Mt P w K mg base c.Score "last_end" 1 ["self"] (sp_Score_last_end K c) f_Score_last_end fd_Score_last_end) : FnOk P w K mg base CX0 2 f fd ["score", "tick"] (sp_sounds_answer K c) := by
  refine F.ok sc_sounds_answer (fun vs H Q E h => ?_) (fun cdv A outer s H vs Q E hr h => ?_)
  · obtain ⟨x, R, s, r, cl, rfl, ⟨t, rfl, _⟩, _⟩ := h
    rfl
  · obtain ⟨x, R, s, r, cl, rfl, ⟨t, rfl, rfl⟩, hs, wf, k⟩ := h
    refine ⟨_, (pss_cons (ps_if (pt_cmpR op_ge (pv 1) (pe_mt0 M_Score_last_end T.c_Score (hr.mono (by decide)) (pv 0)) (nomark _)) (pss_one (ps_ret (pe_lst (pa_cons (pe_num T.n_NOT_THERE) pa_nil)))) pss_nil)
      (pss_cons (ps_set (i := 2) sc_sounds_answer.nd rfl (by first | exact Or.inl rfl | exact Or.inr rfl) pe_int)
      (pss_cons (ps_set (i := 3) sc_sounds_answer.nd rfl (by first | exact Or.inl rfl | exact Or.inr rfl) (pe_lst pa_nil))
      (pss_cons (ps_for PassesOwn.never rfl (pi_enum rfl T.b_enumerate (pa_cons (pe_fld (pv 0) rfl) pa_nil)) (pg_tup rfl (pgs_cons (pg_name (i := 4) sc_sounds_answer.nd rfl (by first | exact Or.inl rfl | exact Or.inr rfl)) (pgs_cons (pg_name (i := 5) sc_sounds_answer.nd rfl (by first | exact Or.inl rfl | exact Or.inr rfl)) pgs_nil))) (pss_cons (ps_set (i := 6) sc_sounds_answer.nd rfl (by first | exact Or.inl rfl | exact Or.inr rfl) (pe_mt M_Player_note_at T.c_Player (hr.mono (by decide)) (pv 5) (pa_cons (pv 1) pa_nil)))
      (pss_one (ps_if (pt_cmp (pc_notN (pv 6))) (pss_cons (ps_aug (i := 2) sc_sounds_answer.nd rfl (by first | exact Or.inl rfl | exact Or.inr rfl) pe_int ip_add)
      (pss_one (ps_expr (pe_lm PySem.F.slot_list_extend PySem.F.type_list_extend mt_extendT (pv 3) (pa_cons (pe_tup (pa_cons (pv 4) (pa_cons (pe_fld (pv 6) rfl) pa_nil))) pa_nil))))) pss_nil))))
      (pss_one (ps_ret (pe_op op_cat (pe_lst (pa_cons (pv 2) pa_nil)) (pv 3)))))))), ?_⟩
    simp_arith only [hs.obj, hs.lp, T.c_Score, T.a_Score_players, l_Score_players, l_Score_last_end]
    refine ⟨x, R, s, rfl, hs, _, rfl, ?_⟩
    split
    · rename_i h0
      rw [show Kct9.step s (.sounds t) = (s, .num (-2)) by simp only [Kct9.step]; rw [if_pos (by omega)]] at k
      exact ⟨by decide, fun q hq => k _ R q (hs.same (Same.new hq)) (Chg.of_same (Same.new hq)) upd_same hq⟩
    · rename_i h0
      have hst : Kct9.step s (.sounds t) = (s, .pairs ((List.range s.players.length).filterMap fun i => ((s.players[i]?).bind fun p => Kct9.soundsAt p.notes t).map fun h => (i, h.toNat))) := by
        simp only [Kct9.step]
        rw [if_neg (by omega)]
      rw [hst] at k
      refine ⟨by decide, fun D hD => ?_⟩
      have s1 : Same H (upd H D (.lst [])) := Same.new hD
      have hs1 := hs.same s1
      simp_arith only [hs1.obj, T.c_Score, T.a_Score_players, l_Score_players]
      refine ⟨_, SqL.of hs1.lp, ?_⟩
      have hl := Paired.length hs.pl
      have hplen := wf.plen
      refine for_enum (xs := R.ps.map fun r => V.ref r.a) (fun i σ H' => ∃ (B : Hp) (v4 v5 v6 : Option V), σ = [some (.ref x), some (.int t), some (.int ((sndP s t i).length : Nat)), some (.ref D), v4, v5, v6] ∧ Same H B ∧ B D = none ∧ H' = upd B D (.lst (natsV ((sndP s t i).flatMap fun p : Nat × Nat => [p.1, p.2])))) ⟨H, none, none, none, rfl, Same.refl' H, hD, rfl⟩ (fun i σ H' _ ⟨B, _, _, _, _, sB, hB, e⟩ => ?_) ?_ ?_
      · subst e
        exact SqL.of (by rw [upd_ne (ne_of_none (sB _ _ hs.lp) hB)]; exact sB _ _ hs.lp)
      · rintro i y Tt σ H' hi ⟨B, v4, v5, v6, rfl, sB, hB, rfl⟩ hT
        obtain ⟨r, hr', rfl⟩ := map_get hi
        obtain ⟨p, hp, hpl⟩ := paired_get hs.pl hr'
        have wp := wf.pl p (List.mem_of_getElem? hp)
        have hT' := upd_none.mp hT
        have sT : Same B (upd B Tt (.tup [.int (i : Nat), .ref r.a])) := Same.new hT'.2
        have hTD : upd B Tt (.tup [.int (i : Nat), .ref r.a]) D = none := by
          rw [upd_ne (Ne.symm hT'.1)]
          exact hB
        rw [upd_swap (Ne.symm hT'.1)]
        refine ⟨Tt, [.int (i : Nat), .ref r.a], rfl, SqT.of (by rw [upd_ne hT'.1, upd_same]), rfl, ?_⟩
        simp_arith only []
        have hplD := fun u => hpl.same (Same.trans (Same.trans sB sT) (Same.new (o := u) hTD))
        have hplo := fun u => (hplD u).obj
        simp_arith only [hplo, l_Player_note_at]
        generalize upd B Tt (.tup [.int (i : Nat), .ref r.a]) = B1 at *
        have sB1 : Same H B1 := Same.trans sB sT
        refine ⟨r.a, r.dx, r.ln, r.as, p, t, rfl, hplD _, ⟨wp.ch, wp.pos⟩, wp.len, fun b n hn hso => ?_, fun hno => ?_⟩
        · dsimp only
          rw [if_pos (by simp)]
          obtain ⟨dn, hn⟩ := hn
          simp_arith only [hn, T.c_Note, T.a_Note_high, l_Note_high]
          have hnn : 0 ≤ n.high := by
            obtain ⟨j, m, hj, _, _, e⟩ := Mm.sounds_some hso
            have h1 := wp.rg m (List.mem_of_getElem? hj)
            have h2 := wp.low0
            omega
          have hsn : sndP s t (i + 1) = sndP s t i ++ [(i, n.high.toNat)] := sndP_some hp hso
          have hln := sndP_len s t i
          have hil := (List.getElem?_eq_some_iff.mp hr').1
          have e9 : (n.high : Int) = ((n.high.toNat : Nat) : Int) := by omega
          refine ⟨by decide, fun y hy => ⟨_, by rw [upd_ne (Ne.symm hy.1), upd_same], ?_, by rw [hsn]; simp, upd B1 y (.tup [.int (i : Nat), .int n.high]), Same.trans sB1 (Same.new hy.2), by rw [upd_ne (Ne.symm hy.1)]; exact hTD, ?_⟩⟩
          · rw [sizeLine_eq]
            simp only [natsV, List.length_map]
            rw [flat2_len]
            omega
          · rw [upd_swap (Ne.symm hy.1), upd_upd, hsn, List.flatMap_append]
            congr 2
            unfold natsV
            rw [List.map_append]
            congr 1
            simp only [List.flatMap_cons, List.flatMap_nil, List.append_nil, List.map_cons, List.map_nil]
            rw [← e9]
        · dsimp only
          rw [if_neg (by simp)]
          rw [sndP_none hp hno]
          exact ⟨rfl, B1, sB1, hTD, rfl⟩
      · rintro σ H' ⟨B, v4, v5, v6, rfl, sB, hB, rfl⟩
        rw [List.length_map, hl]
        simp_arith only []
        have hln := sndP_len s t s.players.length
        refine ⟨by decide, fun q2 hq2 => ⟨_, by rw [upd_ne (Ne.symm hq2.1), upd_same], ?_, fun q3 hq3 => ?_⟩⟩
        · rw [sizeLine_eq]
          simp only [natsV, List.length_map]
          rw [flat2_len]
          omega
        · have s3 : Same H (upd (upd (upd B D (.lst (natsV ((sndP s t s.players.length).flatMap fun p : Nat × Nat => [p.1, p.2])))) q2 (.lst [.int ((sndP s t s.players.length).length : Nat)])) q3 (.lst (.int ((sndP s t s.players.length).length : Nat) :: natsV ((sndP s t s.players.length).flatMap fun p : Nat × Nat => [p.1, p.2])))) := Same.upd' (Same.upd' (Same.upd' sB hD) (free_of sB hq2.2)) (free_of sB hq3.2.2)
          refine k _ R q3 (hs.same s3) (Chg.of_same s3) ?_ (free_of sB hq3.2.2)
          show upd _ q3 _ q3 = _
          rw [upd_same, map_nat]
          rfl
def SqA (K : PySem.W.Frag) (H : Hp) (a : Addr) (cs : List Int) : Prop := (∃ o, H a = some (.frz o (.lst (intsV cs)))) ∨ ∀ H', SqL K H' a (intsV cs)
theorem SqA.sq {K : PySem.W.Frag} {H : Hp} {a : Addr} {cs : List Int} (h : SqA K H a cs) : SqL K H a (intsV cs) := by
  rcases h with ⟨o, h⟩ | h
  · exact .inl (.inr ⟨o, h⟩)
  · exact h H
theorem SqA.keep {K : PySem.W.Frag} {H H' : Hp} {a : Addr} {cs : List Int} (h : SqA K H a cs) (k : ∀ o u, H a = some (.frz o u) → H' a = some (.frz o u)) : SqA K H' a cs := by
  rcases h with ⟨o, h⟩ | h
  · exact .inl ⟨o, k _ _ h⟩
  · exact .inr h
structure AnInv (K : PySem.W.Frag) (c : Cl) (cs : List Int) (a x D : Addr) (kk : Nat) (H : Hp) : Prop where
  ex : ∃ (R : SR) (s : Kct9.Abs) (f : Nat) (giv : List Int) (ccs : List (List (List Int))), ScAt c H x R s ∧ Mx.Wf s ∧ H D = some (.lst (intsV giv)) ∧ D ≠ R.lb ∧ D ≠ R.lp ∧ (∀ r ∈ R.ps, r.ln ≠ D) ∧ SqA K H a cs ∧ PyFlat.calls PyKct9.shape f (cs.drop kk) = some ccs ∧ (∀ c ∈ ccs, Kct9Neutral.asked1 c = true) ∧
    giv ++ PyFlat.told (PyFlat.played Kct9Neutral.step s ccs) = PyKct9.answers cs ∧ (PyKct9.answers cs).length ≤ 1003000
theorem cut_ints {cs : List Int} {i j : Nat} (h1 : i ≤ j) (h2 : j ≤ cs.length) : cutV (intsV cs) (some (i : Int)) (some (j : Int)) = intsV ((cs.drop i).take (j - i)) := by
  unfold cutV
  have hl : (intsV cs).length = cs.length := by simp [intsV]
  rw [hl, HT.sIx_nat, HT.sIx_nat, Nat.min_eq_left h2, Nat.min_eq_left (by omega)]
  unfold intsV
  rw [List.map_take, List.map_drop]
theorem ok_answers {f : Addr} {fd : FuncData} (F : Fun K "answers" "answers" s_answers f fd) (T : Txt K mg c) {f_Score_init : Addr} {fd_Score_init : FuncData} (N_Score : Nw P w K mg base "Score" c.Score 1 ["self"] (sp_Score_init K c) f_Score_init fd_Score_init) {f_answer : Addr} {fd_answer : FuncData} (F_answer : Fn P w K mg base "answer" 7 ["score", "call", "numbers"] (sp_answer K c) f_answer fd_answer) {f_behind_call : Addr} {fd_behind_call : FuncData} (F_behind_call : Fn P w K mg base "behind_call" 1 ["calls", "k"] (sp_behind_call K c) f_behind_call fd_behind_call) : FnOk P w K mg base CX0 8 f fd ["calls"] (sp_answers K c) := by
  refine F.ok sc_answers (fun vs H Q E h => ?_) (fun cdv A outer s H vs Q E hr h => ?_)
  · obtain ⟨a, cs, rfl, _⟩ := h
    rfl
  · obtain ⟨a, cs, rfl, hS, ht, hlen, hask, k⟩ := h
    refine ⟨_, (pss_cons (ps_set (i := 1) sc_answers.nd rfl (by first | exact Or.inl rfl | exact Or.inr rfl) (pe_new0 N_Score (hr.mono (by decide))))
      (pss_cons (ps_set (i := 2) sc_answers.nd rfl (by first | exact Or.inl rfl | exact Or.inr rfl) (pe_lst pa_nil))
      (pss_cons (ps_set (i := 3) sc_answers.nd rfl (by first | exact Or.inl rfl | exact Or.inr rfl) pe_int)
      (pss_cons (ps_while PassesOwn.never (pt_cmpR op_lt (pv 3) (pe_callB (call_len_q (intsV cs)) (by rfl) T.b_len PySem.boot_len (pa_cons (pv 0) pa_nil)) (nomark _)) (pss_cons (ps_set (i := 4) sc_answers.nd rfl (by first | exact Or.inl rfl | exact Or.inr rfl) (pe_fn F_behind_call (hr.mono (by decide)) (pa_cons (pv 0) (pa_cons (pv 3) pa_nil))))
      (pss_cons (ps_set (i := 5) sc_answers.nd rfl (by first | exact Or.inl rfl | exact Or.inr rfl) (pe_fn F_answer (hr.mono (by decide)) (pa_cons (pv 1) (pa_cons (pe_ix (ix_sq (intsV cs)) (pv 0) (pv 3) (fun _ _ => rfl)) (pa_cons (pe_slice (sl_sq (intsV cs)) (pv 0) (po_some (pe_op op_add (pv 3) pe_int)) (po_some (pv 4))) pa_nil)))))
      (pss_cons (ps_expr (pe_lm PySem.F.slot_list_append PySem.F.type_list_append mt_append (pv 2) (pa_cons (pe_callB call_len_l (by rfl) T.b_len PySem.boot_len (pa_cons (pv 5) pa_nil)) pa_nil)))
      (pss_cons (ps_expr (pe_lm PySem.F.slot_list_extend PySem.F.type_list_extend mt_extend (pv 2) (pa_cons (pv 5) pa_nil)))
      (pss_one (ps_set (i := 3) sc_answers.nd rfl (by first | exact Or.inl rfl | exact Or.inr rfl) (pv 4))))))))
      (pss_one (ps_ret (pv 2))))))), ?_⟩
    simp_arith only []
    obtain ⟨ccs, hcalls, hdue, hall, hbound⟩ := Mm.asked_of hask
    intro x dx hx hdx nxd
    refine ⟨x, dx, rfl, upd_same, fun lb lp hlb hlp hne => ⟨rfl, by decide, fun D hD => ?_⟩⟩
    have f1 : ∀ {b : Addr} {u1 u2 : HO}, upd (upd H dx u1) x u2 b = none → b ≠ x ∧ b ≠ dx ∧ H b = none := fun {b u1 u2} e => by
      obtain ⟨e1, e2⟩ := upd_none.mp e
      obtain ⟨e3, e4⟩ := upd_none.mp e2
      exact ⟨e1, e3, e4⟩
    obtain ⟨lbx, lbd, lb0⟩ := f1 hlb
    obtain ⟨lpx, lpd, lp0⟩ := f1 hlp
    obtain ⟨d1, d2⟩ := upd_none.mp hD
    obtain ⟨d3, d4⟩ := upd_none.mp d2
    obtain ⟨d5, d6⟩ := upd_none.mp d4
    obtain ⟨_, d7, d8⟩ := f1 d6
    have sm : ∀ u1 u2 u3 u4 u5 u6, Same H (upd (upd (upd (upd (upd (upd H dx u1) x u2) lb u3) lp u4) x u5) D u6) := fun u1 u2 u3 u4 u5 u6 => Same.upd' (Same.upd' (Same.upd' (Same.upd' (Same.upd' (Same.new hdx) hx) lb0) lp0) hx) d8
    have h0 : AnInv K c cs a x D 0 (upd (upd (upd (upd (upd (upd H dx (.own x)) x (.ins c.Score dx [])) lb (.lst [])) lp (.lst [])) x (.ins c.Score dx (fs_Score (.ref lb) (.ref lp)))) D (.lst [])) := by
      refine ⟨⟨dx, lb, lp, []⟩, Kct9.first, cs.length, [], ccs, ⟨?_, ?_, ?_, hne, List.nodup_nil, by simp, by simp, .nil, ht.same (sm _ _ _ _ _ _)⟩, Mx.wf_first, upd_same, d5, d3, by simp, ?_, hcalls, hall, ?_, ?_⟩
      · rw [upd_ne (Ne.symm d1), upd_same]
      · rw [upd_ne (Ne.symm d5), upd_ne lbx, upd_ne hne, upd_same]
        rfl
      · rw [upd_ne (Ne.symm d3), upd_ne lpx, upd_same]
        rfl
      · refine SqA.keep (H := H) hS fun o u e => sm _ _ _ _ _ _ _ _ e
      · rw [hdue]
        rfl
      · rw [hdue]
        exact hbound
    refine while_by (fun σ H' => ∃ (kk : Nat) (v4 v5 : Option V), σ = [some (.ref a), some (.ref x), some (.ref D), some (.int kk), v4, v5] ∧ kk ≤ cs.length ∧ AnInv K c cs a x D kk H') (fun σ _ => match σ with | [_, _, _, some (.int k), _, _] => cs.length - k.toNat | _ => 0)
      ⟨0, none, none, rfl, Nat.zero_le _, h0⟩ ?_ (mo_test (mo_op mo_I0 mo_var (mo_lenq (mo_cons mo_var mo_nil))))
    rintro σ H' ⟨kk, v4, v5, rfl, hkk, R, s, f0, giv, ccs', hs, wf, hD', n1, n2, n3, hA, hc', hall', hdue', hb'⟩
    have hSq := hA.sq
    have hil : (intsV cs).length = cs.length := by simp [intsV]
    simp_arith only [hSq]
    rw [hil]
    split
    · rename_i h1
      obtain ⟨p, cc, ccs2, b, f2, hp, p0, p1, h6, rfl, hb, hkb, hbl, hc2, hci⟩ := Mm.parse hc' (by omega) hlen
      have hcall := hci (hall' cc (by simp))
      refine ⟨a, cs, kk, p, rfl, hSq, hp, p0, p1, h6, ?_⟩
      rw [← hb]
      have at0 : atI (intsV cs) (kk : Int) = some (V.int p) := atI_nat (by unfold intsV; rw [List.getElem?_map, hp]; rfl)
      simp_arith only [hSq, at0]
      intro q hq
      rw [show (kk : Int) + 1 = ((kk + 1 : Nat) : Int) from rfl, cut_ints hkb hbl]
      have sq : Same H' (upd H' q (.lst (intsV ((cs.drop (kk + 1)).take (b - (kk + 1)))))) := Same.new hq
      refine ⟨x, R, s, _, _, rfl, ⟨p, q, _, rfl, upd_same, hcall⟩, hs.same sq, wf, fun H'' R' q2 hs2 hch2 hq2 hf2 => ?_⟩
      have hch := Chg.before sq hch2
      have hD2 : H'' D = some (.lst (intsV giv)) := hch.lst D _ hD' n1 n2
      have hq2' : H'' q2 = some (.lst (intsV (Kct9Neutral.tell (Kct9.step s (Kct9Neutral.call cc)).2))) := hq2
      have q2D : q2 ≠ D := fun e => by
        rw [e] at hf2
        have := sq _ _ hD'
        rw [this] at hf2
        cases hf2
      have told1 : PyFlat.told (PyFlat.played Kct9Neutral.step s (cc :: ccs2)) = ((Kct9Neutral.tell (Kct9.step s (Kct9Neutral.call cc)).2).length : Int) :: Kct9Neutral.tell (Kct9.step s (Kct9Neutral.call cc)).2 ++ PyFlat.told (PyFlat.played Kct9Neutral.step (Kct9.step s (Kct9Neutral.call cc)).1 ccs2) := rfl
      rw [told1] at hdue'
      have hlenall := congrArg List.length hdue'
      simp only [List.length_append, List.length_cons] at hlenall
      have hil2 : (intsV (Kct9Neutral.tell (Kct9.step s (Kct9Neutral.call cc)).2)).length = (Kct9Neutral.tell (Kct9.step s (Kct9Neutral.call cc)).2).length := by simp [intsV]
      have hq3 : ∀ u, upd H'' D u q2 = some (.lst (intsV (Kct9Neutral.tell (Kct9.step s (Kct9Neutral.call cc)).2))) := fun u => by
        rw [upd_ne q2D]
        exact hq2'
      simp_arith only [hD2, hq2', hq3, hil2]
      have m1 : D ≠ R'.lb := by
        rcases hch.lb with e | e
        · rw [e]
          exact n1
        · exact ne_of_none hD' e
      have m2 : D ≠ R'.lp := by
        rcases hch.lp with e | e
        · rw [e]
          exact n2
        · exact ne_of_none hD' e
      have m3 : ∀ r' ∈ R'.ps, r'.ln ≠ D := fun r' hr' => by
        rcases hch.ln r' hr' with ⟨r, hr, e⟩ | e
        · rw [e]
          exact n3 r hr
        · exact Ne.symm (ne_of_none hD' e)
      refine ⟨by simp [intsV, sizeLine_eq]; omega, by simp [intsV, sizeLine_eq]; omega, ⟨b, rfl, hbl, R', _, f2, giv ++ [((Kct9Neutral.tell (Kct9.step s (Kct9Neutral.call cc)).2).length : Int)] ++ Kct9Neutral.tell (Kct9.step s (Kct9Neutral.call cc)).2, ccs2, hs2.updD hD2 m1 m2 m3, Mx.wf_step wf _, ?_, m1, m2, m3, ?_, hc2, fun z hz => hall' z (by simp [hz]), ?_, hb'⟩, by omega⟩
      · rw [upd_same]
        simp [intsV]
      · refine hA.keep fun o u e => ?_
        have e2 := hch.frz a o u e
        rw [upd_ne (ne_of e2 hD2 (by intro z; cases z))]
        exact e2
      · rw [← hdue']
        simp
    · rename_i h1
      have hkn : kk = cs.length := by omega
      subst hkn
      rw [List.drop_length] at hc'
      have : ccs' = [] := by
        cases f0 with
        | zero =>
          rw [PyFlat.calls] at hc'
          exact (Option.some.inj hc').symm
        | succ f =>
          rw [PyFlat.calls] at hc'
          exact (Option.some.inj hc').symm
      subst this
      have e : giv = PyKct9.answers cs := by
        rw [← hdue']
        show _ = _ ++ []
        rw [List.append_nil]
      rw [e] at hD'
      exact k H' D hD'
end
end Ps
set_option Elab.async false
set_option maxRecDepth 100000
set_option linter.all false
set_option maxHeartbeats 4000000
namespace Ps
open PySem PySem.Spec PyProof.Rows L2
theorem us1 {C : List Value → Prop} {us : List Value} (hl : us.length = 1) (h : ∀ a, C [a]) : C us := match us, hl with | [a], _ => h a
theorem fb1 {K : PySem.W.Frag} {x qual : Str} {st : Stmt} {f : Addr} {fd : FuncData} (pa : Str) (F : Fun K x qual st f fd)
    (h : ∀ (kV dc pm : Value) (an : Option Addr) (cd ct a : Value), bindArgs (PySem.W.fnOf x qual (defArgs st) (defBody st) (defScope st) .none kV dc pm an cd ct) ⟨[a], []⟩ = pure ([pa].zip [a])) : Binds K fd [pa] [] :=
  F.binds fun _ _ _ _ _ _ us hl => match us, hl with | [a], _ => h _ _ _ _ _ _ a
theorem fb2 {K : PySem.W.Frag} {x qual : Str} {st : Stmt} {f : Addr} {fd : FuncData} (pa pb : Str) (F : Fun K x qual st f fd)
    (h : ∀ (kV dc pm : Value) (an : Option Addr) (cd ct a b : Value), bindArgs (PySem.W.fnOf x qual (defArgs st) (defBody st) (defScope st) .none kV dc pm an cd ct) ⟨[a, b], []⟩ = pure ([pa, pb].zip [a, b])) : Binds K fd [pa, pb] [] :=
  F.binds fun _ _ _ _ _ _ us hl => match us, hl with | [a, b], _ => h _ _ _ _ _ _ a b
theorem fb3 {K : PySem.W.Frag} {x qual : Str} {st : Stmt} {f : Addr} {fd : FuncData} (pa pb pc : Str) (F : Fun K x qual st f fd)
    (h : ∀ (kV dc pm : Value) (an : Option Addr) (cd ct a b c : Value), bindArgs (PySem.W.fnOf x qual (defArgs st) (defBody st) (defScope st) .none kV dc pm an cd ct) ⟨[a, b, c], []⟩ = pure ([pa, pb, pc].zip [a, b, c])) : Binds K fd [pa, pb, pc] [] :=
  F.binds fun _ _ _ _ _ _ us hl => match us, hl with | [a, b, c], _ => h _ _ _ _ _ _ a b c
theorem fb4 {K : PySem.W.Frag} {x qual : Str} {st : Stmt} {f : Addr} {fd : FuncData} (pa pb pc pd : Str) (F : Fun K x qual st f fd)
    (h : ∀ (kV dc pm : Value) (an : Option Addr) (cd ct a b c d : Value), bindArgs (PySem.W.fnOf x qual (defArgs st) (defBody st) (defScope st) .none kV dc pm an cd ct) ⟨[a, b, c, d], []⟩ = pure ([pa, pb, pc, pd].zip [a, b, c, d])) : Binds K fd [pa, pb, pc, pd] [] :=
  F.binds fun _ _ _ _ _ _ us hl => match us, hl with | [a, b, c, d], _ => h _ _ _ _ _ _ a b c d
theorem fb5 {K : PySem.W.Frag} {x qual : Str} {st : Stmt} {f : Addr} {fd : FuncData} (pa pb pc pd pe : Str) (F : Fun K x qual st f fd)
    (h : ∀ (kV dc pm : Value) (an : Option Addr) (cd ct a b c d e : Value), bindArgs (PySem.W.fnOf x qual (defArgs st) (defBody st) (defScope st) .none kV dc pm an cd ct) ⟨[a, b, c, d, e], []⟩ = pure ([pa, pb, pc, pd, pe].zip [a, b, c, d, e])) : Binds K fd [pa, pb, pc, pd, pe] [] :=
  F.binds fun _ _ _ _ _ _ us hl => match us, hl with | [a, b, c, d, e], _ => h _ _ _ _ _ _ a b c d e
theorem fb6 {K : PySem.W.Frag} {x qual : Str} {st : Stmt} {f : Addr} {fd : FuncData} (pa pb pc pd pe pf : Str) (F : Fun K x qual st f fd)
    (h : ∀ (kV dc pm : Value) (an : Option Addr) (cd ct a b c d e f : Value), bindArgs (PySem.W.fnOf x qual (defArgs st) (defBody st) (defScope st) .none kV dc pm an cd ct) ⟨[a, b, c, d, e, f], []⟩ = pure ([pa, pb, pc, pd, pe, pf].zip [a, b, c, d, e, f])) : Binds K fd [pa, pb, pc, pd, pe, pf] [] :=
  F.binds fun _ _ _ _ _ _ us hl => match us, hl with | [a, b, c, d, e, f], _ => h _ _ _ _ _ _ a b c d e f
theorem fb7 {K : PySem.W.Frag} {x qual : Str} {st : Stmt} {f : Addr} {fd : FuncData} (pa pb pc pd pe pf pg : Str) (F : Fun K x qual st f fd)
    (h : ∀ (kV dc pm : Value) (an : Option Addr) (cd ct a b c d e f g : Value), bindArgs (PySem.W.fnOf x qual (defArgs st) (defBody st) (defScope st) .none kV dc pm an cd ct) ⟨[a, b, c, d, e, f, g], []⟩ = pure ([pa, pb, pc, pd, pe, pf, pg].zip [a, b, c, d, e, f, g])) : Binds K fd [pa, pb, pc, pd, pe, pf, pg] [] :=
  F.binds fun _ _ _ _ _ _ us hl => match us, hl with | [a, b, c, d, e, f, g], _ => h _ _ _ _ _ _ a b c d e f g
theorem all_mk {P : Program} {w : World} {K : PySem.W.Frag} {h : Heap} {mg : Str → Option Value} {fa : Addr} {C_Note C_Player C_Score : Addr}
    {t_EMPTY : Nat}
    {t_REST : Nat}
    {t_GOES_ON : Nat}
    {t_LIFT : Nat}
    {t_OCTAVE : Nat}
    {t_NOT_THERE : Nat}
    {t_AT_ONCE : Nat}
    {t_NOT_ALLOWED : Nat}
    {t_NO_ROOM : Nat}
    {t_NO_PAGES : Nat}
    {t_OUT_OF_RANGE : Nat}
    {t_NOT_A_PART : Nat}
    {t_MOST_BARS : Nat}
    {t_LONGEST_BAR : Nat}
    {t_MOST_PLAYERS : Nat}
    {t_WIDEST_SHIFT : Nat}
    {t_HIGHEST : Nat}
    {t_MOST_NOTES : Nat}
    {t_BEGIN : Nat}
    {t_BAR : Nat}
    {t_PLAYER : Nat}
    {t_NOTE : Nat}
    {t_DROP : Nat}
    {t_PART : Nat}
    {t_READ : Nat}
    {t_PAGES : Nat}
    {t_SOUNDS : Nat}
    {t_MOVE : Nat}
    {a_PARALLEL : Addr} {t_PARALLEL_0 t_PARALLEL_1 n_PARALLEL : Nat} {d_PARALLEL : Option Addr} {sl_PARALLEL : Array (Option Value)}
    {a_SIZES : Addr} {t_SIZES_0 t_SIZES_1 t_SIZES_2 t_SIZES_3 t_SIZES_4 t_SIZES_5 t_SIZES_6 t_SIZES_7 t_SIZES_8 t_SIZES_9 t_SIZES_10 n_SIZES : Nat} {d_SIZES : Option Addr} {sl_SIZES : Array (Option Value)}
    {f_Score_init : Addr} {oc_Score_init kV_Score_init dc_Score_init pm_Score_init cd_Score_init ct_Score_init : Value} {od_Score_init an_Score_init : Option Addr} {sl_Score_init : Array (Option Value)}
    {f_Score_begin : Addr} {oc_Score_begin kV_Score_begin dc_Score_begin pm_Score_begin cd_Score_begin ct_Score_begin : Value} {od_Score_begin an_Score_begin : Option Addr} {sl_Score_begin : Array (Option Value)}
    {f_Player_leave_out : Addr} {oc_Player_leave_out kV_Player_leave_out dc_Player_leave_out pm_Player_leave_out cd_Player_leave_out ct_Player_leave_out : Value} {od_Player_leave_out an_Player_leave_out : Option Addr} {sl_Player_leave_out : Array (Option Value)}
    {f_Score_has_player : Addr} {oc_Score_has_player kV_Score_has_player dc_Score_has_player pm_Score_has_player cd_Score_has_player ct_Score_has_player : Value} {od_Score_has_player an_Score_has_player : Option Addr} {sl_Score_has_player : Array (Option Value)}
    {f_Score_drop_note : Addr} {oc_Score_drop_note kV_Score_drop_note dc_Score_drop_note pm_Score_drop_note cd_Score_drop_note ct_Score_drop_note : Value} {od_Score_drop_note an_Score_drop_note : Option Addr} {sl_Score_drop_note : Array (Option Value)}
    {f_Player_may_sound : Addr} {oc_Player_may_sound kV_Player_may_sound dc_Player_may_sound pm_Player_may_sound cd_Player_may_sound ct_Player_may_sound : Value} {od_Player_may_sound an_Player_may_sound : Option Addr} {sl_Player_may_sound : Array (Option Value)}
    {f_Player_may_move : Addr} {oc_Player_may_move kV_Player_may_move dc_Player_may_move pm_Player_may_move cd_Player_may_move ct_Player_may_move : Value} {od_Player_may_move an_Player_may_move : Option Addr} {sl_Player_may_move : Array (Option Value)}
    {f_Player_move_notes : Addr} {oc_Player_move_notes kV_Player_move_notes dc_Player_move_notes pm_Player_move_notes cd_Player_move_notes ct_Player_move_notes : Value} {od_Player_move_notes an_Player_move_notes : Option Addr} {sl_Player_move_notes : Array (Option Value)}
    {f_Score_move_all : Addr} {oc_Score_move_all kV_Score_move_all dc_Score_move_all pm_Score_move_all cd_Score_move_all ct_Score_move_all : Value} {od_Score_move_all an_Score_move_all : Option Addr} {sl_Score_move_all : Array (Option Value)}
    {f_Score_new_bar : Addr} {oc_Score_new_bar kV_Score_new_bar dc_Score_new_bar pm_Score_new_bar cd_Score_new_bar ct_Score_new_bar : Value} {od_Score_new_bar an_Score_new_bar : Option Addr} {sl_Score_new_bar : Array (Option Value)}
    {f_Note_init : Addr} {oc_Note_init kV_Note_init dc_Note_init pm_Note_init cd_Note_init ct_Note_init : Value} {od_Note_init an_Note_init : Option Addr} {sl_Note_init : Array (Option Value)}
    {f_Player_is_silent : Addr} {oc_Player_is_silent kV_Player_is_silent dc_Player_is_silent pm_Player_is_silent cd_Player_is_silent ct_Player_is_silent : Value} {od_Player_is_silent an_Player_is_silent : Option Addr} {sl_Player_is_silent : Array (Option Value)}
    {f_Player_take : Addr} {oc_Player_take kV_Player_take dc_Player_take pm_Player_take ct_Player_take : Value} {od_Player_take an_Player_take : Option Addr} {sl_Player_take : Array (Option Value)}
    {f_Score_last_end : Addr} {oc_Score_last_end kV_Score_last_end dc_Score_last_end pm_Score_last_end cd_Score_last_end ct_Score_last_end : Value} {od_Score_last_end an_Score_last_end : Option Addr} {sl_Score_last_end : Array (Option Value)}
    {f_Score_new_note : Addr} {oc_Score_new_note kV_Score_new_note dc_Score_new_note pm_Score_new_note cd_Score_new_note ct_Score_new_note : Value} {od_Score_new_note an_Score_new_note : Option Addr} {sl_Score_new_note : Array (Option Value)}
    {f_Player_init : Addr} {oc_Player_init kV_Player_init dc_Player_init pm_Player_init cd_Player_init ct_Player_init : Value} {od_Player_init an_Player_init : Option Addr} {sl_Player_init : Array (Option Value)}
    {f_Score_new_player : Addr} {oc_Score_new_player kV_Score_new_player dc_Score_new_player pm_Score_new_player cd_Score_new_player ct_Score_new_player : Value} {od_Score_new_player an_Score_new_player : Option Addr} {sl_Score_new_player : Array (Option Value)}
    {f_furthest_end : Addr} {oc_furthest_end kV_furthest_end dc_furthest_end pm_furthest_end cd_furthest_end ct_furthest_end : Value} {od_furthest_end an_furthest_end : Option Addr} {sl_furthest_end : Array (Option Value)}
    {f_silent_about_ends : Addr} {oc_silent_about_ends kV_silent_about_ends dc_silent_about_ends pm_silent_about_ends cd_silent_about_ends ct_silent_about_ends : Value} {od_silent_about_ends an_silent_about_ends : Option Addr} {sl_silent_about_ends : Array (Option Value)}
    {f_places_to_end : Addr} {oc_places_to_end kV_places_to_end dc_places_to_end pm_places_to_end cd_places_to_end ct_places_to_end : Value} {od_places_to_end an_places_to_end : Option Addr} {sl_places_to_end : Array (Option Value)}
    {f_first_behind : Addr} {oc_first_behind kV_first_behind dc_first_behind pm_first_behind cd_first_behind ct_first_behind : Value} {od_first_behind an_first_behind : Option Addr} {sl_first_behind : Array (Option Value)}
    {f_written_note : Addr} {oc_written_note kV_written_note dc_written_note pm_written_note cd_written_note ct_written_note : Value} {od_written_note an_written_note : Option Addr} {sl_written_note : Array (Option Value)}
    {f_written_bar : Addr} {oc_written_bar kV_written_bar dc_written_bar pm_written_bar cd_written_bar ct_written_bar : Value} {od_written_bar an_written_bar : Option Addr} {sl_written_bar : Array (Option Value)}
    {f_written_bars : Addr} {oc_written_bars kV_written_bars dc_written_bars pm_written_bars cd_written_bars ct_written_bars : Value} {od_written_bars an_written_bars : Option Addr} {sl_written_bars : Array (Option Value)}
    {f_page_ends : Addr} {oc_page_ends kV_page_ends dc_page_ends pm_page_ends cd_page_ends ct_page_ends : Value} {od_page_ends an_page_ends : Option Addr} {sl_page_ends : Array (Option Value)}
    {f_pages_answer : Addr} {oc_pages_answer kV_pages_answer dc_pages_answer pm_pages_answer cd_pages_answer ct_pages_answer : Value} {od_pages_answer an_pages_answer : Option Addr} {sl_pages_answer : Array (Option Value)}
    {f_is_parallel : Addr} {oc_is_parallel kV_is_parallel dc_is_parallel pm_is_parallel cd_is_parallel ct_is_parallel : Value} {od_is_parallel an_is_parallel : Option Addr} {sl_is_parallel : Array (Option Value)}
    {f_goes_parallel : Addr} {oc_goes_parallel kV_goes_parallel dc_goes_parallel pm_goes_parallel cd_goes_parallel ct_goes_parallel : Value} {od_goes_parallel an_goes_parallel : Option Addr} {sl_goes_parallel : Array (Option Value)}
    {f_steps : Addr} {oc_steps kV_steps dc_steps pm_steps cd_steps ct_steps : Value} {od_steps an_steps : Option Addr} {sl_steps : Array (Option Value)}
    {f_count_parallels : Addr} {oc_count_parallels kV_count_parallels dc_count_parallels pm_count_parallels cd_count_parallels ct_count_parallels : Value} {od_count_parallels an_count_parallels : Option Addr} {sl_count_parallels : Array (Option Value)}
    {f_parallels_answer : Addr} {oc_parallels_answer kV_parallels_answer dc_parallels_answer pm_parallels_answer cd_parallels_answer ct_parallels_answer : Value} {od_parallels_answer an_parallels_answer : Option Addr} {sl_parallels_answer : Array (Option Value)}
    {f_written_empty : Addr} {oc_written_empty kV_written_empty dc_written_empty pm_written_empty cd_written_empty ct_written_empty : Value} {od_written_empty an_written_empty : Option Addr} {sl_written_empty : Array (Option Value)}
    {f_written_part : Addr} {oc_written_part kV_written_part dc_written_part pm_written_part cd_written_part ct_written_part : Value} {od_written_part an_written_part : Option Addr} {sl_written_part : Array (Option Value)}
    {f_part_answer : Addr} {oc_part_answer kV_part_answer dc_part_answer pm_part_answer cd_part_answer ct_part_answer : Value} {od_part_answer an_part_answer : Option Addr} {sl_part_answer : Array (Option Value)}
    {f_bar_begins : Addr} {oc_bar_begins kV_bar_begins dc_bar_begins pm_bar_begins cd_bar_begins ct_bar_begins : Value} {od_bar_begins an_bar_begins : Option Addr} {sl_bar_begins : Array (Option Value)}
    {f_behind_empty : Addr} {oc_behind_empty kV_behind_empty dc_behind_empty pm_behind_empty cd_behind_empty ct_behind_empty : Value} {od_behind_empty an_behind_empty : Option Addr} {sl_behind_empty : Array (Option Value)}
    {f_spelled_notes : Addr} {oc_spelled_notes kV_spelled_notes dc_spelled_notes pm_spelled_notes cd_spelled_notes ct_spelled_notes : Value} {od_spelled_notes an_spelled_notes : Option Addr} {sl_spelled_notes : Array (Option Value)}
    {f_read_notes : Addr} {oc_read_notes kV_read_notes dc_read_notes pm_read_notes cd_read_notes ct_read_notes : Value} {od_read_notes an_read_notes : Option Addr} {sl_read_notes : Array (Option Value)}
    {f_read_answer : Addr} {oc_read_answer kV_read_answer dc_read_answer pm_read_answer cd_read_answer ct_read_answer : Value} {od_read_answer an_read_answer : Option Addr} {sl_read_answer : Array (Option Value)}
    {f_Player_note_at : Addr} {oc_Player_note_at kV_Player_note_at dc_Player_note_at pm_Player_note_at cd_Player_note_at ct_Player_note_at : Value} {od_Player_note_at an_Player_note_at : Option Addr} {sl_Player_note_at : Array (Option Value)}
    {f_sounds_answer : Addr} {oc_sounds_answer kV_sounds_answer dc_sounds_answer pm_sounds_answer cd_sounds_answer ct_sounds_answer : Value} {od_sounds_answer an_sounds_answer : Option Addr} {sl_sounds_answer : Array (Option Value)}
    {f_answer : Addr} {oc_answer kV_answer dc_answer pm_answer cd_answer ct_answer : Value} {od_answer an_answer : Option Addr} {sl_answer : Array (Option Value)}
    {f_behind_call : Addr} {oc_behind_call kV_behind_call dc_behind_call pm_behind_call cd_behind_call ct_behind_call : Value} {od_behind_call an_behind_call : Option Addr} {sl_behind_call : Array (Option Value)}
    {f_answers : Addr} {oc_answers kV_answers dc_answers pm_answers cd_answers ct_answers : Value} {od_answers an_answers : Option Addr} {sl_answers : Array (Option Value)}
    (X : K.In h) (G : h.Ns mainGlobals mg) (hfa : mg "answers" = some (.ref fa))
    (aC_Note : PySem.W.nsIn K mainGlobals "Note" = some (some (.ref C_Note)))
    (pg_Note : PySem.W.plainGet K C_Note Str.empty = true)
    (hd_Note : PySem.W.hasDictIn K C_Note = true)
    (po_Note : PySem.W.plainOver K C_Note = true)
    (sa_Note : PySem.W.findIn K (.ref C_Note) "__setattr__" = some (some (.builtin "object.__setattr__")))
    (mk_Note : PySem.W.makesIn K C_Note = true)
    (kc_Note : PySem.W.keepIn K (.ref C_Note) = true)
    (nf_Note_start : PySem.W.findIn K (.ref C_Note) "start" = some none)
    (nf_Note_end : PySem.W.findIn K (.ref C_Note) "end" = some none)
    (nf_Note_high : PySem.W.findIn K (.ref C_Note) "high" = some none)
    (aC_Player : PySem.W.nsIn K mainGlobals "Player" = some (some (.ref C_Player)))
    (pg_Player : PySem.W.plainGet K C_Player Str.empty = true)
    (hd_Player : PySem.W.hasDictIn K C_Player = true)
    (po_Player : PySem.W.plainOver K C_Player = true)
    (sa_Player : PySem.W.findIn K (.ref C_Player) "__setattr__" = some (some (.builtin "object.__setattr__")))
    (mk_Player : PySem.W.makesIn K C_Player = true)
    (kc_Player : PySem.W.keepIn K (.ref C_Player) = true)
    (nf_Player_shift : PySem.W.findIn K (.ref C_Player) "shift" = some none)
    (nf_Player_low : PySem.W.findIn K (.ref C_Player) "low" = some none)
    (nf_Player_top : PySem.W.findIn K (.ref C_Player) "top" = some none)
    (nf_Player_notes : PySem.W.findIn K (.ref C_Player) "notes" = some none)
    (aC_Score : PySem.W.nsIn K mainGlobals "Score" = some (some (.ref C_Score)))
    (pg_Score : PySem.W.plainGet K C_Score Str.empty = true)
    (hd_Score : PySem.W.hasDictIn K C_Score = true)
    (po_Score : PySem.W.plainOver K C_Score = true)
    (sa_Score : PySem.W.findIn K (.ref C_Score) "__setattr__" = some (some (.builtin "object.__setattr__")))
    (mk_Score : PySem.W.makesIn K C_Score = true)
    (kc_Score : PySem.W.keepIn K (.ref C_Score) = true)
    (nf_Score_bars : PySem.W.findIn K (.ref C_Score) "bars" = some none)
    (nf_Score_players : PySem.W.findIn K (.ref C_Score) "players" = some none)
    (nn_EMPTY : PySem.W.nsIn K mainGlobals "EMPTY" = some (some (.int (255) t_EMPTY)))
    (nn_REST : PySem.W.nsIn K mainGlobals "REST" = some (some (.int (254) t_REST)))
    (nn_GOES_ON : PySem.W.nsIn K mainGlobals "GOES_ON" = some (some (.int (253) t_GOES_ON)))
    (nn_LIFT : PySem.W.nsIn K mainGlobals "LIFT" = some (some (.int (24) t_LIFT)))
    (nn_OCTAVE : PySem.W.nsIn K mainGlobals "OCTAVE" = some (some (.int (12) t_OCTAVE)))
    (nn_NOT_THERE : PySem.W.nsIn K mainGlobals "NOT_THERE" = some (some (.int (-2) t_NOT_THERE)))
    (nn_AT_ONCE : PySem.W.nsIn K mainGlobals "AT_ONCE" = some (some (.int (-17) t_AT_ONCE)))
    (nn_NOT_ALLOWED : PySem.W.nsIn K mainGlobals "NOT_ALLOWED" = some (some (.int (-22) t_NOT_ALLOWED)))
    (nn_NO_ROOM : PySem.W.nsIn K mainGlobals "NO_ROOM" = some (some (.int (-28) t_NO_ROOM)))
    (nn_NO_PAGES : PySem.W.nsIn K mainGlobals "NO_PAGES" = some (some (.int (-33) t_NO_PAGES)))
    (nn_OUT_OF_RANGE : PySem.W.nsIn K mainGlobals "OUT_OF_RANGE" = some (some (.int (-34) t_OUT_OF_RANGE)))
    (nn_NOT_A_PART : PySem.W.nsIn K mainGlobals "NOT_A_PART" = some (some (.int (-71) t_NOT_A_PART)))
    (nn_MOST_BARS : PySem.W.nsIn K mainGlobals "MOST_BARS" = some (some (.int (64) t_MOST_BARS)))
    (nn_LONGEST_BAR : PySem.W.nsIn K mainGlobals "LONGEST_BAR" = some (some (.int (64) t_LONGEST_BAR)))
    (nn_MOST_PLAYERS : PySem.W.nsIn K mainGlobals "MOST_PLAYERS" = some (some (.int (16) t_MOST_PLAYERS)))
    (nn_WIDEST_SHIFT : PySem.W.nsIn K mainGlobals "WIDEST_SHIFT" = some (some (.int (24) t_WIDEST_SHIFT)))
    (nn_HIGHEST : PySem.W.nsIn K mainGlobals "HIGHEST" = some (some (.int (127) t_HIGHEST)))
    (nn_MOST_NOTES : PySem.W.nsIn K mainGlobals "MOST_NOTES" = some (some (.int (256) t_MOST_NOTES)))
    (nn_BEGIN : PySem.W.nsIn K mainGlobals "BEGIN" = some (some (.int (0) t_BEGIN)))
    (nn_BAR : PySem.W.nsIn K mainGlobals "BAR" = some (some (.int (1) t_BAR)))
    (nn_PLAYER : PySem.W.nsIn K mainGlobals "PLAYER" = some (some (.int (2) t_PLAYER)))
    (nn_NOTE : PySem.W.nsIn K mainGlobals "NOTE" = some (some (.int (3) t_NOTE)))
    (nn_DROP : PySem.W.nsIn K mainGlobals "DROP" = some (some (.int (4) t_DROP)))
    (nn_PART : PySem.W.nsIn K mainGlobals "PART" = some (some (.int (5) t_PART)))
    (nn_READ : PySem.W.nsIn K mainGlobals "READ" = some (some (.int (6) t_READ)))
    (nn_PAGES : PySem.W.nsIn K mainGlobals "PAGES" = some (some (.int (7) t_PAGES)))
    (nn_SOUNDS : PySem.W.nsIn K mainGlobals "SOUNDS" = some (some (.int (8) t_SOUNDS)))
    (nn_MOVE : PySem.W.nsIn K mainGlobals "MOVE" = some (some (.int (9) t_MOVE)))
    (kn_PARALLEL : PySem.W.nsIn K mainGlobals "PARALLEL" = some (some (.ref a_PARALLEL)))
    (kl_PARALLEL : K.lookup a_PARALLEL = some ⟨.type "tuple", d_PARALLEL, .seq #[.int 0 t_PARALLEL_0, .int 7 t_PARALLEL_1] n_PARALLEL, sl_PARALLEL⟩)
    (kn_SIZES : PySem.W.nsIn K mainGlobals "SIZES" = some (some (.ref a_SIZES)))
    (kl_SIZES : K.lookup a_SIZES = some ⟨.type "tuple", d_SIZES, .seq #[.int 0 t_SIZES_0, .int 1 t_SIZES_1, .int 3 t_SIZES_2, .int 4 t_SIZES_3, .int 2 t_SIZES_4, .int 1 t_SIZES_5, .int 2 t_SIZES_6, .int 3 t_SIZES_7, .int 1 t_SIZES_8, .int 1 t_SIZES_9, .int 2 t_SIZES_10] n_SIZES, sl_SIZES⟩)
    (bn_abs : PySem.W.nsIn K mainGlobals "abs" = some none)
    (bn_all : PySem.W.nsIn K mainGlobals "all" = some none)
    (bn_enumerate : PySem.W.nsIn K mainGlobals "enumerate" = some none)
    (bn_len : PySem.W.nsIn K mainGlobals "len" = some none)
    (bn_max : PySem.W.nsIn K mainGlobals "max" = some none)
    (bn_min : PySem.W.nsIn K mainGlobals "min" = some none)
    (bn_range : PySem.W.nsIn K mainGlobals "range" = some none)
    (bn_sorted : PySem.W.nsIn K mainGlobals "sorted" = some none)
    (bn_sum : PySem.W.nsIn K mainGlobals "sum" = some none)
    (a_Score_init : PySem.W.findIn K (.ref C_Score) "__init__" = some (some (.ref f_Score_init)))
    (i_Score_init : PySem.W.isFn K (.ref f_Score_init) = true)
    (l_Score_init : K.lookup f_Score_init = some ⟨oc_Score_init, od_Score_init, .func (PySem.W.fnOf "__init__" "Score.__init__" (defArgs s_Score_init) (defBody s_Score_init) (defScope s_Score_init) .none kV_Score_init dc_Score_init pm_Score_init an_Score_init cd_Score_init ct_Score_init), sl_Score_init⟩)
    (c_Score_init : PySem.W.codeIn K cd_Score_init "Score.__init__" = true)
    (k_Score_init : PySem.W.keepIn K (.ref f_Score_init) = true)
    (a_Score_begin : PySem.W.findIn K (.ref C_Score) "begin" = some (some (.ref f_Score_begin)))
    (i_Score_begin : PySem.W.isFn K (.ref f_Score_begin) = true)
    (l_Score_begin : K.lookup f_Score_begin = some ⟨oc_Score_begin, od_Score_begin, .func (PySem.W.fnOf "begin" "Score.begin" (defArgs s_Score_begin) (defBody s_Score_begin) (defScope s_Score_begin) .none kV_Score_begin dc_Score_begin pm_Score_begin an_Score_begin cd_Score_begin ct_Score_begin), sl_Score_begin⟩)
    (c_Score_begin : PySem.W.codeIn K cd_Score_begin "Score.begin" = true)
    (k_Score_begin : PySem.W.keepIn K (.ref f_Score_begin) = true)
    (a_Player_leave_out : PySem.W.findIn K (.ref C_Player) "leave_out" = some (some (.ref f_Player_leave_out)))
    (i_Player_leave_out : PySem.W.isFn K (.ref f_Player_leave_out) = true)
    (l_Player_leave_out : K.lookup f_Player_leave_out = some ⟨oc_Player_leave_out, od_Player_leave_out, .func (PySem.W.fnOf "leave_out" "Player.leave_out" (defArgs s_Player_leave_out) (defBody s_Player_leave_out) (defScope s_Player_leave_out) .none kV_Player_leave_out dc_Player_leave_out pm_Player_leave_out an_Player_leave_out cd_Player_leave_out ct_Player_leave_out), sl_Player_leave_out⟩)
    (c_Player_leave_out : PySem.W.codeIn K cd_Player_leave_out "Player.leave_out" = true)
    (k_Player_leave_out : PySem.W.keepIn K (.ref f_Player_leave_out) = true)
    (a_Score_has_player : PySem.W.findIn K (.ref C_Score) "has_player" = some (some (.ref f_Score_has_player)))
    (i_Score_has_player : PySem.W.isFn K (.ref f_Score_has_player) = true)
    (l_Score_has_player : K.lookup f_Score_has_player = some ⟨oc_Score_has_player, od_Score_has_player, .func (PySem.W.fnOf "has_player" "Score.has_player" (defArgs s_Score_has_player) (defBody s_Score_has_player) (defScope s_Score_has_player) .none kV_Score_has_player dc_Score_has_player pm_Score_has_player an_Score_has_player cd_Score_has_player ct_Score_has_player), sl_Score_has_player⟩)
    (c_Score_has_player : PySem.W.codeIn K cd_Score_has_player "Score.has_player" = true)
    (k_Score_has_player : PySem.W.keepIn K (.ref f_Score_has_player) = true)
    (a_Score_drop_note : PySem.W.findIn K (.ref C_Score) "drop_note" = some (some (.ref f_Score_drop_note)))
    (i_Score_drop_note : PySem.W.isFn K (.ref f_Score_drop_note) = true)
    (l_Score_drop_note : K.lookup f_Score_drop_note = some ⟨oc_Score_drop_note, od_Score_drop_note, .func (PySem.W.fnOf "drop_note" "Score.drop_note" (defArgs s_Score_drop_note) (defBody s_Score_drop_note) (defScope s_Score_drop_note) .none kV_Score_drop_note dc_Score_drop_note pm_Score_drop_note an_Score_drop_note cd_Score_drop_note ct_Score_drop_note), sl_Score_drop_note⟩)
    (c_Score_drop_note : PySem.W.codeIn K cd_Score_drop_note "Score.drop_note" = true)
    (k_Score_drop_note : PySem.W.keepIn K (.ref f_Score_drop_note) = true)
    (a_Player_may_sound : PySem.W.findIn K (.ref C_Player) "may_sound" = some (some (.ref f_Player_may_sound)))
    (i_Player_may_sound : PySem.W.isFn K (.ref f_Player_may_sound) = true)
    (l_Player_may_sound : K.lookup f_Player_may_sound = some ⟨oc_Player_may_sound, od_Player_may_sound, .func (PySem.W.fnOf "may_sound" "Player.may_sound" (defArgs s_Player_may_sound) (defBody s_Player_may_sound) (defScope s_Player_may_sound) .none kV_Player_may_sound dc_Player_may_sound pm_Player_may_sound an_Player_may_sound cd_Player_may_sound ct_Player_may_sound), sl_Player_may_sound⟩)
    (c_Player_may_sound : PySem.W.codeIn K cd_Player_may_sound "Player.may_sound" = true)
    (k_Player_may_sound : PySem.W.keepIn K (.ref f_Player_may_sound) = true)
    (a_Player_may_move : PySem.W.findIn K (.ref C_Player) "may_move" = some (some (.ref f_Player_may_move)))
    (i_Player_may_move : PySem.W.isFn K (.ref f_Player_may_move) = true)
    (l_Player_may_move : K.lookup f_Player_may_move = some ⟨oc_Player_may_move, od_Player_may_move, .func (PySem.W.fnOf "may_move" "Player.may_move" (defArgs s_Player_may_move) (defBody s_Player_may_move) (defScope s_Player_may_move) .none kV_Player_may_move dc_Player_may_move pm_Player_may_move an_Player_may_move cd_Player_may_move ct_Player_may_move), sl_Player_may_move⟩)
    (c_Player_may_move : PySem.W.codeIn K cd_Player_may_move "Player.may_move" = true)
    (k_Player_may_move : PySem.W.keepIn K (.ref f_Player_may_move) = true)
    (a_Player_move_notes : PySem.W.findIn K (.ref C_Player) "move_notes" = some (some (.ref f_Player_move_notes)))
    (i_Player_move_notes : PySem.W.isFn K (.ref f_Player_move_notes) = true)
    (l_Player_move_notes : K.lookup f_Player_move_notes = some ⟨oc_Player_move_notes, od_Player_move_notes, .func (PySem.W.fnOf "move_notes" "Player.move_notes" (defArgs s_Player_move_notes) (defBody s_Player_move_notes) (defScope s_Player_move_notes) .none kV_Player_move_notes dc_Player_move_notes pm_Player_move_notes an_Player_move_notes cd_Player_move_notes ct_Player_move_notes), sl_Player_move_notes⟩)
    (c_Player_move_notes : PySem.W.codeIn K cd_Player_move_notes "Player.move_notes" = true)
    (k_Player_move_notes : PySem.W.keepIn K (.ref f_Player_move_notes) = true)
    (a_Score_move_all : PySem.W.findIn K (.ref C_Score) "move_all" = some (some (.ref f_Score_move_all)))
    (i_Score_move_all : PySem.W.isFn K (.ref f_Score_move_all) = true)
    (l_Score_move_all : K.lookup f_Score_move_all = some ⟨oc_Score_move_all, od_Score_move_all, .func (PySem.W.fnOf "move_all" "Score.move_all" (defArgs s_Score_move_all) (defBody s_Score_move_all) (defScope s_Score_move_all) .none kV_Score_move_all dc_Score_move_all pm_Score_move_all an_Score_move_all cd_Score_move_all ct_Score_move_all), sl_Score_move_all⟩)
    (c_Score_move_all : PySem.W.codeIn K cd_Score_move_all "Score.move_all" = true)
    (k_Score_move_all : PySem.W.keepIn K (.ref f_Score_move_all) = true)
    (a_Score_new_bar : PySem.W.findIn K (.ref C_Score) "new_bar" = some (some (.ref f_Score_new_bar)))
    (i_Score_new_bar : PySem.W.isFn K (.ref f_Score_new_bar) = true)
    (l_Score_new_bar : K.lookup f_Score_new_bar = some ⟨oc_Score_new_bar, od_Score_new_bar, .func (PySem.W.fnOf "new_bar" "Score.new_bar" (defArgs s_Score_new_bar) (defBody s_Score_new_bar) (defScope s_Score_new_bar) .none kV_Score_new_bar dc_Score_new_bar pm_Score_new_bar an_Score_new_bar cd_Score_new_bar ct_Score_new_bar), sl_Score_new_bar⟩)
    (c_Score_new_bar : PySem.W.codeIn K cd_Score_new_bar "Score.new_bar" = true)
    (k_Score_new_bar : PySem.W.keepIn K (.ref f_Score_new_bar) = true)
    (a_Note_init : PySem.W.findIn K (.ref C_Note) "__init__" = some (some (.ref f_Note_init)))
    (i_Note_init : PySem.W.isFn K (.ref f_Note_init) = true)
    (l_Note_init : K.lookup f_Note_init = some ⟨oc_Note_init, od_Note_init, .func (PySem.W.fnOf "__init__" "Note.__init__" (defArgs s_Note_init) (defBody s_Note_init) (defScope s_Note_init) .none kV_Note_init dc_Note_init pm_Note_init an_Note_init cd_Note_init ct_Note_init), sl_Note_init⟩)
    (c_Note_init : PySem.W.codeIn K cd_Note_init "Note.__init__" = true)
    (k_Note_init : PySem.W.keepIn K (.ref f_Note_init) = true)
    (a_Player_is_silent : PySem.W.findIn K (.ref C_Player) "is_silent" = some (some (.ref f_Player_is_silent)))
    (i_Player_is_silent : PySem.W.isFn K (.ref f_Player_is_silent) = true)
    (l_Player_is_silent : K.lookup f_Player_is_silent = some ⟨oc_Player_is_silent, od_Player_is_silent, .func (PySem.W.fnOf "is_silent" "Player.is_silent" (defArgs s_Player_is_silent) (defBody s_Player_is_silent) (defScope s_Player_is_silent) .none kV_Player_is_silent dc_Player_is_silent pm_Player_is_silent an_Player_is_silent cd_Player_is_silent ct_Player_is_silent), sl_Player_is_silent⟩)
    (c_Player_is_silent : PySem.W.codeIn K cd_Player_is_silent "Player.is_silent" = true)
    (k_Player_is_silent : PySem.W.keepIn K (.ref f_Player_is_silent) = true)
    (a_Player_take : PySem.W.findIn K (.ref C_Player) "take" = some (some (.ref f_Player_take)))
    (i_Player_take : PySem.W.isFn K (.ref f_Player_take) = true)
    (l_Player_take : K.lookup f_Player_take = some ⟨oc_Player_take, od_Player_take, .func (PySem.W.fnOf "take" "Player.take" (defArgs s_Player_take) (defBody s_Player_take) (defScope s_Player_take) .none kV_Player_take dc_Player_take pm_Player_take an_Player_take (.ref 166) ct_Player_take), sl_Player_take⟩)
    (c_Player_take : PySem.W.codeIn K (.ref 166) "Player.take" = true)
    (k_Player_take : PySem.W.keepIn K (.ref f_Player_take) = true)
    (a_Score_last_end : PySem.W.findIn K (.ref C_Score) "last_end" = some (some (.ref f_Score_last_end)))
    (i_Score_last_end : PySem.W.isFn K (.ref f_Score_last_end) = true)
    (l_Score_last_end : K.lookup f_Score_last_end = some ⟨oc_Score_last_end, od_Score_last_end, .func (PySem.W.fnOf "last_end" "Score.last_end" (defArgs s_Score_last_end) (defBody s_Score_last_end) (defScope s_Score_last_end) .none kV_Score_last_end dc_Score_last_end pm_Score_last_end an_Score_last_end cd_Score_last_end ct_Score_last_end), sl_Score_last_end⟩)
    (c_Score_last_end : PySem.W.codeIn K cd_Score_last_end "Score.last_end" = true)
    (k_Score_last_end : PySem.W.keepIn K (.ref f_Score_last_end) = true)
    (a_Score_new_note : PySem.W.findIn K (.ref C_Score) "new_note" = some (some (.ref f_Score_new_note)))
    (i_Score_new_note : PySem.W.isFn K (.ref f_Score_new_note) = true)
    (l_Score_new_note : K.lookup f_Score_new_note = some ⟨oc_Score_new_note, od_Score_new_note, .func (PySem.W.fnOf "new_note" "Score.new_note" (defArgs s_Score_new_note) (defBody s_Score_new_note) (defScope s_Score_new_note) .none kV_Score_new_note dc_Score_new_note pm_Score_new_note an_Score_new_note cd_Score_new_note ct_Score_new_note), sl_Score_new_note⟩)
    (c_Score_new_note : PySem.W.codeIn K cd_Score_new_note "Score.new_note" = true)
    (k_Score_new_note : PySem.W.keepIn K (.ref f_Score_new_note) = true)
    (a_Player_init : PySem.W.findIn K (.ref C_Player) "__init__" = some (some (.ref f_Player_init)))
    (i_Player_init : PySem.W.isFn K (.ref f_Player_init) = true)
    (l_Player_init : K.lookup f_Player_init = some ⟨oc_Player_init, od_Player_init, .func (PySem.W.fnOf "__init__" "Player.__init__" (defArgs s_Player_init) (defBody s_Player_init) (defScope s_Player_init) .none kV_Player_init dc_Player_init pm_Player_init an_Player_init cd_Player_init ct_Player_init), sl_Player_init⟩)
    (c_Player_init : PySem.W.codeIn K cd_Player_init "Player.__init__" = true)
    (k_Player_init : PySem.W.keepIn K (.ref f_Player_init) = true)
    (a_Score_new_player : PySem.W.findIn K (.ref C_Score) "new_player" = some (some (.ref f_Score_new_player)))
    (i_Score_new_player : PySem.W.isFn K (.ref f_Score_new_player) = true)
    (l_Score_new_player : K.lookup f_Score_new_player = some ⟨oc_Score_new_player, od_Score_new_player, .func (PySem.W.fnOf "new_player" "Score.new_player" (defArgs s_Score_new_player) (defBody s_Score_new_player) (defScope s_Score_new_player) .none kV_Score_new_player dc_Score_new_player pm_Score_new_player an_Score_new_player cd_Score_new_player ct_Score_new_player), sl_Score_new_player⟩)
    (c_Score_new_player : PySem.W.codeIn K cd_Score_new_player "Score.new_player" = true)
    (k_Score_new_player : PySem.W.keepIn K (.ref f_Score_new_player) = true)
    (a_furthest_end : PySem.W.nsIn K mainGlobals "furthest_end" = some (some (.ref f_furthest_end)))
    (l_furthest_end : K.lookup f_furthest_end = some ⟨oc_furthest_end, od_furthest_end, .func (PySem.W.fnOf "furthest_end" "furthest_end" (defArgs s_furthest_end) (defBody s_furthest_end) (defScope s_furthest_end) .none kV_furthest_end dc_furthest_end pm_furthest_end an_furthest_end cd_furthest_end ct_furthest_end), sl_furthest_end⟩)
    (c_furthest_end : PySem.W.codeIn K cd_furthest_end "furthest_end" = true)
    (k_furthest_end : PySem.W.keepIn K (.ref f_furthest_end) = true)
    (a_silent_about_ends : PySem.W.nsIn K mainGlobals "silent_about_ends" = some (some (.ref f_silent_about_ends)))
    (l_silent_about_ends : K.lookup f_silent_about_ends = some ⟨oc_silent_about_ends, od_silent_about_ends, .func (PySem.W.fnOf "silent_about_ends" "silent_about_ends" (defArgs s_silent_about_ends) (defBody s_silent_about_ends) (defScope s_silent_about_ends) .none kV_silent_about_ends dc_silent_about_ends pm_silent_about_ends an_silent_about_ends cd_silent_about_ends ct_silent_about_ends), sl_silent_about_ends⟩)
    (c_silent_about_ends : PySem.W.codeIn K cd_silent_about_ends "silent_about_ends" = true)
    (k_silent_about_ends : PySem.W.keepIn K (.ref f_silent_about_ends) = true)
    (a_places_to_end : PySem.W.nsIn K mainGlobals "places_to_end" = some (some (.ref f_places_to_end)))
    (l_places_to_end : K.lookup f_places_to_end = some ⟨oc_places_to_end, od_places_to_end, .func (PySem.W.fnOf "places_to_end" "places_to_end" (defArgs s_places_to_end) (defBody s_places_to_end) (defScope s_places_to_end) .none kV_places_to_end dc_places_to_end pm_places_to_end an_places_to_end cd_places_to_end ct_places_to_end), sl_places_to_end⟩)
    (c_places_to_end : PySem.W.codeIn K cd_places_to_end "places_to_end" = true)
    (k_places_to_end : PySem.W.keepIn K (.ref f_places_to_end) = true)
    (a_first_behind : PySem.W.nsIn K mainGlobals "first_behind" = some (some (.ref f_first_behind)))
    (l_first_behind : K.lookup f_first_behind = some ⟨oc_first_behind, od_first_behind, .func (PySem.W.fnOf "first_behind" "first_behind" (defArgs s_first_behind) (defBody s_first_behind) (defScope s_first_behind) .none kV_first_behind dc_first_behind pm_first_behind an_first_behind cd_first_behind ct_first_behind), sl_first_behind⟩)
    (c_first_behind : PySem.W.codeIn K cd_first_behind "first_behind" = true)
    (k_first_behind : PySem.W.keepIn K (.ref f_first_behind) = true)
    (a_written_note : PySem.W.nsIn K mainGlobals "written_note" = some (some (.ref f_written_note)))
    (l_written_note : K.lookup f_written_note = some ⟨oc_written_note, od_written_note, .func (PySem.W.fnOf "written_note" "written_note" (defArgs s_written_note) (defBody s_written_note) (defScope s_written_note) .none kV_written_note dc_written_note pm_written_note an_written_note cd_written_note ct_written_note), sl_written_note⟩)
    (c_written_note : PySem.W.codeIn K cd_written_note "written_note" = true)
    (k_written_note : PySem.W.keepIn K (.ref f_written_note) = true)
    (a_written_bar : PySem.W.nsIn K mainGlobals "written_bar" = some (some (.ref f_written_bar)))
    (l_written_bar : K.lookup f_written_bar = some ⟨oc_written_bar, od_written_bar, .func (PySem.W.fnOf "written_bar" "written_bar" (defArgs s_written_bar) (defBody s_written_bar) (defScope s_written_bar) .none kV_written_bar dc_written_bar pm_written_bar an_written_bar cd_written_bar ct_written_bar), sl_written_bar⟩)
    (c_written_bar : PySem.W.codeIn K cd_written_bar "written_bar" = true)
    (k_written_bar : PySem.W.keepIn K (.ref f_written_bar) = true)
    (a_written_bars : PySem.W.nsIn K mainGlobals "written_bars" = some (some (.ref f_written_bars)))
    (l_written_bars : K.lookup f_written_bars = some ⟨oc_written_bars, od_written_bars, .func (PySem.W.fnOf "written_bars" "written_bars" (defArgs s_written_bars) (defBody s_written_bars) (defScope s_written_bars) .none kV_written_bars dc_written_bars pm_written_bars an_written_bars cd_written_bars ct_written_bars), sl_written_bars⟩)
    (c_written_bars : PySem.W.codeIn K cd_written_bars "written_bars" = true)
    (k_written_bars : PySem.W.keepIn K (.ref f_written_bars) = true)
    (a_page_ends : PySem.W.nsIn K mainGlobals "page_ends" = some (some (.ref f_page_ends)))
    (l_page_ends : K.lookup f_page_ends = some ⟨oc_page_ends, od_page_ends, .func (PySem.W.fnOf "page_ends" "page_ends" (defArgs s_page_ends) (defBody s_page_ends) (defScope s_page_ends) .none kV_page_ends dc_page_ends pm_page_ends an_page_ends cd_page_ends ct_page_ends), sl_page_ends⟩)
    (c_page_ends : PySem.W.codeIn K cd_page_ends "page_ends" = true)
    (k_page_ends : PySem.W.keepIn K (.ref f_page_ends) = true)
    (a_pages_answer : PySem.W.nsIn K mainGlobals "pages_answer" = some (some (.ref f_pages_answer)))
    (l_pages_answer : K.lookup f_pages_answer = some ⟨oc_pages_answer, od_pages_answer, .func (PySem.W.fnOf "pages_answer" "pages_answer" (defArgs s_pages_answer) (defBody s_pages_answer) (defScope s_pages_answer) .none kV_pages_answer dc_pages_answer pm_pages_answer an_pages_answer cd_pages_answer ct_pages_answer), sl_pages_answer⟩)
    (c_pages_answer : PySem.W.codeIn K cd_pages_answer "pages_answer" = true)
    (k_pages_answer : PySem.W.keepIn K (.ref f_pages_answer) = true)
    (a_is_parallel : PySem.W.nsIn K mainGlobals "is_parallel" = some (some (.ref f_is_parallel)))
    (l_is_parallel : K.lookup f_is_parallel = some ⟨oc_is_parallel, od_is_parallel, .func (PySem.W.fnOf "is_parallel" "is_parallel" (defArgs s_is_parallel) (defBody s_is_parallel) (defScope s_is_parallel) .none kV_is_parallel dc_is_parallel pm_is_parallel an_is_parallel cd_is_parallel ct_is_parallel), sl_is_parallel⟩)
    (c_is_parallel : PySem.W.codeIn K cd_is_parallel "is_parallel" = true)
    (k_is_parallel : PySem.W.keepIn K (.ref f_is_parallel) = true)
    (a_goes_parallel : PySem.W.nsIn K mainGlobals "goes_parallel" = some (some (.ref f_goes_parallel)))
    (l_goes_parallel : K.lookup f_goes_parallel = some ⟨oc_goes_parallel, od_goes_parallel, .func (PySem.W.fnOf "goes_parallel" "goes_parallel" (defArgs s_goes_parallel) (defBody s_goes_parallel) (defScope s_goes_parallel) .none kV_goes_parallel dc_goes_parallel pm_goes_parallel an_goes_parallel cd_goes_parallel ct_goes_parallel), sl_goes_parallel⟩)
    (c_goes_parallel : PySem.W.codeIn K cd_goes_parallel "goes_parallel" = true)
    (k_goes_parallel : PySem.W.keepIn K (.ref f_goes_parallel) = true)
    (a_steps : PySem.W.nsIn K mainGlobals "steps" = some (some (.ref f_steps)))
    (l_steps : K.lookup f_steps = some ⟨oc_steps, od_steps, .func (PySem.W.fnOf "steps" "steps" (defArgs s_steps) (defBody s_steps) (defScope s_steps) .none kV_steps dc_steps pm_steps an_steps cd_steps ct_steps), sl_steps⟩)
    (c_steps : PySem.W.codeIn K cd_steps "steps" = true)
    (k_steps : PySem.W.keepIn K (.ref f_steps) = true)
    (a_count_parallels : PySem.W.nsIn K mainGlobals "count_parallels" = some (some (.ref f_count_parallels)))
    (l_count_parallels : K.lookup f_count_parallels = some ⟨oc_count_parallels, od_count_parallels, .func (PySem.W.fnOf "count_parallels" "count_parallels" (defArgs s_count_parallels) (defBody s_count_parallels) (defScope s_count_parallels) .none kV_count_parallels dc_count_parallels pm_count_parallels an_count_parallels cd_count_parallels ct_count_parallels), sl_count_parallels⟩)
    (c_count_parallels : PySem.W.codeIn K cd_count_parallels "count_parallels" = true)
    (k_count_parallels : PySem.W.keepIn K (.ref f_count_parallels) = true)
    (a_parallels_answer : PySem.W.nsIn K mainGlobals "parallels_answer" = some (some (.ref f_parallels_answer)))
    (l_parallels_answer : K.lookup f_parallels_answer = some ⟨oc_parallels_answer, od_parallels_answer, .func (PySem.W.fnOf "parallels_answer" "parallels_answer" (defArgs s_parallels_answer) (defBody s_parallels_answer) (defScope s_parallels_answer) .none kV_parallels_answer dc_parallels_answer pm_parallels_answer an_parallels_answer cd_parallels_answer ct_parallels_answer), sl_parallels_answer⟩)
    (c_parallels_answer : PySem.W.codeIn K cd_parallels_answer "parallels_answer" = true)
    (k_parallels_answer : PySem.W.keepIn K (.ref f_parallels_answer) = true)
    (a_written_empty : PySem.W.nsIn K mainGlobals "written_empty" = some (some (.ref f_written_empty)))
    (l_written_empty : K.lookup f_written_empty = some ⟨oc_written_empty, od_written_empty, .func (PySem.W.fnOf "written_empty" "written_empty" (defArgs s_written_empty) (defBody s_written_empty) (defScope s_written_empty) .none kV_written_empty dc_written_empty pm_written_empty an_written_empty cd_written_empty ct_written_empty), sl_written_empty⟩)
    (c_written_empty : PySem.W.codeIn K cd_written_empty "written_empty" = true)
    (k_written_empty : PySem.W.keepIn K (.ref f_written_empty) = true)
    (a_written_part : PySem.W.nsIn K mainGlobals "written_part" = some (some (.ref f_written_part)))
    (l_written_part : K.lookup f_written_part = some ⟨oc_written_part, od_written_part, .func (PySem.W.fnOf "written_part" "written_part" (defArgs s_written_part) (defBody s_written_part) (defScope s_written_part) .none kV_written_part dc_written_part pm_written_part an_written_part cd_written_part ct_written_part), sl_written_part⟩)
    (c_written_part : PySem.W.codeIn K cd_written_part "written_part" = true)
    (k_written_part : PySem.W.keepIn K (.ref f_written_part) = true)
    (a_part_answer : PySem.W.nsIn K mainGlobals "part_answer" = some (some (.ref f_part_answer)))
    (l_part_answer : K.lookup f_part_answer = some ⟨oc_part_answer, od_part_answer, .func (PySem.W.fnOf "part_answer" "part_answer" (defArgs s_part_answer) (defBody s_part_answer) (defScope s_part_answer) .none kV_part_answer dc_part_answer pm_part_answer an_part_answer cd_part_answer ct_part_answer), sl_part_answer⟩)
    (c_part_answer : PySem.W.codeIn K cd_part_answer "part_answer" = true)
    (k_part_answer : PySem.W.keepIn K (.ref f_part_answer) = true)
    (a_bar_begins : PySem.W.nsIn K mainGlobals "bar_begins" = some (some (.ref f_bar_begins)))
    (l_bar_begins : K.lookup f_bar_begins = some ⟨oc_bar_begins, od_bar_begins, .func (PySem.W.fnOf "bar_begins" "bar_begins" (defArgs s_bar_begins) (defBody s_bar_begins) (defScope s_bar_begins) .none kV_bar_begins dc_bar_begins pm_bar_begins an_bar_begins cd_bar_begins ct_bar_begins), sl_bar_begins⟩)
    (c_bar_begins : PySem.W.codeIn K cd_bar_begins "bar_begins" = true)
    (k_bar_begins : PySem.W.keepIn K (.ref f_bar_begins) = true)
    (a_behind_empty : PySem.W.nsIn K mainGlobals "behind_empty" = some (some (.ref f_behind_empty)))
    (l_behind_empty : K.lookup f_behind_empty = some ⟨oc_behind_empty, od_behind_empty, .func (PySem.W.fnOf "behind_empty" "behind_empty" (defArgs s_behind_empty) (defBody s_behind_empty) (defScope s_behind_empty) .none kV_behind_empty dc_behind_empty pm_behind_empty an_behind_empty cd_behind_empty ct_behind_empty), sl_behind_empty⟩)
    (c_behind_empty : PySem.W.codeIn K cd_behind_empty "behind_empty" = true)
    (k_behind_empty : PySem.W.keepIn K (.ref f_behind_empty) = true)
    (a_spelled_notes : PySem.W.nsIn K mainGlobals "spelled_notes" = some (some (.ref f_spelled_notes)))
    (l_spelled_notes : K.lookup f_spelled_notes = some ⟨oc_spelled_notes, od_spelled_notes, .func (PySem.W.fnOf "spelled_notes" "spelled_notes" (defArgs s_spelled_notes) (defBody s_spelled_notes) (defScope s_spelled_notes) .none kV_spelled_notes dc_spelled_notes pm_spelled_notes an_spelled_notes cd_spelled_notes ct_spelled_notes), sl_spelled_notes⟩)
    (c_spelled_notes : PySem.W.codeIn K cd_spelled_notes "spelled_notes" = true)
    (k_spelled_notes : PySem.W.keepIn K (.ref f_spelled_notes) = true)
    (a_read_notes : PySem.W.nsIn K mainGlobals "read_notes" = some (some (.ref f_read_notes)))
    (l_read_notes : K.lookup f_read_notes = some ⟨oc_read_notes, od_read_notes, .func (PySem.W.fnOf "read_notes" "read_notes" (defArgs s_read_notes) (defBody s_read_notes) (defScope s_read_notes) .none kV_read_notes dc_read_notes pm_read_notes an_read_notes cd_read_notes ct_read_notes), sl_read_notes⟩)
    (c_read_notes : PySem.W.codeIn K cd_read_notes "read_notes" = true)
    (k_read_notes : PySem.W.keepIn K (.ref f_read_notes) = true)
    (a_read_answer : PySem.W.nsIn K mainGlobals "read_answer" = some (some (.ref f_read_answer)))
    (l_read_answer : K.lookup f_read_answer = some ⟨oc_read_answer, od_read_answer, .func (PySem.W.fnOf "read_answer" "read_answer" (defArgs s_read_answer) (defBody s_read_answer) (defScope s_read_answer) .none kV_read_answer dc_read_answer pm_read_answer an_read_answer cd_read_answer ct_read_answer), sl_read_answer⟩)
    (c_read_answer : PySem.W.codeIn K cd_read_answer "read_answer" = true)
    (k_read_answer : PySem.W.keepIn K (.ref f_read_answer) = true)
    (a_Player_note_at : PySem.W.findIn K (.ref C_Player) "note_at" = some (some (.ref f_Player_note_at)))
    (i_Player_note_at : PySem.W.isFn K (.ref f_Player_note_at) = true)
    (l_Player_note_at : K.lookup f_Player_note_at = some ⟨oc_Player_note_at, od_Player_note_at, .func (PySem.W.fnOf "note_at" "Player.note_at" (defArgs s_Player_note_at) (defBody s_Player_note_at) (defScope s_Player_note_at) .none kV_Player_note_at dc_Player_note_at pm_Player_note_at an_Player_note_at cd_Player_note_at ct_Player_note_at), sl_Player_note_at⟩)
    (c_Player_note_at : PySem.W.codeIn K cd_Player_note_at "Player.note_at" = true)
    (k_Player_note_at : PySem.W.keepIn K (.ref f_Player_note_at) = true)
    (a_sounds_answer : PySem.W.nsIn K mainGlobals "sounds_answer" = some (some (.ref f_sounds_answer)))
    (l_sounds_answer : K.lookup f_sounds_answer = some ⟨oc_sounds_answer, od_sounds_answer, .func (PySem.W.fnOf "sounds_answer" "sounds_answer" (defArgs s_sounds_answer) (defBody s_sounds_answer) (defScope s_sounds_answer) .none kV_sounds_answer dc_sounds_answer pm_sounds_answer an_sounds_answer cd_sounds_answer ct_sounds_answer), sl_sounds_answer⟩)
    (c_sounds_answer : PySem.W.codeIn K cd_sounds_answer "sounds_answer" = true)
    (k_sounds_answer : PySem.W.keepIn K (.ref f_sounds_answer) = true)
    (a_answer : PySem.W.nsIn K mainGlobals "answer" = some (some (.ref f_answer)))
    (l_answer : K.lookup f_answer = some ⟨oc_answer, od_answer, .func (PySem.W.fnOf "answer" "answer" (defArgs s_answer) (defBody s_answer) (defScope s_answer) .none kV_answer dc_answer pm_answer an_answer cd_answer ct_answer), sl_answer⟩)
    (c_answer : PySem.W.codeIn K cd_answer "answer" = true)
    (k_answer : PySem.W.keepIn K (.ref f_answer) = true)
    (a_behind_call : PySem.W.nsIn K mainGlobals "behind_call" = some (some (.ref f_behind_call)))
    (l_behind_call : K.lookup f_behind_call = some ⟨oc_behind_call, od_behind_call, .func (PySem.W.fnOf "behind_call" "behind_call" (defArgs s_behind_call) (defBody s_behind_call) (defScope s_behind_call) .none kV_behind_call dc_behind_call pm_behind_call an_behind_call cd_behind_call ct_behind_call), sl_behind_call⟩)
    (c_behind_call : PySem.W.codeIn K cd_behind_call "behind_call" = true)
    (k_behind_call : PySem.W.keepIn K (.ref f_behind_call) = true)
    (a_answers : PySem.W.nsIn K mainGlobals "answers" = some (some (.ref f_answers)))
    (l_answers : K.lookup f_answers = some ⟨oc_answers, od_answers, .func (PySem.W.fnOf "answers" "answers" (defArgs s_answers) (defBody s_answers) (defScope s_answers) .none kV_answers dc_answers pm_answers an_answers cd_answers ct_answers), sl_answers⟩)
    (c_answers : PySem.W.codeIn K cd_answers "answers" = true)
    (k_answers : PySem.W.keepIn K (.ref f_answers) = true) :
    ∃ fd : FuncData, (∀ (s : Shared) (us : List Value), us.length = (["calls"] : List Str).length → BindsTo s fd ⟨us, []⟩ ((["calls"] : List Str).zip us)) ∧ ∀ base : Heap, K.In base → base.Ns mainGlobals mg → BMain mg base → PySem.W.CodeHd base 166 162 → FnOk P w K mg base CX0 8 fa fd ["calls"] (sp_answers K ⟨0, 0, 0⟩) := by
  have e := hfa.symm.trans (PySem.W.mg_of X G a_answers)
  cases e
  have T : Txt K mg ⟨C_Note, C_Player, C_Score⟩ := {
    c_Note := ⟨pg_Note, hd_Note, po_Note, sa_Note⟩
    c_Player := ⟨pg_Player, hd_Player, po_Player, sa_Player⟩
    c_Score := ⟨pg_Score, hd_Score, po_Score, sa_Score⟩
    a_Note_start := nf_Note_start
    a_Note_end := nf_Note_end
    a_Note_high := nf_Note_high
    a_Player_shift := nf_Player_shift
    a_Player_low := nf_Player_low
    a_Player_top := nf_Player_top
    a_Player_notes := nf_Player_notes
    a_Score_bars := nf_Score_bars
    a_Score_players := nf_Score_players
    n_EMPTY := ⟨_, PySem.W.mg_of X G nn_EMPTY⟩
    n_REST := ⟨_, PySem.W.mg_of X G nn_REST⟩
    n_GOES_ON := ⟨_, PySem.W.mg_of X G nn_GOES_ON⟩
    n_LIFT := ⟨_, PySem.W.mg_of X G nn_LIFT⟩
    n_OCTAVE := ⟨_, PySem.W.mg_of X G nn_OCTAVE⟩
    n_NOT_THERE := ⟨_, PySem.W.mg_of X G nn_NOT_THERE⟩
    n_AT_ONCE := ⟨_, PySem.W.mg_of X G nn_AT_ONCE⟩
    n_NOT_ALLOWED := ⟨_, PySem.W.mg_of X G nn_NOT_ALLOWED⟩
    n_NO_ROOM := ⟨_, PySem.W.mg_of X G nn_NO_ROOM⟩
    n_NO_PAGES := ⟨_, PySem.W.mg_of X G nn_NO_PAGES⟩
    n_OUT_OF_RANGE := ⟨_, PySem.W.mg_of X G nn_OUT_OF_RANGE⟩
    n_NOT_A_PART := ⟨_, PySem.W.mg_of X G nn_NOT_A_PART⟩
    n_MOST_BARS := ⟨_, PySem.W.mg_of X G nn_MOST_BARS⟩
    n_LONGEST_BAR := ⟨_, PySem.W.mg_of X G nn_LONGEST_BAR⟩
    n_MOST_PLAYERS := ⟨_, PySem.W.mg_of X G nn_MOST_PLAYERS⟩
    n_WIDEST_SHIFT := ⟨_, PySem.W.mg_of X G nn_WIDEST_SHIFT⟩
    n_HIGHEST := ⟨_, PySem.W.mg_of X G nn_HIGHEST⟩
    n_MOST_NOTES := ⟨_, PySem.W.mg_of X G nn_MOST_NOTES⟩
    n_BEGIN := ⟨_, PySem.W.mg_of X G nn_BEGIN⟩
    n_BAR := ⟨_, PySem.W.mg_of X G nn_BAR⟩
    n_PLAYER := ⟨_, PySem.W.mg_of X G nn_PLAYER⟩
    n_NOTE := ⟨_, PySem.W.mg_of X G nn_NOTE⟩
    n_DROP := ⟨_, PySem.W.mg_of X G nn_DROP⟩
    n_PART := ⟨_, PySem.W.mg_of X G nn_PART⟩
    n_READ := ⟨_, PySem.W.mg_of X G nn_READ⟩
    n_PAGES := ⟨_, PySem.W.mg_of X G nn_PAGES⟩
    n_SOUNDS := ⟨_, PySem.W.mg_of X G nn_SOUNDS⟩
    n_MOVE := ⟨_, PySem.W.mg_of X G nn_MOVE⟩
    k_PARALLEL := ⟨_, PySem.W.mg_of X G kn_PARALLEL, _, _, _, kl_PARALLEL, rfl, rfl, by show 2 ≤ sizeLine; decide, (.cons ⟨_, rfl⟩ (.cons ⟨_, rfl⟩ .nil))⟩
    k_SIZES := ⟨_, PySem.W.mg_of X G kn_SIZES, _, _, _, kl_SIZES, rfl, rfl, by show 11 ≤ sizeLine; decide, (.cons ⟨_, rfl⟩ (.cons ⟨_, rfl⟩ (.cons ⟨_, rfl⟩ (.cons ⟨_, rfl⟩ (.cons ⟨_, rfl⟩ (.cons ⟨_, rfl⟩ (.cons ⟨_, rfl⟩ (.cons ⟨_, rfl⟩ (.cons ⟨_, rfl⟩ (.cons ⟨_, rfl⟩ (.cons ⟨_, rfl⟩ .nil)))))))))))⟩
    b_abs := PySem.W.mg_none_of X G bn_abs
    b_all := PySem.W.mg_none_of X G bn_all
    b_enumerate := PySem.W.mg_none_of X G bn_enumerate
    b_len := PySem.W.mg_none_of X G bn_len
    b_max := PySem.W.mg_none_of X G bn_max
    b_min := PySem.W.mg_none_of X G bn_min
    b_range := PySem.W.mg_none_of X G bn_range
    b_sorted := PySem.W.mg_none_of X G bn_sorted
    b_sum := PySem.W.mg_none_of X G bn_sum }
  have F_Score_init := fun_mk (st := s_Score_init) l_Score_init c_Score_init k_Score_init
  have B_Score_init := fb1 "self" F_Score_init fun _ _ _ _ _ _ _ => rfl
  have F_Score_begin := fun_mk (st := s_Score_begin) l_Score_begin c_Score_begin k_Score_begin
  have B_Score_begin := fb1 "self" F_Score_begin fun _ _ _ _ _ _ _ => rfl
  have F_Player_leave_out := fun_mk (st := s_Player_leave_out) l_Player_leave_out c_Player_leave_out k_Player_leave_out
  have B_Player_leave_out := fb2 "self" "start" F_Player_leave_out fun _ _ _ _ _ _ _ _ => rfl
  have F_Score_has_player := fun_mk (st := s_Score_has_player) l_Score_has_player c_Score_has_player k_Score_has_player
  have B_Score_has_player := fb2 "self" "i" F_Score_has_player fun _ _ _ _ _ _ _ _ => rfl
  have F_Score_drop_note := fun_mk (st := s_Score_drop_note) l_Score_drop_note c_Score_drop_note k_Score_drop_note
  have B_Score_drop_note := fb3 "self" "i" "start" F_Score_drop_note fun _ _ _ _ _ _ _ _ _ => rfl
  have F_Player_may_sound := fun_mk (st := s_Player_may_sound) l_Player_may_sound c_Player_may_sound k_Player_may_sound
  have B_Player_may_sound := fb2 "self" "high" F_Player_may_sound fun _ _ _ _ _ _ _ _ => rfl
  have F_Player_may_move := fun_mk (st := s_Player_may_move) l_Player_may_move c_Player_may_move k_Player_may_move
  have B_Player_may_move := fb2 "self" "k" F_Player_may_move fun _ _ _ _ _ _ _ _ => rfl
  have F_Player_move_notes := fun_mk (st := s_Player_move_notes) l_Player_move_notes c_Player_move_notes k_Player_move_notes
  have B_Player_move_notes := fb2 "self" "k" F_Player_move_notes fun _ _ _ _ _ _ _ _ => rfl
  have F_Score_move_all := fun_mk (st := s_Score_move_all) l_Score_move_all c_Score_move_all k_Score_move_all
  have B_Score_move_all := fb2 "self" "k" F_Score_move_all fun _ _ _ _ _ _ _ _ => rfl
  have F_Score_new_bar := fun_mk (st := s_Score_new_bar) l_Score_new_bar c_Score_new_bar k_Score_new_bar
  have B_Score_new_bar := fb2 "self" "length" F_Score_new_bar fun _ _ _ _ _ _ _ _ => rfl
  have F_Note_init := fun_mk (st := s_Note_init) l_Note_init c_Note_init k_Note_init
  have B_Note_init := fb4 "self" "start" "end" "high" F_Note_init fun _ _ _ _ _ _ _ _ _ _ => rfl
  have F_Player_is_silent := fun_mk (st := s_Player_is_silent) l_Player_is_silent c_Player_is_silent k_Player_is_silent
  have B_Player_is_silent := fb3 "self" "start" "end" F_Player_is_silent fun _ _ _ _ _ _ _ _ _ => rfl
  have F_Player_take := fun_mk (st := s_Player_take) l_Player_take c_Player_take k_Player_take
  have B_Player_take := fb2 "self" "added" F_Player_take fun _ _ _ _ _ _ _ _ => rfl
  have F_Score_last_end := fun_mk (st := s_Score_last_end) l_Score_last_end c_Score_last_end k_Score_last_end
  have B_Score_last_end := fb1 "self" F_Score_last_end fun _ _ _ _ _ _ _ => rfl
  have F_Score_new_note := fun_mk (st := s_Score_new_note) l_Score_new_note c_Score_new_note k_Score_new_note
  have B_Score_new_note := fb5 "self" "i" "start" "length" "high" F_Score_new_note fun _ _ _ _ _ _ _ _ _ _ _ => rfl
  have F_Player_init := fun_mk (st := s_Player_init) l_Player_init c_Player_init k_Player_init
  have B_Player_init := fb4 "self" "shift" "low" "top" F_Player_init fun _ _ _ _ _ _ _ _ _ _ => rfl
  have F_Score_new_player := fun_mk (st := s_Score_new_player) l_Score_new_player c_Score_new_player k_Score_new_player
  have B_Score_new_player := fb4 "self" "shift" "low" "top" F_Score_new_player fun _ _ _ _ _ _ _ _ _ _ => rfl
  have F_furthest_end := fun_mk (st := s_furthest_end) l_furthest_end c_furthest_end k_furthest_end
  have B_furthest_end := fb4 "rows" "places" "begin" "most" F_furthest_end fun _ _ _ _ _ _ _ _ _ _ => rfl
  have F_silent_about_ends := fun_mk (st := s_silent_about_ends) l_silent_about_ends c_silent_about_ends k_silent_about_ends
  have B_silent_about_ends := fb2 "bars" "notes" F_silent_about_ends fun _ _ _ _ _ _ _ _ => rfl
  have F_places_to_end := fun_mk (st := s_places_to_end) l_places_to_end c_places_to_end k_places_to_end
  have B_places_to_end := fb3 "bars" "notes" "rest" F_places_to_end fun _ _ _ _ _ _ _ _ _ => rfl
  have F_first_behind := fun_mk (st := s_first_behind) l_first_behind c_first_behind k_first_behind
  have B_first_behind := fb3 "notes" "first" "tick" F_first_behind fun _ _ _ _ _ _ _ _ _ => rfl
  have F_written_note := fun_mk (st := s_written_note) l_written_note c_written_note k_written_note
  have B_written_note := fb4 "note" "shift" "begin" "end" F_written_note fun _ _ _ _ _ _ _ _ _ _ => rfl
  have F_written_bar := fun_mk (st := s_written_bar) l_written_bar c_written_bar k_written_bar
  have B_written_bar := fb4 "player" "first" "begin" "end" F_written_bar fun _ _ _ _ _ _ _ _ _ _ => rfl
  have F_written_bars := fun_mk (st := s_written_bars) l_written_bars c_written_bars k_written_bars
  have B_written_bars := fb2 "bars" "player" F_written_bars fun _ _ _ _ _ _ _ _ => rfl
  have F_page_ends := fun_mk (st := s_page_ends) l_page_ends c_page_ends k_page_ends
  have B_page_ends := fb4 "bars" "player" "most" "rest" F_page_ends fun _ _ _ _ _ _ _ _ _ _ => rfl
  have F_pages_answer := fun_mk (st := s_pages_answer) l_pages_answer c_pages_answer k_pages_answer
  have B_pages_answer := fb4 "score" "i" "most" "rest" F_pages_answer fun _ _ _ _ _ _ _ _ _ _ => rfl
  have F_is_parallel := fun_mk (st := s_is_parallel) l_is_parallel c_is_parallel k_is_parallel
  have B_is_parallel := fb2 "high" "other" F_is_parallel fun _ _ _ _ _ _ _ _ => rfl
  have F_goes_parallel := fun_mk (st := s_goes_parallel) l_goes_parallel c_goes_parallel k_goes_parallel
  have B_goes_parallel := fb2 "step" "other" F_goes_parallel fun _ _ _ _ _ _ _ _ => rfl
  have F_steps := fun_mk (st := s_steps) l_steps c_steps k_steps
  have B_steps := fb1 "notes" F_steps fun _ _ _ _ _ _ _ => rfl
  have F_count_parallels := fun_mk (st := s_count_parallels) l_count_parallels c_count_parallels k_count_parallels
  have B_count_parallels := fb2 "notes" "other_notes" F_count_parallels fun _ _ _ _ _ _ _ _ => rfl
  have F_parallels_answer := fun_mk (st := s_parallels_answer) l_parallels_answer c_parallels_answer k_parallels_answer
  have B_parallels_answer := fb3 "score" "i" "j" F_parallels_answer fun _ _ _ _ _ _ _ _ _ => rfl
  have F_written_empty := fun_mk (st := s_written_empty) l_written_empty c_written_empty k_written_empty
  have B_written_empty := fb1 "count" F_written_empty fun _ _ _ _ _ _ _ => rfl
  have F_written_part := fun_mk (st := s_written_part) l_written_part c_written_part k_written_part
  have B_written_part := fb2 "bars" "player" F_written_part fun _ _ _ _ _ _ _ _ => rfl
  have F_part_answer := fun_mk (st := s_part_answer) l_part_answer c_part_answer k_part_answer
  have B_part_answer := fb2 "score" "i" F_part_answer fun _ _ _ _ _ _ _ _ => rfl
  have F_bar_begins := fun_mk (st := s_bar_begins) l_bar_begins c_bar_begins k_bar_begins
  have B_bar_begins := fb1 "bars" F_bar_begins fun _ _ _ _ _ _ _ => rfl
  have F_behind_empty := fun_mk (st := s_behind_empty) l_behind_empty c_behind_empty k_behind_empty
  have B_behind_empty := fb3 "begins" "at" "count" F_behind_empty fun _ _ _ _ _ _ _ _ _ => rfl
  have F_spelled_notes := fun_mk (st := s_spelled_notes) l_spelled_notes c_spelled_notes k_spelled_notes
  have B_spelled_notes := fb3 "bars" "shift" "part" F_spelled_notes fun _ _ _ _ _ _ _ _ _ => rfl
  have F_read_notes := fun_mk (st := s_read_notes) l_read_notes c_read_notes k_read_notes
  have B_read_notes := fb3 "bars" "player" "part" F_read_notes fun _ _ _ _ _ _ _ _ _ => rfl
  have F_read_answer := fun_mk (st := s_read_answer) l_read_answer c_read_answer k_read_answer
  have B_read_answer := fb3 "score" "i" "part" F_read_answer fun _ _ _ _ _ _ _ _ _ => rfl
  have F_Player_note_at := fun_mk (st := s_Player_note_at) l_Player_note_at c_Player_note_at k_Player_note_at
  have B_Player_note_at := fb2 "self" "tick" F_Player_note_at fun _ _ _ _ _ _ _ _ => rfl
  have F_sounds_answer := fun_mk (st := s_sounds_answer) l_sounds_answer c_sounds_answer k_sounds_answer
  have B_sounds_answer := fb2 "score" "tick" F_sounds_answer fun _ _ _ _ _ _ _ _ => rfl
  have F_answer := fun_mk (st := s_answer) l_answer c_answer k_answer
  have B_answer := fb3 "score" "call" "numbers" F_answer fun _ _ _ _ _ _ _ _ _ => rfl
  have F_behind_call := fun_mk (st := s_behind_call) l_behind_call c_behind_call k_behind_call
  have B_behind_call := fb2 "calls" "k" F_behind_call fun _ _ _ _ _ _ _ _ => rfl
  have F_answers := fun_mk (st := s_answers) l_answers c_answers k_answers
  have B_answers := fb1 "calls" F_answers fun _ _ _ _ _ _ _ => rfl
  refine ⟨PySem.W.fnOf "answers" "answers" (defArgs s_answers) (defBody s_answers) (defScope s_answers) .none kV_answers dc_answers pm_answers an_answers cd_answers ct_answers, fun s us hu => us1 (C := fun us => BindsTo s _ ⟨us, []⟩ (((["calls"] : List Str)).zip us)) hu fun _ => .of_eq rfl, fun base _ _ hBM hC => ?_⟩
  have O_Score_init := ok_Score_init (P := P) (w := w) (base := base) F_Score_init T
  have R_Score_init : Nw P w K mg base "Score" C_Score 1 ["self"] (sp_Score_init K ⟨C_Note, C_Player, C_Score⟩) f_Score_init _ := ⟨O_Score_init, B_Score_init, ⟨mk_Score, a_Score_init, i_Score_init, kc_Score⟩, PySem.W.mg_of X G aC_Score⟩
  have O_Score_begin := ok_Score_begin (P := P) (w := w) (base := base) F_Score_begin T
  have R_Score_begin : Mt P w K mg base C_Score "begin" 1 ["self"] (sp_Score_begin K ⟨C_Note, C_Player, C_Score⟩) f_Score_begin _ := ⟨O_Score_begin, B_Score_begin, ⟨a_Score_begin, i_Score_begin, k_Score_begin⟩⟩
  have O_Player_leave_out := ok_Player_leave_out (P := P) (w := w) (base := base) F_Player_leave_out T
  have R_Player_leave_out : Mt P w K mg base C_Player "leave_out" 1 ["self", "start"] (sp_Player_leave_out K ⟨C_Note, C_Player, C_Score⟩) f_Player_leave_out _ := ⟨O_Player_leave_out, B_Player_leave_out, ⟨a_Player_leave_out, i_Player_leave_out, k_Player_leave_out⟩⟩
  have O_Score_has_player := ok_Score_has_player (P := P) (w := w) (base := base) F_Score_has_player T
  have R_Score_has_player : Mt P w K mg base C_Score "has_player" 1 ["self", "i"] (sp_Score_has_player K ⟨C_Note, C_Player, C_Score⟩) f_Score_has_player _ := ⟨O_Score_has_player, B_Score_has_player, ⟨a_Score_has_player, i_Score_has_player, k_Score_has_player⟩⟩
  have O_Score_drop_note := ok_Score_drop_note (P := P) (w := w) (base := base) F_Score_drop_note T R_Player_leave_out R_Score_has_player
  have R_Score_drop_note : Mt P w K mg base C_Score "drop_note" 2 ["self", "i", "start"] (sp_Score_drop_note K ⟨C_Note, C_Player, C_Score⟩) f_Score_drop_note _ := ⟨O_Score_drop_note, B_Score_drop_note, ⟨a_Score_drop_note, i_Score_drop_note, k_Score_drop_note⟩⟩
  have O_Player_may_sound := ok_Player_may_sound (P := P) (w := w) (base := base) F_Player_may_sound T
  have R_Player_may_sound : Mt P w K mg base C_Player "may_sound" 1 ["self", "high"] (sp_Player_may_sound K ⟨C_Note, C_Player, C_Score⟩) f_Player_may_sound _ := ⟨O_Player_may_sound, B_Player_may_sound, ⟨a_Player_may_sound, i_Player_may_sound, k_Player_may_sound⟩⟩
  have O_Player_may_move := ok_Player_may_move (P := P) (w := w) (base := base) F_Player_may_move T R_Player_may_sound
  have R_Player_may_move : Mt P w K mg base C_Player "may_move" 2 ["self", "k"] (sp_Player_may_move K ⟨C_Note, C_Player, C_Score⟩) f_Player_may_move _ := ⟨O_Player_may_move, B_Player_may_move, ⟨a_Player_may_move, i_Player_may_move, k_Player_may_move⟩⟩
  have O_Player_move_notes := ok_Player_move_notes (P := P) (w := w) (base := base) F_Player_move_notes T
  have R_Player_move_notes : Mt P w K mg base C_Player "move_notes" 1 ["self", "k"] (sp_Player_move_notes K ⟨C_Note, C_Player, C_Score⟩) f_Player_move_notes _ := ⟨O_Player_move_notes, B_Player_move_notes, ⟨a_Player_move_notes, i_Player_move_notes, k_Player_move_notes⟩⟩
  have O_Score_move_all := ok_Score_move_all (P := P) (w := w) (base := base) F_Score_move_all T R_Player_may_move R_Player_move_notes
  have R_Score_move_all : Mt P w K mg base C_Score "move_all" 3 ["self", "k"] (sp_Score_move_all K ⟨C_Note, C_Player, C_Score⟩) f_Score_move_all _ := ⟨O_Score_move_all, B_Score_move_all, ⟨a_Score_move_all, i_Score_move_all, k_Score_move_all⟩⟩
  have O_Score_new_bar := ok_Score_new_bar (P := P) (w := w) (base := base) F_Score_new_bar T
  have R_Score_new_bar : Mt P w K mg base C_Score "new_bar" 1 ["self", "length"] (sp_Score_new_bar K ⟨C_Note, C_Player, C_Score⟩) f_Score_new_bar _ := ⟨O_Score_new_bar, B_Score_new_bar, ⟨a_Score_new_bar, i_Score_new_bar, k_Score_new_bar⟩⟩
  have O_Note_init := ok_Note_init (P := P) (w := w) (base := base) F_Note_init T
  have R_Note_init : Nw P w K mg base "Note" C_Note 1 ["self", "start", "end", "high"] (sp_Note_init K ⟨C_Note, C_Player, C_Score⟩) f_Note_init _ := ⟨O_Note_init, B_Note_init, ⟨mk_Note, a_Note_init, i_Note_init, kc_Note⟩, PySem.W.mg_of X G aC_Note⟩
  have O_Player_is_silent := ok_Player_is_silent (P := P) (w := w) (base := base) F_Player_is_silent T
  have R_Player_is_silent : Mt P w K mg base C_Player "is_silent" 1 ["self", "start", "end"] (sp_Player_is_silent K ⟨C_Note, C_Player, C_Score⟩) f_Player_is_silent _ := ⟨O_Player_is_silent, B_Player_is_silent, ⟨a_Player_is_silent, i_Player_is_silent, k_Player_is_silent⟩⟩
  have O_Player_take := ok_Player_take (P := P) (w := w) (base := base) F_Player_take T rfl hC hBM
  have R_Player_take : Mt P w K mg base C_Player "take" 1 ["self", "added"] (sp_Player_take K ⟨C_Note, C_Player, C_Score⟩) f_Player_take _ := ⟨O_Player_take, B_Player_take, ⟨a_Player_take, i_Player_take, k_Player_take⟩⟩
  have O_Score_last_end := ok_Score_last_end (P := P) (w := w) (base := base) F_Score_last_end T
  have R_Score_last_end : Mt P w K mg base C_Score "last_end" 1 ["self"] (sp_Score_last_end K ⟨C_Note, C_Player, C_Score⟩) f_Score_last_end _ := ⟨O_Score_last_end, B_Score_last_end, ⟨a_Score_last_end, i_Score_last_end, k_Score_last_end⟩⟩
  have O_Score_new_note := ok_Score_new_note (P := P) (w := w) (base := base) F_Score_new_note T R_Note_init R_Player_is_silent R_Player_may_sound R_Player_take R_Score_has_player R_Score_last_end
  have R_Score_new_note : Mt P w K mg base C_Score "new_note" 3 ["self", "i", "start", "length", "high"] (sp_Score_new_note K ⟨C_Note, C_Player, C_Score⟩) f_Score_new_note _ := ⟨O_Score_new_note, B_Score_new_note, ⟨a_Score_new_note, i_Score_new_note, k_Score_new_note⟩⟩
  have O_Player_init := ok_Player_init (P := P) (w := w) (base := base) F_Player_init T
  have R_Player_init : Nw P w K mg base "Player" C_Player 1 ["self", "shift", "low", "top"] (sp_Player_init K ⟨C_Note, C_Player, C_Score⟩) f_Player_init _ := ⟨O_Player_init, B_Player_init, ⟨mk_Player, a_Player_init, i_Player_init, kc_Player⟩, PySem.W.mg_of X G aC_Player⟩
  have O_Score_new_player := ok_Score_new_player (P := P) (w := w) (base := base) F_Score_new_player T R_Player_init
  have R_Score_new_player : Mt P w K mg base C_Score "new_player" 3 ["self", "shift", "low", "top"] (sp_Score_new_player K ⟨C_Note, C_Player, C_Score⟩) f_Score_new_player _ := ⟨O_Score_new_player, B_Score_new_player, ⟨a_Score_new_player, i_Score_new_player, k_Score_new_player⟩⟩
  have O_furthest_end := ok_furthest_end (P := P) (w := w) (base := base) F_furthest_end T
  have R_furthest_end : Fn P w K mg base "furthest_end" 1 ["rows", "places", "begin", "most"] (sp_furthest_end K ⟨C_Note, C_Player, C_Score⟩) f_furthest_end _ := ⟨O_furthest_end, B_furthest_end, PySem.W.mg_of X G a_furthest_end, k_furthest_end⟩
  have O_silent_about_ends := ok_silent_about_ends (P := P) (w := w) (base := base) F_silent_about_ends T
  have R_silent_about_ends : Fn P w K mg base "silent_about_ends" 1 ["bars", "notes"] (sp_silent_about_ends K ⟨C_Note, C_Player, C_Score⟩) f_silent_about_ends _ := ⟨O_silent_about_ends, B_silent_about_ends, PySem.W.mg_of X G a_silent_about_ends, k_silent_about_ends⟩
  have O_places_to_end := ok_places_to_end (P := P) (w := w) (base := base) F_places_to_end T R_silent_about_ends
  have R_places_to_end : Fn P w K mg base "places_to_end" 2 ["bars", "notes", "rest"] (sp_places_to_end K ⟨C_Note, C_Player, C_Score⟩) f_places_to_end _ := ⟨O_places_to_end, B_places_to_end, PySem.W.mg_of X G a_places_to_end, k_places_to_end⟩
  have O_first_behind := ok_first_behind (P := P) (w := w) (base := base) F_first_behind T
  have R_first_behind : Fn P w K mg base "first_behind" 1 ["notes", "first", "tick"] (sp_first_behind K ⟨C_Note, C_Player, C_Score⟩) f_first_behind _ := ⟨O_first_behind, B_first_behind, PySem.W.mg_of X G a_first_behind, k_first_behind⟩
  have O_written_note := ok_written_note (P := P) (w := w) (base := base) F_written_note T
  have R_written_note : Fn P w K mg base "written_note" 1 ["note", "shift", "begin", "end"] (sp_written_note K ⟨C_Note, C_Player, C_Score⟩) f_written_note _ := ⟨O_written_note, B_written_note, PySem.W.mg_of X G a_written_note, k_written_note⟩
  have O_written_bar := ok_written_bar (P := P) (w := w) (base := base) F_written_bar T R_written_note
  have R_written_bar : Fn P w K mg base "written_bar" 2 ["player", "first", "begin", "end"] (sp_written_bar K ⟨C_Note, C_Player, C_Score⟩) f_written_bar _ := ⟨O_written_bar, B_written_bar, PySem.W.mg_of X G a_written_bar, k_written_bar⟩
  have O_written_bars := ok_written_bars (P := P) (w := w) (base := base) F_written_bars T R_first_behind R_written_bar
  have R_written_bars : Fn P w K mg base "written_bars" 3 ["bars", "player"] (sp_written_bars K ⟨C_Note, C_Player, C_Score⟩) f_written_bars _ := ⟨O_written_bars, B_written_bars, PySem.W.mg_of X G a_written_bars, k_written_bars⟩
  have O_page_ends := ok_page_ends (P := P) (w := w) (base := base) F_page_ends T R_furthest_end R_places_to_end R_written_bars
  have R_page_ends : Fn P w K mg base "page_ends" 4 ["bars", "player", "most", "rest"] (sp_page_ends K ⟨C_Note, C_Player, C_Score⟩) f_page_ends _ := ⟨O_page_ends, B_page_ends, PySem.W.mg_of X G a_page_ends, k_page_ends⟩
  have O_pages_answer := ok_pages_answer (P := P) (w := w) (base := base) F_pages_answer T R_Score_has_player R_page_ends
  have R_pages_answer : Fn P w K mg base "pages_answer" 5 ["score", "i", "most", "rest"] (sp_pages_answer K ⟨C_Note, C_Player, C_Score⟩) f_pages_answer _ := ⟨O_pages_answer, B_pages_answer, PySem.W.mg_of X G a_pages_answer, k_pages_answer⟩
  have O_is_parallel := ok_is_parallel (P := P) (w := w) (base := base) F_is_parallel T
  have R_is_parallel : Fn P w K mg base "is_parallel" 1 ["high", "other"] (sp_is_parallel K ⟨C_Note, C_Player, C_Score⟩) f_is_parallel _ := ⟨O_is_parallel, B_is_parallel, PySem.W.mg_of X G a_is_parallel, k_is_parallel⟩
  have O_goes_parallel := ok_goes_parallel (P := P) (w := w) (base := base) F_goes_parallel T R_is_parallel
  have R_goes_parallel : Fn P w K mg base "goes_parallel" 2 ["step", "other"] (sp_goes_parallel K ⟨C_Note, C_Player, C_Score⟩) f_goes_parallel _ := ⟨O_goes_parallel, B_goes_parallel, PySem.W.mg_of X G a_goes_parallel, k_goes_parallel⟩
  have O_steps := ok_steps (P := P) (w := w) (base := base) F_steps T
  have R_steps : Fn P w K mg base "steps" 1 ["notes"] (sp_steps K ⟨C_Note, C_Player, C_Score⟩) f_steps _ := ⟨O_steps, B_steps, PySem.W.mg_of X G a_steps, k_steps⟩
  have O_count_parallels := ok_count_parallels (P := P) (w := w) (base := base) F_count_parallels T R_goes_parallel R_steps
  have R_count_parallels : Fn P w K mg base "count_parallels" 3 ["notes", "other_notes"] (sp_count_parallels K ⟨C_Note, C_Player, C_Score⟩) f_count_parallels _ := ⟨O_count_parallels, B_count_parallels, PySem.W.mg_of X G a_count_parallels, k_count_parallels⟩
  have O_parallels_answer := ok_parallels_answer (P := P) (w := w) (base := base) F_parallels_answer T R_Score_has_player R_count_parallels
  have R_parallels_answer : Fn P w K mg base "parallels_answer" 4 ["score", "i", "j"] (sp_parallels_answer K ⟨C_Note, C_Player, C_Score⟩) f_parallels_answer _ := ⟨O_parallels_answer, B_parallels_answer, PySem.W.mg_of X G a_parallels_answer, k_parallels_answer⟩
  have O_written_empty := ok_written_empty (P := P) (w := w) (base := base) F_written_empty T
  have R_written_empty : Fn P w K mg base "written_empty" 1 ["count"] (sp_written_empty K ⟨C_Note, C_Player, C_Score⟩) f_written_empty _ := ⟨O_written_empty, B_written_empty, PySem.W.mg_of X G a_written_empty, k_written_empty⟩
  have O_written_part := ok_written_part (P := P) (w := w) (base := base) F_written_part T R_written_bars R_written_empty
  have R_written_part : Fn P w K mg base "written_part" 4 ["bars", "player"] (sp_written_part K ⟨C_Note, C_Player, C_Score⟩) f_written_part _ := ⟨O_written_part, B_written_part, PySem.W.mg_of X G a_written_part, k_written_part⟩
  have O_part_answer := ok_part_answer (P := P) (w := w) (base := base) F_part_answer T R_Score_has_player R_written_part
  have R_part_answer : Fn P w K mg base "part_answer" 5 ["score", "i"] (sp_part_answer K ⟨C_Note, C_Player, C_Score⟩) f_part_answer _ := ⟨O_part_answer, B_part_answer, PySem.W.mg_of X G a_part_answer, k_part_answer⟩
  have O_bar_begins := ok_bar_begins (P := P) (w := w) (base := base) F_bar_begins T
  have R_bar_begins : Fn P w K mg base "bar_begins" 1 ["bars"] (sp_bar_begins K ⟨C_Note, C_Player, C_Score⟩) f_bar_begins _ := ⟨O_bar_begins, B_bar_begins, PySem.W.mg_of X G a_bar_begins, k_bar_begins⟩
  have O_behind_empty := ok_behind_empty (P := P) (w := w) (base := base) F_behind_empty T
  have R_behind_empty : Fn P w K mg base "behind_empty" 1 ["begins", "at", "count"] (sp_behind_empty K ⟨C_Note, C_Player, C_Score⟩) f_behind_empty _ := ⟨O_behind_empty, B_behind_empty, PySem.W.mg_of X G a_behind_empty, k_behind_empty⟩
  have O_spelled_notes := ok_spelled_notes (P := P) (w := w) (base := base) F_spelled_notes T R_Note_init R_bar_begins R_behind_empty
  have R_spelled_notes : Fn P w K mg base "spelled_notes" 3 ["bars", "shift", "part"] (sp_spelled_notes K ⟨C_Note, C_Player, C_Score⟩) f_spelled_notes _ := ⟨O_spelled_notes, B_spelled_notes, PySem.W.mg_of X G a_spelled_notes, k_spelled_notes⟩
  have O_read_notes := ok_read_notes (P := P) (w := w) (base := base) F_read_notes T R_Player_init R_Player_may_sound R_spelled_notes R_written_part
  have R_read_notes : Fn P w K mg base "read_notes" 5 ["bars", "player", "part"] (sp_read_notes K ⟨C_Note, C_Player, C_Score⟩) f_read_notes _ := ⟨O_read_notes, B_read_notes, PySem.W.mg_of X G a_read_notes, k_read_notes⟩
  have O_read_answer := ok_read_answer (P := P) (w := w) (base := base) F_read_answer T R_Score_has_player R_read_notes
  have R_read_answer : Fn P w K mg base "read_answer" 6 ["score", "i", "part"] (sp_read_answer K ⟨C_Note, C_Player, C_Score⟩) f_read_answer _ := ⟨O_read_answer, B_read_answer, PySem.W.mg_of X G a_read_answer, k_read_answer⟩
  have O_Player_note_at := ok_Player_note_at (P := P) (w := w) (base := base) F_Player_note_at T
  have R_Player_note_at : Mt P w K mg base C_Player "note_at" 1 ["self", "tick"] (sp_Player_note_at K ⟨C_Note, C_Player, C_Score⟩) f_Player_note_at _ := ⟨O_Player_note_at, B_Player_note_at, ⟨a_Player_note_at, i_Player_note_at, k_Player_note_at⟩⟩
  have O_sounds_answer := ok_sounds_answer (P := P) (w := w) (base := base) F_sounds_answer T R_Player_note_at R_Score_last_end
  have R_sounds_answer : Fn P w K mg base "sounds_answer" 2 ["score", "tick"] (sp_sounds_answer K ⟨C_Note, C_Player, C_Score⟩) f_sounds_answer _ := ⟨O_sounds_answer, B_sounds_answer, PySem.W.mg_of X G a_sounds_answer, k_sounds_answer⟩
  have O_answer := ok_answer (P := P) (w := w) (base := base) F_answer T R_Score_begin R_Score_drop_note R_Score_move_all R_Score_new_bar R_Score_new_note R_Score_new_player R_pages_answer R_parallels_answer R_part_answer R_read_answer R_sounds_answer
  have R_answer : Fn P w K mg base "answer" 7 ["score", "call", "numbers"] (sp_answer K ⟨C_Note, C_Player, C_Score⟩) f_answer _ := ⟨O_answer, B_answer, PySem.W.mg_of X G a_answer, k_answer⟩
  have O_behind_call := ok_behind_call (P := P) (w := w) (base := base) F_behind_call T
  have R_behind_call : Fn P w K mg base "behind_call" 1 ["calls", "k"] (sp_behind_call K ⟨C_Note, C_Player, C_Score⟩) f_behind_call _ := ⟨O_behind_call, B_behind_call, PySem.W.mg_of X G a_behind_call, k_behind_call⟩
  have O_answers := ok_answers (P := P) (w := w) (base := base) F_answers T R_Score_init R_answer R_behind_call
  exact O_answers
end Ps
set_option Elab.async false
set_option linter.all false
set_option maxRecDepth 100000
open PySem PySem.W PyProof.Rows
namespace PySem.W.Fast
theorem tw5358847231859473114 : True := ⟨⟩
theorem tw6104450561462816021 : True := ⟨⟩
theorem tw10586987644291106068 : True := ⟨⟩
theorem tw17553576058763222416 : True := ⟨⟩
theorem tw10142832774732833415 : True := ⟨⟩
theorem tw16757191661197351196 : True := ⟨⟩
theorem tw15879164514752787327 : True := ⟨⟩
theorem tw4735196893158671178 : True := ⟨⟩
theorem tw5789261501483135543 : True := ⟨⟩
theorem tw2460325423900607192 : True := ⟨⟩
theorem tw15024369180754430417 : True := ⟨⟩
theorem tw12850835462388245685 : True := ⟨⟩
theorem tw3631529789230704976 : True := ⟨⟩
theorem tw13457189561555806680 : True := ⟨⟩
theorem tw8158980122435227530 : True := ⟨⟩
theorem tw17018230629748657400 : True := ⟨⟩
theorem tw11030612453955399028 : True := ⟨⟩
theorem tw6303552930677603691 : True := ⟨⟩
theorem tw15754135077684914461 : True := ⟨⟩
theorem tw6454354834044756420 : True := ⟨⟩
theorem tw6053612930488929820 : True := ⟨⟩
theorem tw15040035990802016079 : True := ⟨⟩
theorem tw2851212263250165077 : True := ⟨⟩
theorem tw893236229666157082 : True := ⟨⟩
theorem tw268582226991248604 : True := ⟨⟩
theorem tw11370316772363764136 : True := ⟨⟩
theorem tw16864070408775325702 : True := ⟨⟩
theorem tw13737177261954949473 : True := ⟨⟩
theorem tw15657999542607999458 : True := ⟨⟩
theorem tw7306754397304677008 : True := ⟨⟩
theorem tw2572504053859836832 : True := ⟨⟩
theorem tw13959969254038994672 : True := ⟨⟩
theorem tw14062782849136334961 : True := ⟨⟩
theorem tw2322535768653413138 : True := ⟨⟩
theorem tw7472143881711259012 : True := ⟨⟩
theorem tw15411141108515488314 : True := ⟨⟩
theorem tw17231447083947907980 : True := ⟨⟩
theorem tw3750117944774935601 : True := ⟨⟩
theorem tw16874481981527096366 : True := ⟨⟩
theorem tw17905870274642326198 : True := ⟨⟩
theorem tw28433688849912674 : True := ⟨⟩
theorem tw2770412964277331577 : True := ⟨⟩
theorem tw7292590644232877388 : True := ⟨⟩
theorem tw16904081055711828384 : True := ⟨⟩
theorem tw10138489919729845571 : True := ⟨⟩
theorem tw16558717359757558576 : True := ⟨⟩
theorem tw14216713150363541393 : True := ⟨⟩
theorem tw11366197137366373026 : True := ⟨⟩
theorem tw10278300516263341111 : True := ⟨⟩
theorem tw3534414333576094453 : True := ⟨⟩
theorem tw9516266170948354928 : True := ⟨⟩
theorem tw8935392320122427534 : True := ⟨⟩
theorem tw16396323333802362995 : True := ⟨⟩
theorem tw10904581353769495390 : True := ⟨⟩
theorem tw14683988835293675175 : True := ⟨⟩
theorem tw11794041812944939559 : True := ⟨⟩
theorem tw9043283178296005685 : True := ⟨⟩
theorem tw6771394816880147041 : True := ⟨⟩
theorem tw4667840654323345706 : True := ⟨⟩
theorem tw18017028768684380385 : True := ⟨⟩
theorem tw17698317044121706589 : True := ⟨⟩
theorem tw11002386329050961206 : True := ⟨⟩
theorem tw12301146228288303774 : True := ⟨⟩
theorem tw18219058417561405592 : True := ⟨⟩
theorem tw9509124548788887120 : True := ⟨⟩
theorem tw3725545075026520016 : True := ⟨⟩
theorem tw1290526070847270640 : True := ⟨⟩
theorem tw15716652343835769249 : True := ⟨⟩
theorem tw6494042727335631256 : True := ⟨⟩
theorem tw18260012547662551954 : True := ⟨⟩
theorem tw15110935375779142850 : True := ⟨⟩
theorem tw5129975306559407000 : True := ⟨⟩
theorem tw2989348350192967059 : True := ⟨⟩
theorem tw18312196783047670210 : True := ⟨⟩
theorem tw12459550927878534907 : True := ⟨⟩
theorem tw1006515584251410961 : True := ⟨⟩
theorem tw5151817514893725779 : True := ⟨⟩
theorem tw16523410972604486823 : True := ⟨⟩
theorem tw13097379728774054996 : True := ⟨⟩
theorem tw16387825002844297655 : True := ⟨⟩
theorem tw6050585353397652245 : True := ⟨⟩
theorem tw18028251280965887205 : True := ⟨⟩
theorem tw4197456390474682123 : True := ⟨⟩
theorem tw12791870953323759262 : True := ⟨⟩
theorem tw11353206488991862081 : True := ⟨⟩
theorem tw9433444094487943214 : True := ⟨⟩
theorem tw15262442879273800189 : True := ⟨⟩
theorem tw13574470352855367103 : True := ⟨⟩
theorem tw12276313603138430995 : True := ⟨⟩
theorem tw3468715838960112933 : True := ⟨⟩
theorem tw3560781141017497808 : True := ⟨⟩
theorem tw15383712193536526166 : True := ⟨⟩
theorem tw9318763311495255786 : True := ⟨⟩
theorem tw3686322901571540951 : True := ⟨⟩
theorem tw17721780371283413161 : True := ⟨⟩
theorem tw2099851648754017152 : True := ⟨⟩
theorem tw14411362085133111387 : True := ⟨⟩
theorem tw2548941017773738703 : True := ⟨⟩
theorem tw4478980069187435280 : True := ⟨⟩
theorem tw7087466737804565233 : True := ⟨⟩
theorem tw9606314736555733861 : True := ⟨⟩
theorem tw13544682995309358134 : True := ⟨⟩
theorem tw14727041550941637369 : True := ⟨⟩
theorem tw16337841588003219175 : True := ⟨⟩
theorem tw6797509750353962740 : True := ⟨⟩
theorem tw17834797666932585281 : True := ⟨⟩
theorem tw9117152607135366946 : True := ⟨⟩
theorem tw14792835028953640824 : True := ⟨⟩
theorem tw11229293159675311549 : True := ⟨⟩
theorem tw17118839435057635517 : True := ⟨⟩
theorem tw12519449935614886044 : True := ⟨⟩
theorem tw6364391775070337251 : True := ⟨⟩
theorem tw15429350880796766249 : True := ⟨⟩
theorem tw14816999123242170536 : True := ⟨⟩
theorem tw16826459498364266097 : True := ⟨⟩
theorem tw7029066754283555094 : True := ⟨⟩
theorem tw1500221753801559274 : True := ⟨⟩
theorem tw13894179641430060615 : True := ⟨⟩
theorem tw2741508406437615970 : True := ⟨⟩
theorem tw5580468650516681508 : True := ⟨⟩
theorem tw16048914432857182646 : True := ⟨⟩
theorem tw14787013278982768038 : True := ⟨⟩
theorem tw1248820772360551651 : True := ⟨⟩
theorem tw7713215463494748031 : True := ⟨⟩
theorem tw4951057910672986867 : True := ⟨⟩
theorem tw4982310793148650622 : True := ⟨⟩
theorem tw424339748026066061 : True := ⟨⟩
theorem tw14453723064629039674 : True := ⟨⟩
theorem tw17009016822643827905 : True := ⟨⟩
theorem tw17588739628772436546 : True := ⟨⟩
theorem tw3719575215976316589 : True := ⟨⟩
theorem tw12983561480790793120 : True := ⟨⟩
theorem tw5112745097424265746 : True := ⟨⟩
theorem tw3944844164653422648 : True := ⟨⟩
theorem tw1763381242661996930 : True := ⟨⟩
theorem tw986159660876396714 : True := ⟨⟩
theorem tw17176468248182066355 : True := ⟨⟩
theorem tw4751042204186736649 : True := ⟨⟩
theorem tw17098802267386629848 : True := ⟨⟩
theorem tw1395832848504981526 : True := ⟨⟩
theorem tw11063727927766307090 : True := ⟨⟩
theorem tw16508910224129037227 : True := ⟨⟩
theorem tw7421316109544556839 : True := ⟨⟩
theorem tw9174742102803138372 : True := ⟨⟩
theorem tw4187453257856079212 : True := ⟨⟩
theorem tw6542482903685205461 : True := ⟨⟩
theorem tw6745508041585462847 : True := ⟨⟩
theorem tw18025369804825994736 : True := ⟨⟩
theorem tw1553397146494415110 : True := ⟨⟩
theorem tw18397652850550485055 : True := ⟨⟩
theorem tw201527211474422247 : True := ⟨⟩
theorem tw3837106167207324179 : True := ⟨⟩
theorem tw2570491987371135940 : True := ⟨⟩
theorem tw18257609852077713261 : True := ⟨⟩
theorem tw15150142508261817559 : True := ⟨⟩
theorem tw6451570132309749015 : True := ⟨⟩
theorem tw13081586461737823293 : True := ⟨⟩
theorem tw13186444758723092728 : True := ⟨⟩
theorem tw5462587383403281633 : True := ⟨⟩
theorem tw3312497194622057694 : True := ⟨⟩
theorem tw9404115331381610900 : True := ⟨⟩
theorem tw1439289943501052244 : True := ⟨⟩
theorem tw11072436044424487577 : True := ⟨⟩
theorem tw3660591290588719193 : True := ⟨⟩
theorem tw14603062990332387367 : True := ⟨⟩
theorem tw12180521506975214528 : True := ⟨⟩
theorem tw4004686020906863033 : True := ⟨⟩
theorem tw11212377405810527559 : True := ⟨⟩
theorem tw8796186571636765870 : True := ⟨⟩
theorem tw4992937869011144254 : True := ⟨⟩
theorem tw576619704018194831 : True := ⟨⟩
theorem tw2908174892170275279 : True := ⟨⟩
theorem tw3161649883307141612 : True := ⟨⟩
theorem tw11705442552798192542 : True := ⟨⟩
theorem tw8995177844276398925 : True := ⟨⟩
theorem tw4413368905293862556 : True := ⟨⟩
theorem tw10845667821611907779 : True := ⟨⟩
theorem tw17715444647398553045 : True := ⟨⟩
theorem tw3886869053011598050 : True := ⟨⟩
theorem tw8874934297112775968 : True := ⟨⟩
theorem tw18250643026701094504 : True := ⟨⟩
theorem tw8106081023381688110 : True := ⟨⟩
theorem tw7214569455547995091 : True := ⟨⟩
theorem tw3796766712605161852 : True := ⟨⟩
theorem tw1661835800938264897 : True := ⟨⟩
theorem tw4961679674707548645 : True := ⟨⟩
theorem tw7385391298726452557 : True := ⟨⟩
theorem tw13864347848998847436 : True := ⟨⟩
theorem tw11524193274875680963 : True := ⟨⟩
theorem tw9564187015664280183 : True := ⟨⟩
theorem tw2209878161246472515 : True := ⟨⟩
theorem tw8292965999066612229 : True := ⟨⟩
theorem tw4297920817445329447 : True := ⟨⟩
theorem tw7650689701582207492 : True := ⟨⟩
theorem tw8758853396733759424 : True := ⟨⟩
theorem tw15016735194925428216 : True := ⟨⟩
theorem tw12498200858084963341 : True := ⟨⟩
theorem tw13749488077417197092 : True := ⟨⟩
theorem tw7217794770695043850 : True := ⟨⟩
theorem tw9666186525150798345 : True := ⟨⟩
theorem tw16252969531216799041 : True := ⟨⟩
theorem tw8785065605642602599 : True := ⟨⟩
theorem tw6168011634025345959 : True := ⟨⟩
theorem tw9870740779289601409 : True := ⟨⟩
theorem tw13297998554234177481 : True := ⟨⟩
theorem tw10919215101292891405 : True := ⟨⟩
theorem tw9549645694221920539 : True := ⟨⟩
theorem tw13232588050095703931 : True := ⟨⟩
theorem tw8176535830625716051 : True := ⟨⟩
theorem tw13323581834520349004 : True := ⟨⟩
theorem tw1149308766155740316 : True := ⟨⟩
theorem tw6938475433612572281 : True := ⟨⟩
theorem tw7908820562005750832 : True := ⟨⟩
theorem tw13584135986347108696 : True := ⟨⟩
theorem tw516009301978827675 : True := ⟨⟩
theorem tw5088762907311816449 : True := ⟨⟩
theorem tw12498778411440765116 : True := ⟨⟩
theorem tw10301704555397852525 : True := ⟨⟩
theorem tw14053817852025905147 : True := ⟨⟩
theorem tw3383729579487681747 : True := ⟨⟩
theorem tw605842642058578028 : True := ⟨⟩
theorem tw15540821732186153927 : True := ⟨⟩
theorem tw8311895297121732806 : True := ⟨⟩
theorem tw6187834860599478239 : True := ⟨⟩
theorem tw18109615207335402007 : True := ⟨⟩
theorem tw1175330021144697965 : True := ⟨⟩
theorem tw2952298349733504825 : True := ⟨⟩
theorem tw9100538188363320197 : True := ⟨⟩
theorem tw10377970918155121307 : True := ⟨⟩
theorem tw3193884836581617040 : True := ⟨⟩
theorem tw2677711315389989037 : True := ⟨⟩
theorem tw14060638090714226426 : True := ⟨⟩
theorem tw4445502687257244921 : True := ⟨⟩
theorem tw16890641756199328107 : True := ⟨⟩
theorem tw12591569875032198066 : True := ⟨⟩
theorem tw10539026902352478569 : True := ⟨⟩
theorem tw17938379455157317568 : True := ⟨⟩
theorem tw1186800164937752464 : True := ⟨⟩
theorem tw18228619669553445487 : True := ⟨⟩
theorem tw8420921087158709453 : True := ⟨⟩
theorem tw8800729002853096799 : True := ⟨⟩
theorem tw10688330356444969858 : True := ⟨⟩
theorem tw5477557262667749448 : True := ⟨⟩
theorem tw17476482823598310852 : True := ⟨⟩
theorem tw12613534097940747137 : True := ⟨⟩
theorem tw3402221430108457772 : True := ⟨⟩
theorem tw17319819863582354944 : True := ⟨⟩
theorem tw14350850509697078899 : True := ⟨⟩
theorem tw14452085307159320622 : True := ⟨⟩
theorem tw11426472752027109020 : True := ⟨⟩
theorem tw12980340368352824753 : True := ⟨⟩
theorem tw16309959053849297040 : True := ⟨⟩
theorem tw15157329585808202712 : True := ⟨⟩
theorem tw13182004918282035341 : True := ⟨⟩
theorem tw3336730680252365149 : True := ⟨⟩
theorem tw10974687406582940986 : True := ⟨⟩
theorem tw1541578610398512840 : True := ⟨⟩
theorem tw13226384988875524184 : True := ⟨⟩
theorem tw17091688495015395945 : True := ⟨⟩
theorem tw16517776524462332770 : True := ⟨⟩
theorem tw6968420716896958714 : True := ⟨⟩
theorem tw16395009617550118120 : True := ⟨⟩
theorem tw8659053078375739362 : True := ⟨⟩
theorem tw4126761324265989706 : True := ⟨⟩
theorem tw3303530992341512551 : True := ⟨⟩
theorem tw13239727511842776345 : True := ⟨⟩
theorem tw11125501451704120963 : True := ⟨⟩
theorem tw14772894652218860420 : True := ⟨⟩
theorem tw2779127971804816836 : True := ⟨⟩
theorem tw9230255593961988274 : True := ⟨⟩
theorem tw12367634880985551343 : True := ⟨⟩
theorem tw17882501456534648051 : True := ⟨⟩
theorem tw16714501187872380712 : True := ⟨⟩
theorem tw10444018197682155145 : True := ⟨⟩
theorem tw6670082084808204942 : True := ⟨⟩
theorem tw14077217555977195191 : True := ⟨⟩
theorem tw1663011626249035925 : True := ⟨⟩
theorem tw9675224878835989269 : True := ⟨⟩
theorem tw11760537909493403230 : True := ⟨⟩
theorem tw3586033298173424200 : True := ⟨⟩
theorem tw8966313325350682406 : True := ⟨⟩
theorem tw13998652909442992004 : True := ⟨⟩
theorem tw9304116804526216780 : True := ⟨⟩
theorem tw3949137066091520500 : True := ⟨⟩
theorem tw13539493223182586044 : True := ⟨⟩
theorem tw536183452161989266 : True := ⟨⟩
theorem tw16790119898790646429 : True := ⟨⟩
theorem tw9006149922577269121 : True := ⟨⟩
theorem tw699070892198502378 : True := ⟨⟩
theorem tw3797595162308412772 : True := ⟨⟩
theorem tw15377700992665344844 : True := ⟨⟩
theorem tw14877784511634324058 : True := ⟨⟩
theorem tw17315546678157615641 : True := ⟨⟩
theorem tw15773275849779757498 : True := ⟨⟩
theorem tw9989039908331899998 : True := ⟨⟩
theorem tw433345553802816513 : True := ⟨⟩
theorem tw2725151455918357222 : True := ⟨⟩
theorem tw9591319548856389729 : True := ⟨⟩
theorem tw6732026559299426125 : True := ⟨⟩
theorem tw15759966673067928163 : True := ⟨⟩
theorem tw17816840024645501906 : True := ⟨⟩
theorem tw18420296258969836702 : True := ⟨⟩
theorem tw8470782471464388681 : True := ⟨⟩
theorem tw11458500774464876479 : True := ⟨⟩
theorem tw2588486469386800928 : True := ⟨⟩
theorem tw5039003990116308825 : True := ⟨⟩
theorem tw1899372728478026712 : True := ⟨⟩
theorem tw11973744208803523505 : True := ⟨⟩
theorem tw11980184779795861436 : True := ⟨⟩
theorem tw13837761022035871774 : True := ⟨⟩
theorem tw16242417732402435455 : True := ⟨⟩
theorem tw11447754574016259835 : True := ⟨⟩
theorem tw1082562652117583010 : True := ⟨⟩
theorem tw4772848946906862440 : True := ⟨⟩
theorem tw5944067354658226246 : True := ⟨⟩
theorem tw3644557951843146839 : True := ⟨⟩
theorem tw4219925105036059050 : True := ⟨⟩
theorem tw10102505563685612478 : True := ⟨⟩
theorem tw17075017436832191687 : True := ⟨⟩
theorem tw2379157503157357369 : True := ⟨⟩
theorem tw17005678071436477005 : True := ⟨⟩
theorem tw14979772679810764248 : True := ⟨⟩
theorem tw11912169121532708222 : True := ⟨⟩
theorem tw16178803342734568656 : True := ⟨⟩
theorem tw5192998798267979528 : True := ⟨⟩
theorem tw15924540380244102491 : True := ⟨⟩
theorem tw16404819933896868281 : True := ⟨⟩
theorem tw11483547511864654564 : True := ⟨⟩
end PySem.W.Fast
local macro_rules | `(tactic| o_headS ($f $k $a $e)) => `(tactic| o_headS (PySem.W.kmHook $k $a $e [162]))
set_option maxRecDepth 100000 in
set_option maxHeartbeats 0 in
theorem PySem.Challenge.cw_partscores_s01_answers_holds : PySem.Challenge.rw_partscores_s01_answers.Holds := by
  w_on; k_headS; (case hw => exact ⟨[.list [.int 0]], by decide +kernel, by decide +kernel⟩)
  k_fillS
  refine L2.walk_specT (r := PySem.Challenge.rw_partscores_s01_answers)
    (k := 8)
    (ps := ["calls"]) (sp := fun K => Ps.sp_answers K ⟨0, 0, 0⟩) (cT := 166) (PT := 162) (by decide +kernel) rfl rfl ⟨rfl, by decide, by decide⟩ (fun w h Y => PySem.W.km_in_of Y) (fun w h Y => PySem.W.km_tabs_of Y 162 (by simp)) ?K1 ?K2 ?F ?S
  case K1 =>
    intro w
    first | kernel_rfl | (show _ = _; k_is)
  case K2 =>
    intro w
    first | kernel_rfl | (show _ = _; k_is)
  case F =>
    intro w mg fa h Y KX G hmg
    refine' Ps.all_mk KX G hmg ?aC_Note ?pg_Note ?hd_Note ?po_Note ?sa_Note ?mk_Note ?kc_Note ?nf_Note_start ?nf_Note_end ?nf_Note_high ?aC_Player ?pg_Player ?hd_Player ?po_Player ?sa_Player ?mk_Player ?kc_Player ?nf_Player_shift ?nf_Player_low ?nf_Player_top ?nf_Player_notes ?aC_Score ?pg_Score ?hd_Score ?po_Score ?sa_Score ?mk_Score ?kc_Score ?nf_Score_bars ?nf_Score_players ?nn_EMPTY ?nn_REST ?nn_GOES_ON ?nn_LIFT ?nn_OCTAVE ?nn_NOT_THERE ?nn_AT_ONCE ?nn_NOT_ALLOWED ?nn_NO_ROOM ?nn_NO_PAGES ?nn_OUT_OF_RANGE ?nn_NOT_A_PART ?nn_MOST_BARS ?nn_LONGEST_BAR ?nn_MOST_PLAYERS ?nn_WIDEST_SHIFT ?nn_HIGHEST ?nn_MOST_NOTES ?nn_BEGIN ?nn_BAR ?nn_PLAYER ?nn_NOTE ?nn_DROP ?nn_PART ?nn_READ ?nn_PAGES ?nn_SOUNDS ?nn_MOVE ?kn_PARALLEL ?kl_PARALLEL ?kn_SIZES ?kl_SIZES ?bn_abs ?bn_all ?bn_enumerate ?bn_len ?bn_max ?bn_min ?bn_range ?bn_sorted ?bn_sum ?a_Score_init ?i_Score_init ?l_Score_init ?c_Score_init ?k_Score_init ?a_Score_begin ?i_Score_begin ?l_Score_begin ?c_Score_begin ?k_Score_begin ?a_Player_leave_out ?i_Player_leave_out ?l_Player_leave_out ?c_Player_leave_out ?k_Player_leave_out ?a_Score_has_player ?i_Score_has_player ?l_Score_has_player ?c_Score_has_player ?k_Score_has_player ?a_Score_drop_note ?i_Score_drop_note ?l_Score_drop_note ?c_Score_drop_note ?k_Score_drop_note ?a_Player_may_sound ?i_Player_may_sound ?l_Player_may_sound ?c_Player_may_sound ?k_Player_may_sound ?a_Player_may_move ?i_Player_may_move ?l_Player_may_move ?c_Player_may_move ?k_Player_may_move ?a_Player_move_notes ?i_Player_move_notes ?l_Player_move_notes ?c_Player_move_notes ?k_Player_move_notes ?a_Score_move_all ?i_Score_move_all ?l_Score_move_all ?c_Score_move_all ?k_Score_move_all ?a_Score_new_bar ?i_Score_new_bar ?l_Score_new_bar ?c_Score_new_bar ?k_Score_new_bar ?a_Note_init ?i_Note_init ?l_Note_init ?c_Note_init ?k_Note_init ?a_Player_is_silent ?i_Player_is_silent ?l_Player_is_silent ?c_Player_is_silent ?k_Player_is_silent ?a_Player_take ?i_Player_take ?l_Player_take ?c_Player_take ?k_Player_take ?a_Score_last_end ?i_Score_last_end ?l_Score_last_end ?c_Score_last_end ?k_Score_last_end ?a_Score_new_note ?i_Score_new_note ?l_Score_new_note ?c_Score_new_note ?k_Score_new_note ?a_Player_init ?i_Player_init ?l_Player_init ?c_Player_init ?k_Player_init ?a_Score_new_player ?i_Score_new_player ?l_Score_new_player ?c_Score_new_player ?k_Score_new_player ?a_furthest_end ?l_furthest_end ?c_furthest_end ?k_furthest_end ?a_silent_about_ends ?l_silent_about_ends ?c_silent_about_ends ?k_silent_about_ends ?a_places_to_end ?l_places_to_end ?c_places_to_end ?k_places_to_end ?a_first_behind ?l_first_behind ?c_first_behind ?k_first_behind ?a_written_note ?l_written_note ?c_written_note ?k_written_note ?a_written_bar ?l_written_bar ?c_written_bar ?k_written_bar ?a_written_bars ?l_written_bars ?c_written_bars ?k_written_bars ?a_page_ends ?l_page_ends ?c_page_ends ?k_page_ends ?a_pages_answer ?l_pages_answer ?c_pages_answer ?k_pages_answer ?a_is_parallel ?l_is_parallel ?c_is_parallel ?k_is_parallel ?a_goes_parallel ?l_goes_parallel ?c_goes_parallel ?k_goes_parallel ?a_steps ?l_steps ?c_steps ?k_steps ?a_count_parallels ?l_count_parallels ?c_count_parallels ?k_count_parallels ?a_parallels_answer ?l_parallels_answer ?c_parallels_answer ?k_parallels_answer ?a_written_empty ?l_written_empty ?c_written_empty ?k_written_empty ?a_written_part ?l_written_part ?c_written_part ?k_written_part ?a_part_answer ?l_part_answer ?c_part_answer ?k_part_answer ?a_bar_begins ?l_bar_begins ?c_bar_begins ?k_bar_begins ?a_behind_empty ?l_behind_empty ?c_behind_empty ?k_behind_empty ?a_spelled_notes ?l_spelled_notes ?c_spelled_notes ?k_spelled_notes ?a_read_notes ?l_read_notes ?c_read_notes ?k_read_notes ?a_read_answer ?l_read_answer ?c_read_answer ?k_read_answer ?a_Player_note_at ?i_Player_note_at ?l_Player_note_at ?c_Player_note_at ?k_Player_note_at ?a_sounds_answer ?l_sounds_answer ?c_sounds_answer ?k_sounds_answer ?a_answer ?l_answer ?c_answer ?k_answer ?a_behind_call ?l_behind_call ?c_behind_call ?k_behind_call ?a_answers ?l_answers ?c_answers ?k_answers
    (case aC_Note => k_is); (case pg_Note => k_is); (case hd_Note => k_is); (case po_Note => k_is); (case sa_Note => k_is); (case mk_Note => k_is)
    (case kc_Note => k_is); (case nf_Note_start => k_is); (case nf_Note_end => k_is); (case nf_Note_high => k_is); (case aC_Player => k_is); (case pg_Player => k_is)
    (case hd_Player => k_is); (case po_Player => k_is); (case sa_Player => k_is); (case mk_Player => k_is); (case kc_Player => k_is); (case nf_Player_shift => k_is)
    (case nf_Player_low => k_is); (case nf_Player_top => k_is); (case nf_Player_notes => k_is); (case aC_Score => k_is); (case pg_Score => k_is); (case hd_Score => k_is)
    (case po_Score => k_is); (case sa_Score => k_is); (case mk_Score => k_is); (case kc_Score => k_is); (case nf_Score_bars => k_is); (case nf_Score_players => k_is)
    (case nn_EMPTY => k_is); (case nn_REST => k_is); (case nn_GOES_ON => k_is); (case nn_LIFT => k_is); (case nn_OCTAVE => k_is); (case nn_NOT_THERE => k_is)
    (case nn_AT_ONCE => k_is); (case nn_NOT_ALLOWED => k_is); (case nn_NO_ROOM => k_is); (case nn_NO_PAGES => k_is); (case nn_OUT_OF_RANGE => k_is); (case nn_NOT_A_PART => k_is)
    (case nn_MOST_BARS => k_is); (case nn_LONGEST_BAR => k_is); (case nn_MOST_PLAYERS => k_is); (case nn_WIDEST_SHIFT => k_is); (case nn_HIGHEST => k_is); (case nn_MOST_NOTES => k_is)
    (case nn_BEGIN => k_is); (case nn_BAR => k_is); (case nn_PLAYER => k_is); (case nn_NOTE => k_is); (case nn_DROP => k_is); (case nn_PART => k_is)
    (case nn_READ => k_is); (case nn_PAGES => k_is); (case nn_SOUNDS => k_is); (case nn_MOVE => k_is); (case kn_PARALLEL => k_is); (case kl_PARALLEL => k_is)
    (case kn_SIZES => k_is); (case kl_SIZES => k_is); (case bn_abs => k_is); (case bn_all => k_is); (case bn_enumerate => k_is); (case bn_len => k_is)
    (case bn_max => k_is); (case bn_min => k_is); (case bn_range => k_is); (case bn_sorted => k_is); (case bn_sum => k_is); (case a_Score_init => k_is)
    (case i_Score_init => k_is); (case l_Score_init => k_is); (case c_Score_init => k_is); (case k_Score_init => k_is); (case a_Score_begin => k_is); (case i_Score_begin => k_is)
    (case l_Score_begin => k_is); (case c_Score_begin => k_is); (case k_Score_begin => k_is); (case a_Player_leave_out => k_is); (case i_Player_leave_out => k_is); (case l_Player_leave_out => k_is)
    (case c_Player_leave_out => k_is); (case k_Player_leave_out => k_is); (case a_Score_has_player => k_is); (case i_Score_has_player => k_is); (case l_Score_has_player => k_is); (case c_Score_has_player => k_is)
    (case k_Score_has_player => k_is); (case a_Score_drop_note => k_is); (case i_Score_drop_note => k_is); (case l_Score_drop_note => k_is); (case c_Score_drop_note => k_is); (case k_Score_drop_note => k_is)
    (case a_Player_may_sound => k_is); (case i_Player_may_sound => k_is); (case l_Player_may_sound => k_is); (case c_Player_may_sound => k_is); (case k_Player_may_sound => k_is); (case a_Player_may_move => k_is)
    (case i_Player_may_move => k_is); (case l_Player_may_move => k_is); (case c_Player_may_move => k_is); (case k_Player_may_move => k_is); (case a_Player_move_notes => k_is); (case i_Player_move_notes => k_is)
    (case l_Player_move_notes => k_is); (case c_Player_move_notes => k_is); (case k_Player_move_notes => k_is); (case a_Score_move_all => k_is); (case i_Score_move_all => k_is); (case l_Score_move_all => k_is)
    (case c_Score_move_all => k_is); (case k_Score_move_all => k_is); (case a_Score_new_bar => k_is); (case i_Score_new_bar => k_is); (case l_Score_new_bar => k_is); (case c_Score_new_bar => k_is)
    (case k_Score_new_bar => k_is); (case a_Note_init => k_is); (case i_Note_init => k_is); (case l_Note_init => k_is); (case c_Note_init => k_is); (case k_Note_init => k_is)
    (case a_Player_is_silent => k_is); (case i_Player_is_silent => k_is); (case l_Player_is_silent => k_is); (case c_Player_is_silent => k_is); (case k_Player_is_silent => k_is); (case a_Player_take => k_is)
    (case i_Player_take => k_is); (case l_Player_take => k_is); (case c_Player_take => k_is); (case k_Player_take => k_is); (case a_Score_last_end => k_is); (case i_Score_last_end => k_is)
    (case l_Score_last_end => k_is); (case c_Score_last_end => k_is); (case k_Score_last_end => k_is); (case a_Score_new_note => k_is); (case i_Score_new_note => k_is); (case l_Score_new_note => k_is)
    (case c_Score_new_note => k_is); (case k_Score_new_note => k_is); (case a_Player_init => k_is); (case i_Player_init => k_is); (case l_Player_init => k_is); (case c_Player_init => k_is)
    (case k_Player_init => k_is); (case a_Score_new_player => k_is); (case i_Score_new_player => k_is); (case l_Score_new_player => k_is); (case c_Score_new_player => k_is); (case k_Score_new_player => k_is)
    (case a_furthest_end => k_is); (case l_furthest_end => k_is); (case c_furthest_end => k_is); (case k_furthest_end => k_is); (case a_silent_about_ends => k_is); (case l_silent_about_ends => k_is)
    (case c_silent_about_ends => k_is); (case k_silent_about_ends => k_is); (case a_places_to_end => k_is); (case l_places_to_end => k_is); (case c_places_to_end => k_is); (case k_places_to_end => k_is)
    (case a_first_behind => k_is); (case l_first_behind => k_is); (case c_first_behind => k_is); (case k_first_behind => k_is); (case a_written_note => k_is); (case l_written_note => k_is)
    (case c_written_note => k_is); (case k_written_note => k_is); (case a_written_bar => k_is); (case l_written_bar => k_is); (case c_written_bar => k_is); (case k_written_bar => k_is)
    (case a_written_bars => k_is); (case l_written_bars => k_is); (case c_written_bars => k_is); (case k_written_bars => k_is); (case a_page_ends => k_is); (case l_page_ends => k_is)
    (case c_page_ends => k_is); (case k_page_ends => k_is); (case a_pages_answer => k_is); (case l_pages_answer => k_is); (case c_pages_answer => k_is); (case k_pages_answer => k_is)
    (case a_is_parallel => k_is); (case l_is_parallel => k_is); (case c_is_parallel => k_is); (case k_is_parallel => k_is); (case a_goes_parallel => k_is); (case l_goes_parallel => k_is)
    (case c_goes_parallel => k_is); (case k_goes_parallel => k_is); (case a_steps => k_is); (case l_steps => k_is); (case c_steps => k_is); (case k_steps => k_is)
    (case a_count_parallels => k_is); (case l_count_parallels => k_is); (case c_count_parallels => k_is); (case k_count_parallels => k_is); (case a_parallels_answer => k_is); (case l_parallels_answer => k_is)
    (case c_parallels_answer => k_is); (case k_parallels_answer => k_is); (case a_written_empty => k_is); (case l_written_empty => k_is); (case c_written_empty => k_is); (case k_written_empty => k_is)
    (case a_written_part => k_is); (case l_written_part => k_is); (case c_written_part => k_is); (case k_written_part => k_is); (case a_part_answer => k_is); (case l_part_answer => k_is)
    (case c_part_answer => k_is); (case k_part_answer => k_is); (case a_bar_begins => k_is); (case l_bar_begins => k_is); (case c_bar_begins => k_is); (case k_bar_begins => k_is)
    (case a_behind_empty => k_is); (case l_behind_empty => k_is); (case c_behind_empty => k_is); (case k_behind_empty => k_is); (case a_spelled_notes => k_is); (case l_spelled_notes => k_is)
    (case c_spelled_notes => k_is); (case k_spelled_notes => k_is); (case a_read_notes => k_is); (case l_read_notes => k_is); (case c_read_notes => k_is); (case k_read_notes => k_is)
    (case a_read_answer => k_is); (case l_read_answer => k_is); (case c_read_answer => k_is); (case k_read_answer => k_is); (case a_Player_note_at => k_is); (case i_Player_note_at => k_is)
    (case l_Player_note_at => k_is); (case c_Player_note_at => k_is); (case k_Player_note_at => k_is); (case a_sounds_answer => k_is); (case l_sounds_answer => k_is); (case c_sounds_answer => k_is)
    (case k_sounds_answer => k_is); (case a_answer => k_is); (case l_answer => k_is); (case c_answer => k_is); (case k_answer => k_is); (case a_behind_call => k_is)
    (case l_behind_call => k_is); (case c_behind_call => k_is); (case k_behind_call => k_is); (case a_answers => k_is); (case l_answers => k_is); (case c_answers => k_is)
    (case k_answers => k_is)
  case S =>
    intro K H xs a hO hP hwi hask hx
    cases hx with
    | cons h1 h2 =>
      cases h2
      cases h1 with
      | lst hs ha =>
        rename_i a0 xs0
        have e := L2.ints_dw a.1 _ ha
        subst e
        have q : ((Codec.inLen 0 30000 a.1 && a.1.all (Codec.inInt (-2147483648) 4294967295)) && true) = true := hwi
        rw [Bool.and_eq_true, Bool.and_eq_true] at q
        refine ⟨a0, a.1, rfl, ?_, .inl L2.upd_same, (Codec.inNat_iff.mp q.1.1).2, hask, fun H' p hp => .lst (L2.SqL.of hp) (L2.dw_ints _)⟩
        rcases hs with (hs | ⟨o, hs⟩) | hs
        · rcases hO a0 with z | ⟨o, u, z⟩
          · rw [z] at hs
            cases hs
          · rw [z] at hs
            cases hs
        · exact .inl ⟨o, by rw [L2.upd_ne (L2.ne_of_none hs hP)]; exact hs⟩
        · exact .inr fun H' => .inr hs
