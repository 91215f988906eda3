import PyProof.Rows.All
import Wide.All
import OpenK.AllK
import Wide.FinOn
import Lean
import PyProof.EqAt
import PyProof.EqKinds
import PyProof.TupleCall
import PyProof.StrLawsTight
import PyProof.FitsReplace
import KE.KSortTup
import PyProof.TupleKey
import PyProof.SetKind
import PyProof.IsRules
import PyProof.Rows.SetFrom
import PyProof.CollectWalk
import PyProof.DictUpdate
import PyProof.AutoListH
import PyProof.SeqI3
import PyProof.EnumStmt
import PyProof.EnumMake
import PyProof.Rows.CallKwBuiltin
import PyProof.NeKinds
import PyProof.StationsW
import PyProof.ExcClass3
import PyProof.PassesOwn
import OpenK.KOwn
import PyProof.RulesAs
import PyProof.RulesDel
import KE.KIsAll
import PyProof.ExcArgsOwn
import PyProof.StrLawsIn
import PySem.Challenge.RW_levelbench_k26_no_plan_texts
set_option Elab.async false
set_option linter.all false
set_option maxRecDepth 100000
namespace L2
open PySem PySem.Spec PyProof.Rows
abbrev Key := Sum Int Str
def keyIs : Key → Value → Bool
  | .inl k, v => Value.isInt k v
  | .inr x, v => Value.isStrOf x v
def keyH (w : World) : Key → Int
  | .inl k => hashInt k
  | .inr x => hashStr w x
theorem keyIs_shape : ∀ {k : Key} {v : Value}, keyIs k v = true → (∃ i t, k = Sum.inl i ∧ v = Value.int i t) ∨ (∃ x t, k = Sum.inr x ∧ v = Value.str x t)
  | .inl i, v, h => by
    obtain ⟨t, e⟩ := Value.isInt_shape (k := i) (v := v) h
    exact .inl ⟨i, t, rfl, e⟩
  | .inr x, v, h => by
    obtain ⟨t, e⟩ := Value.isStrOf_shape (x := x) (v := v) h
    exact .inr ⟨x, t, rfl, e⟩
theorem key_ll (a b : Int) : decide ((Sum.inl a : Key) = Sum.inl b) = (a == b) := by
  by_cases e : a = b
  · subst e; simp
  · have h : ¬ (Sum.inl a : Key) = Sum.inl b := fun q => e (Sum.inl.inj q)
    rw [decide_eq_false h]
    exact (beq_eq_false_iff_ne.mpr e).symm
theorem key_rr (a b : Str) : decide ((Sum.inr a : Key) = Sum.inr b) = decide (a = b) := by
  by_cases e : a = b
  · subst e; simp
  · have h : ¬ (Sum.inr a : Key) = Sum.inr b := fun q => e (Sum.inr.inj q)
    rw [decide_eq_false h, decide_eq_false e]
theorem key_lr (a : Int) (b : Str) : decide ((Sum.inl a : Key) = Sum.inr b) = false := decide_eq_false (fun q => nomatch q)
theorem key_rl (a : Str) (b : Int) : decide ((Sum.inr a : Key) = Sum.inl b) = false := decide_eq_false (fun q => nomatch q)
def mixKind (prog : Program) (w : World) : PySem.KeyKind prog w Key where
  is := keyIs
  hash := keyH w
  inj := fun v a b ha hb => by
    rcases keyIs_shape ha with ⟨i, t, rfl, rfl⟩ | ⟨x, t, rfl, rfl⟩
    · rcases keyIs_shape hb with ⟨j, u, rfl, e⟩ | ⟨y, u, rfl, e⟩
      · injection e with e1 _; rw [e1]
      · exact nomatch e
    · rcases keyIs_shape hb with ⟨j, u, rfl, e⟩ | ⟨y, u, rfl, e⟩
      · exact nomatch e
      · injection e with e1 _; rw [e1]
  byValue := fun k v h => by
    rcases keyIs_shape h with ⟨i, t, rfl, rfl⟩ | ⟨x, t, rfl, rfl⟩ <;> rfl
  pyHash := fun hv h => by
    rcases keyIs_shape hv with ⟨i, t, rfl, rfl⟩ | ⟨x, t, rfl, rfl⟩
    · exact wpAny_pyHash_int h
    · exact wpAny_pyHash_str h
  eqBool := fun hu hv h => by
    rcases keyIs_shape hu with ⟨i, t, rfl, rfl⟩ | ⟨x, t, rfl, rfl⟩
    · rcases keyIs_shape hv with ⟨j, u, rfl, rfl⟩ | ⟨y, u, rfl, rfl⟩
      · rw [key_ll] at h; exact wpAny_eqBool_int h
      · rw [key_lr] at h; exact SeqAt.EqAt.int_str i t y u _ _ _ _ h
    · rcases keyIs_shape hv with ⟨j, u, rfl, rfl⟩ | ⟨y, u, rfl, rfl⟩
      · rw [key_rl] at h; exact SeqAt.EqAt.str_int x t j u _ _ _ _ h
      · rw [key_rr] at h; exact wpAny_eqBool_str h
  «strs» := fun k x t v h => by
    rcases keyIs_shape h with ⟨i, u, rfl, e⟩ | ⟨y, u, rfl, e⟩
    · exact nomatch e
    · injection e with e1 _
      subst e1
      cases v <;> rfl
end L2
namespace L2
open PySem PySem.Spec PyProof.Rows
inductive V where
  | non | bl (b : Bool) | int (i : Int) | str (x : Str) | byt (b : Array UInt8) | flt (b : UInt64) | ref (a : Addr) | ty (n : String)
  deriving DecidableEq
def RelV : V → Value → Prop
  | .non, u => u = Value.none
  | .bl b, u => u = Value.bool b
  | .int i, u => ∃ t, u = Value.int i t
  | .str x, u => ∃ t, u = Value.str x t
  | .byt b, u => ∃ t, u = Value.bytes b t
  | .flt b, u => ∃ t, u = Value.float b t
  | .ref a, u => u = Value.ref a
  | .ty n, u => u = Value.type n
abbrev Vals : List V → List Value → Prop := Paired RelV
theorem Vals.length {xs : List V} {us : List Value} (r : Vals xs us) : xs.length = us.length := Paired.length r
theorem Vals.get : ∀ {xs : List V} {us : List Value} {i : Nat} {x : V}, Vals xs us → xs[i]? = some x → ∃ u, us[i]? = some u ∧ RelV x u
  | _, _, _, _, .nil, e => by simp at e
  | _, _, 0, _, .cons r _, e => by simp at e; subst e; exact ⟨_, rfl, r⟩
  | _, _, i + 1, x, .cons _ t, e => by
    obtain ⟨u, h1, h2⟩ := Vals.get (i := i) (x := x) t (by simpa using e)
    exact ⟨u, by simpa using h1, h2⟩
theorem Vals.set {x : V} {u : Value} (r : RelV x u) : ∀ {xs : List V} {us : List Value} (i : Nat), Vals xs us → Vals (xs.set i x) (us.set i u)
  | _, _, _, .nil => .nil
  | _, _, 0, .cons _ t => .cons r t
  | _, _, i + 1, .cons q t => .cons q (Vals.set r i t)
theorem Vals.append : ∀ {xs ys : List V} {us ws : List Value}, Vals xs us → Vals ys ws → Vals (xs ++ ys) (us ++ ws)
  | _, _, _, _, .nil, s => s
  | _, _, _, _, .cons r t, s => .cons r (Vals.append t s)
theorem Vals.take : ∀ {xs : List V} {us : List Value} (n : Nat), Vals xs us → Vals (xs.take n) (us.take n)
  | _, _, 0, _ => .nil
  | _, _, _ + 1, .nil => .nil
  | _, _, n + 1, .cons r t => .cons r (Vals.take n t)
theorem Vals.drop : ∀ {xs : List V} {us : List Value} (n : Nat), Vals xs us → Vals (xs.drop n) (us.drop n)
  | _, _, 0, r => r
  | _, _, _ + 1, .nil => .nil
  | _, _, n + 1, .cons _ t => Vals.drop n t
def RelO : Option V → Option Value → Prop
  | some v, some u => RelV v u
  | none, none => True
  | _, _ => False
def KV {κ : Type} : List (κ × V) → List (κ × Value) → Prop := Paired fun (p : κ × V) (q : κ × Value) => p.1 = q.1 ∧ RelV p.2 q.2
def kV : Key → V
  | .inl i => .int i
  | .inr x => .str x
inductive HO where
  | lst (xs : List V)
  | tup (xs : List V)
  | dK (kvs : List (Key × V)) | dT (kvs : List (List Key × V))
  | set (S : Int → Bool) (n : Nat)
  | ins (C dx : Addr) (fs : List (Str × V))
  | own (x : Addr)
  | xd (fs : List (Str × V))
  | met (f x : Addr)
  | rng (lo hi : Int)
  | frz (o : Obj) (u : HO)
  | tbl (ps : Array Value)
  | ext (φ : Heap → Prop)
abbrev Hp := Addr → Option HO
def upd (H : Hp) (a : Addr) (o : HO) : Hp := fun b => if b = a then some o else H b
theorem upd_same {H : Hp} {a : Addr} {o : HO} : upd H a o a = some o := by unfold upd; rw [if_pos rfl]
theorem upd_ne {H : Hp} {a b : Addr} {o : HO} (h : b ≠ a) : upd H a o b = H b := by unfold upd; rw [if_neg h]
theorem upd_upd {H : Hp} {a : Addr} {o u : HO} : upd (upd H a o) a u = upd H a u := by
  funext b; unfold upd; split <;> rfl
theorem ne_of_none {H : Hp} {a b : Addr} {o : HO} (h : H a = some o) (h' : H b = none) : a ≠ b := by
  intro e; subst e; rw [h] at h'; cases h'
section
variable (P : Program) (w : World)
def ObjOk (H : Hp) (h : Heap) (a : Addr) : HO → Prop
  | .lst xs => xs.length ≤ sizeLine ∧ ∃ (its : List Value) (n : Nat), Vals xs its ∧ h.get? a = some { cls := .type "list", data := .seq its.toArray n }
  | .tup xs => xs.length ≤ sizeLine ∧ ∃ its : List Value, Vals xs its ∧ IsTup h a its.toArray
  | .dK kvs => kvs.length ≤ sizeLine ∧ (a == sysModules) = false ∧ ∃ vs, KV kvs vs ∧ h.DictOf (mixKind P w) a vs
  | .dT kvs => kvs.length ≤ sizeLine ∧ (a == sysModules) = false ∧ ∃ xs : List (List Key × Addr × Value),
      Paired (fun (p : List Key × V) (q : List Key × Addr × Value) => p.1 = q.1 ∧ H q.2.1 = some (.tup (p.1.map kV)) ∧ RelV p.2 q.2.2) kvs xs ∧
      ∃ o es ep, h.get? a = some o ∧ o.ExactDict ∧ o.data = .dict es ep ∧ es.toList = xs.map (entryOfKey (tupleKind (mixKind P w))) ∧ (xs.map (·.1)).Nodup
  | .set S n => h.SetOf (intKind P w) a S n
  | .ins C dx fs => H dx = some (.own a) ∧ fs.length ≤ 1000 ∧ dx ≠ a ∧ h.get? a = some (PySem.W.instObj C dx) ∧
      ∃ mA, h.Ns1 dx mA ∧ (∀ f, RelO (fs.lookup f) (mA f)) ∧ PySem.Within mA (fs.map (·.1))
  | .own _ => ∃ o, h.get? a = some o
  | .xd fs => ∃ mA, h.Ns1 a mA ∧ ∀ f, RelO (fs.lookup f) (mA f)
  | .rng lo hi => ∃ t u v, h.get? a = some { cls := .type "range", data := .fields #[.int lo t, .int hi u, .int 1 v] }
  | .frz o u => h.get? a = some o ∧ ObjOk H h a u
  | .tbl ps => h.get? a = some { cls := .none, data := .fields ps }
  | .met f x => h.get? a = some (PySem.W.methodObj (.ref f) (.ref x))
  | .ext φ => φ h ∧ (∃ o, h.get? a = some o) ∧ ∀ h1 h2 : Heap, φ h1 → (∀ o, h1.get? a = some o → h2.get? a = some o) → φ h2
def HOk (H : Hp) (h : Heap) : Prop := ∀ a o, H a = some o → ObjOk P w H h a o
end
section
variable {P : Program} {w : World} {H H' : Hp} {h h' : Heap} {a : Addr} {o : HO}
theorem ObjOk.lt (x : ObjOk P w H h a o) : a < h.objs.size := by
  cases o with
  | lst xs => obtain ⟨_, _, _, _, e⟩ := x; exact Heap.lt_size e
  | tup xs => obtain ⟨_, _, _, p⟩ := x; exact p.lt
  | dK kvs => obtain ⟨_, _, _, _, o, _, _, e, _⟩ := x; exact Heap.lt_size e
  | dT kvs => obtain ⟨_, _, _, _, o, _, _, e, _⟩ := x; exact Heap.lt_size e
  | set S n => obtain ⟨o, _, _, _, e, _⟩ := x; exact Heap.lt_size e
  | ins C dx fs => obtain ⟨_, _, _, e, _⟩ := x; exact Heap.lt_size e
  | own y => obtain ⟨_, e⟩ := x; exact Heap.lt_size e
  | xd fs => obtain ⟨_, ⟨_, _, _, e, _⟩, _⟩ := x; exact Heap.lt_size e
  | rng lo hi => obtain ⟨_, _, _, e⟩ := x; exact Heap.lt_size e
  | frz ob u => obtain ⟨e, _⟩ := x; exact Heap.lt_size e
  | tbl ps => exact Heap.lt_size (show h.get? a = some _ from x)
  | met f y => exact Heap.lt_size (show h.get? a = some _ from x)
  | ext φ => obtain ⟨_, ⟨_, e⟩, _⟩ := x; exact Heap.lt_size e
theorem Paired.mapP {α β : Type} {F G : α → β → Prop} : ∀ {l₁ : List α} {l₂ : List β}, Paired F l₁ l₂ → (∀ a b, F a b → G a b) → Paired G l₁ l₂
  | _, _, .nil, _ => .nil
  | _, _, .cons r t, f => .cons (f _ _ r) (Paired.mapP t f)
theorem ObjOk.stay (x : ObjOk P w H h a o) (k : ∀ b u, (b = a ∨ H b = some (.own a)) → h.get? b = some u → h'.get? b = some u)
    (ho : ∀ b, H b = some (.own a) → H' b = some (.own a)) (ht : ∀ b xs, H b = some (.tup xs) → H' b = some (.tup xs)) : ObjOk P w H' h' a o := by
  induction o with
  | lst xs => obtain ⟨z, its, n, r, e⟩ := x; exact ⟨z, its, n, r, k _ _ (.inl rfl) e⟩
  | tup xs => obtain ⟨z, its, r, ob, e, c⟩ := x; exact ⟨z, its, r, ob, k _ _ (.inl rfl) e, c⟩
  | dK kvs => obtain ⟨z, y, vs, r, ob, es, ep, e, c⟩ := x; exact ⟨z, y, vs, r, ob, es, ep, k _ _ (.inl rfl) e, c⟩
  | dT kvs =>
    obtain ⟨z, y, xs, r, ob, es, ep, e, c⟩ := x
    exact ⟨z, y, xs, Paired.mapP r fun p q z => ⟨z.1, ht _ _ z.2.1, z.2.2⟩, ob, es, ep, k _ _ (.inl rfl) e, c⟩
  | set S n => obtain ⟨ob, es, ep, t, e, c⟩ := x; exact ⟨ob, es, ep, t, k _ _ (.inl rfl) e, c⟩
  | ins C dx fs =>
    obtain ⟨d, z, ne, e, mA, ⟨od, es, ep, e2, c⟩, r⟩ := x
    exact ⟨ho _ d, z, ne, k _ _ (.inl rfl) e, mA, ⟨od, es, ep, k _ _ (.inr d) e2, c⟩, r⟩
  | own y => obtain ⟨ob, e⟩ := x; exact ⟨ob, k _ _ (.inl rfl) e⟩
  | xd fs => obtain ⟨mA, ⟨od, es, ep, e, c⟩, r⟩ := x; exact ⟨mA, ⟨od, es, ep, k _ _ (.inl rfl) e, c⟩, r⟩
  | rng lo hi => obtain ⟨t, u, v, e⟩ := x; exact ⟨t, u, v, k _ _ (.inl rfl) e⟩
  | frz ob u ih => obtain ⟨e, q⟩ := x; exact ⟨k _ _ (.inl rfl) e, ih q⟩
  | tbl ps =>
    have e : h.get? a = some { cls := .none, data := .fields ps } := x
    show h'.get? a = some { cls := .none, data := .fields ps }
    exact k a _ (.inl rfl) e
  | met f y =>
    have e : h.get? a = some (PySem.W.methodObj (.ref f) (.ref y)) := x
    show h'.get? a = some (PySem.W.methodObj (.ref f) (.ref y))
    exact k a _ (.inl rfl) e
  | ext φ => obtain ⟨p, ⟨o, e⟩, st⟩ := x; exact ⟨st _ _ p fun o q => k _ _ (.inl rfl) q, ⟨o, k _ _ (.inl rfl) e⟩, st⟩
theorem HOk.lt (x : HOk P w H h) (e : H a = some o) : a < h.objs.size := (x a o e).lt
theorem HOk.fresh (x : HOk P w H h) (e : h.objs.size ≤ a) : H a = none := by
  cases q : H a with
  | none => rfl
  | some u => exact absurd (Nat.lt_of_lt_of_le (x.lt q) e) (Nat.lt_irrefl _)
theorem HOk.kept (x : HOk P w H h) (k : ∀ b u, h.get? b = some u → h'.get? b = some u) : HOk P w H h' := fun a o e =>
  (x a o e).stay (fun b u _ q => k b u q) (fun _ q => q) fun _ _ q => q
theorem HOk.laid (x : HOk P w H h) (k : ∀ b u, h.get? b = some u → h'.get? b = some u) (hp : h.objs.size ≤ a) (new : ObjOk P w (upd H a o) h' a o) : HOk P w (upd H a o) h' := fun b u e => by
  have hn := x.fresh hp
  by_cases hb : b = a
  · subst hb; rw [upd_same] at e; cases e; exact new
  · rw [upd_ne hb] at e
    exact (x b u e).stay (fun c v _ q => k c v q) (fun c q => by rw [upd_ne (ne_of_none q hn)]; exact q) fun c xs q => by rw [upd_ne (ne_of_none q hn)]; exact q
end
def Rd (H : Hp) (a : Addr) (u : HO) : Prop := H a = some u ∨ ∃ o, H a = some (.frz o u)
theorem Rd.ok {P : Program} {w : World} {H : Hp} {h : Heap} {a : Addr} {u : HO} (r : Rd H a u) (x : HOk P w H h) : ObjOk P w H h a u := by
  rcases r with r | ⟨o, r⟩
  · exact x a u r
  · obtain ⟨_, q⟩ := x a _ r
    exact q
def Mut : Option HO → Prop
  | some (.lst _) => True
  | some (.dK _) => True
  | some (.dT _) => True
  | some (.set _ _) => True
  | some (.ins _ _ _) => True
  | some (.ext _) => True
  | _ => False
section
variable {P : Program} {w : World} {H : Hp} {h h' : Heap} {x e : Addr} {o' : HO}
theorem HOk.write (ok : HOk P w H h) (mu : Mut (H x)) (he : e = x ∨ H e = some (.own x)) (k : ∀ b u, b ≠ e → h.get? b = some u → h'.get? b = some u) (heo : ∃ u, h'.get? e = some u)
    (new : ObjOk P w (upd H x o') h' x o') : HOk P w (upd H x o') h' := fun b u q => by
  have nown : ∀ c y, H c = some (.own y) → c ≠ x := fun c y r z => by subst z; rw [r] at mu; exact mu
  have ntup : ∀ c xs, H c = some (.tup xs) → c ≠ x := fun c xs r z => by subst z; rw [r] at mu; exact mu
  by_cases hb : b = x
  · subst hb; rw [upd_same] at q; cases q; exact new
  · rw [upd_ne hb] at q
    by_cases hbe : b = e
    · have q' : H b = some (.own x) := by
        rcases he with z | z
        · exact absurd (hbe.trans z) hb
        · rw [hbe]; exact z
      rw [q] at q'; cases q'
      obtain ⟨v, hv⟩ := heo
      exact ⟨v, by rw [hbe]; exact hv⟩
    · refine (ok b u q).stay (fun c v hc r => k c v ?_ r) (fun c r => by rw [upd_ne (nown c b r)]; exact r) fun c xs r => by rw [upd_ne (ntup c xs r)]; exact r
      rcases hc with rfl | hc
      · exact hbe
      · rintro rfl
        rcases he with z | z
        · exact nown c b hc z
        · rw [hc] at z; cases z; exact hb rfl
end
structure Un (fs ex : List Addr) (H H' : Hp) (h h' : Heap) : Prop where
  keep : ∀ b o, h.get? b = some o → H b = none → b ∉ fs → b ∉ ex → h'.get? b = some o
  slot : ∀ b o, h.get? b = some o → H b = none → b ∈ fs → b ∉ ex → ∃ sl, h'.get? b = some { o with slots := sl }
  free : ∀ b o, h.get? b = some o → H b = none → b ∉ ex → H' b = none
  there : ∀ b o, h.get? b = some o → b ∉ ex → ∃ o', h'.get? b = some o'
  tups : ∀ b xs, H b = some (.tup xs) → H' b = some (.tup xs)
  frzs : ∀ b o u, H b = some (.frz o u) → H' b = some (.frz o u)
  tbls : ∀ b ps, H b = some (.tbl ps) → ∃ more, H' b = some (.tbl (ps ++ more))
section
variable {fs fs' ex ex' : List Addr} {H H1 H2 : Hp} {h h1 h2 h' : Heap} {a x e : Addr} {o : HO}
theorem Un.any (u : Un fs ex H H1 h h1) {b : Addr} {ob : Obj} (q : h.get? b = some ob) (n : H b = none) (hx : b ∉ ex) : ∃ sl, h1.get? b = some { ob with slots := sl } := by
  by_cases hb : b ∈ fs
  · exact u.slot b ob q n hb hx
  · exact ⟨ob.slots, u.keep b ob q n hb hx⟩
theorem Un.kept (k : ∀ b u, h.get? b = some u → h'.get? b = some u) : Un fs ex H H h h' :=
  ⟨fun b ob q _ _ _ => k b ob q, fun b ob q _ _ _ => ⟨ob.slots, k b ob q⟩, fun _ _ _ n _ => n, fun b ob q _ => ⟨ob, k b ob q⟩, fun _ _ q => q, fun _ _ _ q => q, fun _ ps q => ⟨#[], by rw [q]; simp⟩⟩
theorem Un.refl : Un fs ex H H h h := Un.kept fun _ _ q => q
theorem Un.laid (k : ∀ b u, h.get? b = some u → h'.get? b = some u) (hp : h.objs.size ≤ a) (hn : H a = none) : Un fs ex H (upd H a o) h h' where
  keep := fun b u q _ _ _ => k b u q
  slot := fun b u q _ _ _ => ⟨u.slots, k b u q⟩
  free := fun b u q n _ => by rw [upd_ne (Nat.ne_of_lt (Nat.lt_of_lt_of_le (Heap.lt_size q) hp))]; exact n
  there := fun b u q _ => ⟨u, k b u q⟩
  tups := fun b xs q => by rw [upd_ne (ne_of_none q hn)]; exact q
  frzs := fun b u xs q => by rw [upd_ne (ne_of_none q hn)]; exact q
  tbls := fun b ps q => ⟨#[], by rw [upd_ne (ne_of_none q hn), q]; simp⟩
theorem Un.write (mu : Mut (H x)) (he : e = x ∨ H e = some (.own x)) (k : ∀ b u, b ≠ e → h.get? b = some u → h'.get? b = some u) (heo : ∃ u, h'.get? e = some u) : Un fs ex H (upd H x o) h h' := by
  have hx : ∀ b, H b = none → b ≠ x := fun b n z => by subst z; rw [n] at mu; exact mu
  have hb : ∀ b, H b = none → b ≠ e := fun b n z => by
    subst z
    rcases he with r | r
    · exact hx b n r
    · rw [n] at r; cases r
  have hm : ∀ b u, H b = some u → ¬ Mut (some u) → b ≠ x := fun b u q nm z => by subst z; rw [q] at mu; exact nm mu
  refine ⟨fun b u q n _ _ => k b u (hb b n) q, fun b u q n _ _ => ⟨u.slots, k b u (hb b n) q⟩, fun b u q n _ => by rw [upd_ne (hx b n)]; exact n, fun b u q _ => ?_,
    fun b xs q => by rw [upd_ne (hm b _ q fun z => z)]; exact q, fun b u xs q => by rw [upd_ne (hm b _ q fun z => z)]; exact q, fun b ps q => ⟨#[], by rw [upd_ne (hm b _ q fun z => z), q]; simp⟩⟩
  by_cases hbe : b = e
  · subst hbe; exact heo
  · exact ⟨u, k b u hbe q⟩
end
def trk (h : Heap) (H : Hp) : List Addr := (List.range h.objs.size).filter fun a => (H a).isSome
def hidT (h : Heap) (H : Hp) : Heap := PySem.W.hideAll h (trk h H)
theorem hidT_size (h : Heap) (H : Hp) : (hidT h H).objs.size = h.objs.size := PySem.W.hideAll_size _ _
theorem hidT_get {h : Heap} {H : Hp} {b : Addr} {o : Obj} (e : h.get? b = some o) (n : H b = none) : (hidT h H).get? b = some o :=
  PySem.W.hideAll_get _ e fun hm => by
    have q : (H b).isSome = true := (List.mem_filter.mp hm).2
    rw [n] at q; simp at q
theorem of_hidT {h : Heap} {H : Hp} {b : Addr} {o : Obj} (e : (hidT h H).get? b = some o) : h.get? b = some o ∧ H b = none := by
  have e' : h.get? b = some o := PySem.W.of_hideAll (trk h H) e
  refine ⟨e', ?_⟩
  cases q : H b with
  | none => rfl
  | some x =>
    have hm : b ∈ trk h H := List.mem_filter.mpr ⟨List.mem_range.mpr (Heap.lt_size e'), by simp [q]⟩
    have z : (hidT h H).get? b = none := PySem.W.hideAll_none (trk h H) hm
    rw [z] at e; cases e
end L2
namespace L2
open PySem PySem.Spec PyProof.Rows
structure Mod (K : PySem.W.Frag) (mg : Str → Option Value) (base : Heap) : Prop where
  kin : K.In base
  glob : base.Ns mainGlobals mg
  blt : ∃ mb, base.Ns builtinsNs mb ∧ ∀ x : Str, x ≠ "__name__" → mb x = bootBuiltins x
  nolimit : base.NoLimit
structure Cx where
  prog : Program
  w : World
  K : PySem.W.Frag
  mg : Str → Option Value
  base : Heap
  A : Around
  N : List Str
  s₀ : Shared
  H₀ : Hp
  env : Env
  outer : List Env
  stack : List Env
  ex : List Addr
  fn : Str → Bool
  calm : Bool
  pn : List (Addr × Obj)
  xe : Value → Shared → Prop
def frs (l : List Env) : List Addr := l.filterMap (·.frame)
abbrev Cx.fs (X : Cx) : List Addr := frs X.outer
def Vis (sc : Scope) (x : Str) : Prop := sc.names.lookup x = some .local ∨ sc.names.lookup x = some .cell ∨ sc.names.lookup x = some .free
def Loc (sc : Scope) (x : Str) : Prop := sc.names.lookup x = some .local ∨ sc.names.lookup x = some .cell
def Look (env : Env) (h : Heap) (m : Str → Option Value) (x : Str) (u : Value) : Prop :=
  (env.kindOf x = some .local ∧ m x = some u) ∨ ((env.kindOf x = some .cell ∨ env.kindOf x = some .free) ∧ ∃ c, env.cells.lookup x = some c ∧ h.IsCell c (some u))
structure Cx.Ok (X : Cx) : Prop where
  mod : Mod X.K X.mg X.base
  kind : X.env.scope.kind = .function
  glob : X.env.globals = mainGlobals
  blt : X.env.builtins = builtinsNs
  above : X.s₀.heap.objs.size ≤ X.env.locals
  inj : ∀ x y c, X.env.cells.lookup x = some c → X.env.cells.lookup y = some c → x = y
  has : ∀ x, (X.env.kindOf x = some .cell ∨ X.env.kindOf x = some .free) → ∃ c, X.env.cells.lookup x = some c
  cab : ∀ x c, X.fn x = true → X.env.cells.lookup x = some c → X.s₀.heap.objs.size ≤ c
  hd : X.calm = true → X.A.handled = none
  frames : X.A.frames = some X.stack
  stk : X.stack = X.outer ∨ (X.stack = X.env :: X.outer ∧ X.env.frame = some X.env.locals)
  exf : ∀ b ∈ X.ex, b ≠ X.env.locals ∧ ∀ x c, X.env.cells.lookup x = some c → c ≠ b
  bs : ∀ b o, X.base.get? b = some o → X.s₀.heap.get? b = some o ∧ X.H₀ b = none
  bsz : X.base.objs.size ≤ X.s₀.heap.objs.size
  noex : ∀ b o, X.base.get? b = some o → b ∉ X.ex
  exfs : ∀ b ∈ X.ex, b ∉ X.fs
  funs : X.s₀.heap.FunFrames X.base X.outer
  frf : ∀ b ∈ X.fs, X.H₀ b = none
structure Inv (X : Cx) (pins : List (Addr × Obj)) (σ : List (Option V)) (H : Hp) (s : Shared) : Prop where
  ok : X.Ok
  os : s.os = X.s₀.os
  bare : AllBare s.gens
  base : Un X.fs X.ex X.H₀ H X.s₀.heap s.heap
  loc : ∃ m, s.heap.Ns X.env.locals m ∧ ∀ (i : Nat) (x : Str) (v : V), X.N[i]? = some x → σ[i]? = some (some v) → Vis X.env.scope x → ∃ u, RelV v u ∧ Look X.env s.heap m x u
  cell : ∀ x c, X.env.cells.lookup x = some c → ∃ v, s.heap.IsCell c v
  free : H X.env.locals = none
  freeC : ∀ x c, X.env.cells.lookup x = some c → H c = none
  pin : ∀ p ∈ X.pn ++ pins, s.heap.get? p.1 = some p.2 ∧ H p.1 = none ∧ p.1 ≠ X.env.locals ∧ p.1 ∉ X.fs ∧ ∀ v, p.2.data ≠ .cell v
  hok : HOk X.prog X.w H s.heap
  len : σ.length = X.N.length
section
variable {X : Cx} {pins : List (Addr × Obj)} {σ : List (Option V)} {H H' : Hp} {s : Shared} {h' : Heap}
theorem Cx.Ok.nofr (ok : X.Ok) {b : Addr} {o : Obj} (e : X.base.get? b = some o) : b ∉ X.fs := fun hb => by
  have := (ok.funs.mem hb).1
  rw [e] at this; cases this
theorem Inv.bs (I : Inv X pins σ H s) : ∀ b o, X.base.get? b = some o → s.heap.get? b = some o ∧ H b = none := fun b o e =>
  ⟨I.base.keep b o (I.ok.bs b o e).1 (I.ok.bs b o e).2 (I.ok.nofr e) (I.ok.noex b o e), I.base.free b o (I.ok.bs b o e).1 (I.ok.bs b o e).2 (I.ok.noex b o e)⟩
theorem Inv.bk (I : Inv X pins σ H s) : ∀ b o, X.base.get? b = some o → s.heap.get? b = some o := fun b o e => (I.bs b o e).1
theorem Inv.mod (I : Inv X pins σ H s) : Mod X.K X.mg X.base := I.ok.mod
theorem Inv.kIn (I : Inv X pins σ H s) : X.K.In s.heap := I.ok.mod.kin.keeps I.bk
theorem Inv.lt (I : Inv X pins σ H s) : X.env.locals < s.heap.objs.size := let ⟨_, hn, _⟩ := I.loc; hn.lt
theorem Inv.sz (I : Inv X pins σ H s) : X.s₀.heap.objs.size ≤ s.heap.objs.size := Nat.le_trans I.ok.above (Nat.le_of_lt I.lt)
theorem Inv.nofs (I : Inv X pins σ H s) {a : Addr} (h : s.heap.objs.size ≤ a) : a ∉ X.fs := fun hb => by
  obtain ⟨_, o, ho, _⟩ := I.ok.funs.mem hb
  exact absurd (Nat.lt_of_lt_of_le (Heap.lt_size ho) (Nat.le_trans I.sz h)) (Nat.lt_irrefl _)
theorem Inv.cne (I : Inv X pins σ H s) : ∀ x c, X.env.cells.lookup x = some c → c ≠ X.env.locals := fun x c e z => by
  obtain ⟨v, o, ho, hd⟩ := I.cell x c e
  obtain ⟨m, ⟨o', es, ep, ho', hd', _⟩, _⟩ := I.loc
  rw [z, ho'] at ho; cases ho; rw [hd'] at hd; cases hd
theorem Inv.funs (I : Inv X pins σ H s) : s.heap.FunFrames X.base X.outer := by
  have all : ∀ (l : List Env), (∀ b ∈ frs l, b ∈ X.fs) → X.s₀.heap.FunFrames X.base l → s.heap.FunFrames X.base l := by
    intro l
    induction l with
    | nil => intro _ _; trivial
    | cons env r ih =>
      intro hs hl
      obtain ⟨hk, ⟨L, o, hf, hn, ho, hd⟩, hr⟩ := hl
      have hL : L ∈ X.fs := hs L (by unfold frs; rw [List.filterMap_cons, hf]; exact List.mem_cons_self)
      obtain ⟨sl, e⟩ := I.base.slot L o ho (I.ok.frf L hL) hL fun z => I.ok.exfs L z hL
      exact ⟨hk, ⟨L, _, hf, hn, e, hd⟩, ih (fun b hb => hs b (by unfold frs; rw [List.filterMap_cons, hf]; exact List.mem_cons_of_mem _ hb)) hr⟩
  exact all X.outer (fun _ hb => hb) I.ok.funs
theorem Inv.stack (I : Inv X pins σ H s) : s.heap.FunFrames X.base X.stack := by
  rcases I.ok.stk with e | ⟨e, hf⟩
  · rw [e]; exact I.funs
  · rw [e]
    obtain ⟨m, hn, _⟩ := I.loc
    refine .cons (by rw [I.ok.kind]; decide) hf hn ?_ I.funs
    exact Heap.get?_none_of_le (Nat.le_trans I.ok.bsz I.ok.above)
theorem Inv.stkSub (I : Inv X pins σ H s) : ∀ b ∈ frs X.stack, b ∈ X.env.locals :: X.fs := fun b hb => by
  rcases I.ok.stk with e | ⟨e, hf⟩
  · rw [e] at hb; exact List.mem_cons_of_mem _ hb
  · rw [e] at hb
    unfold frs at hb
    rw [List.filterMap_cons, hf] at hb
    exact hb
theorem Inv.stkFree (I : Inv X pins σ H s) : ∀ b ∈ frs X.stack, H b = none := fun b hb => by
  rcases List.mem_cons.mp (I.stkSub b hb) with e | hb
  · rw [e]; exact I.free
  · obtain ⟨_, o, ho, _⟩ := I.ok.funs.mem hb
    exact I.base.free b o ho (I.ok.frf b hb) fun z => I.ok.exfs b z hb
theorem Inv.step {g' : Array GenState} {t' : Nat} {d' : Drawn} {ch : List Addr} (I : Inv X pins σ H s)
    (hch : ∀ b ∈ ch, (b ∈ X.ex ∨ X.s₀.heap.objs.size ≤ b) ∧ b ≠ X.env.locals ∧ (∀ x c, X.env.cells.lookup x = some c → c ≠ b) ∧ ∀ p ∈ X.pn ++ pins, p.1 ≠ b)
    (keep : ∀ b o, b ≠ X.env.locals → b ∉ X.fs → b ∉ ch → s.heap.get? b = some o → H b = none → h'.get? b = some o)
    (slot : ∀ b o, b ≠ X.env.locals → b ∈ X.fs → b ∉ ch → s.heap.get? b = some o → H b = none → ∃ sl, h'.get? b = some { o with slots := sl }) (free : ∀ b o, b ∉ ch → s.heap.get? b = some o → H b = none → H' b = none)
    (there : ∀ b o, b ∉ ch → s.heap.get? b = some o → ∃ o', h'.get? b = some o')
    (tups : ∀ b xs, H b = some (.tup xs) → H' b = some (.tup xs)) (frzs : ∀ b o u, H b = some (.frz o u) → H' b = some (.frz o u)) (tbls : ∀ b ps, H b = some (.tbl ps) → ∃ more, H' b = some (.tbl (ps ++ more)))
    (ns : ∀ m, s.heap.Ns X.env.locals m → h'.Ns X.env.locals m) (hok : HOk X.prog X.w H' h') (hg : AllBare g') :
    Inv X pins σ H' { s with heap := h', gens := g', drawn := d', toks := t' } := by
  have neL : ∀ b o, X.s₀.heap.get? b = some o → b ≠ X.env.locals := fun b o e => Nat.ne_of_lt (Nat.lt_of_lt_of_le (Heap.lt_size e) I.ok.above)
  have neC : ∀ b o, X.s₀.heap.get? b = some o → b ∉ X.ex → b ∉ ch := fun b o e hx hb => by
    rcases (hch b hb).1 with z | z
    · exact hx z
    · exact absurd (Nat.lt_of_lt_of_le (Heap.lt_size e) z) (Nat.lt_irrefl _)
  have cellK : ∀ x c, X.env.cells.lookup x = some c → ∀ v, s.heap.IsCell c v → h'.IsCell c v := fun x c e v ⟨o, ho, hd⟩ => by
    have nch : c ∉ ch := fun z => (hch c z).2.2.1 x c e rfl
    by_cases hc : c ∈ X.fs
    · obtain ⟨sl, q⟩ := slot c o (I.cne x c e) hc nch ho (I.freeC x c e)
      exact ⟨_, q, hd⟩
    · exact ⟨o, keep c o (I.cne x c e) hc nch ho (I.freeC x c e), hd⟩
  refine ⟨I.ok, I.os, hg, ⟨fun b o e n hb hx => ?_, fun b o e n hb hx => ?_, fun b o e n hx => ?_, fun b o e hx => ?_, fun b xs e => tups b xs (I.base.tups b xs e), fun b o xs e => frzs b o xs (I.base.frzs b o xs e), fun b ps e => ?_⟩, ?_, fun x c e => ?_, ?_, fun x c e => ?_, fun p hp => ?_, hok, I.len⟩
  · exact keep b o (neL b o e) hb (neC b o e hx) (I.base.keep b o e n hb hx) (I.base.free b o e n hx)
  · obtain ⟨sl, e1⟩ := I.base.slot b o e n hb hx
    obtain ⟨sl', e2⟩ := slot b _ (neL b o e) hb (neC b o e hx) e1 (I.base.free b o e n hx)
    exact ⟨sl', e2⟩
  · obtain ⟨o', e1⟩ := I.base.there b o e hx
    exact free b o' (neC b o e hx) e1 (I.base.free b o e n hx)
  · obtain ⟨o', e1⟩ := I.base.there b o e hx
    exact there b o' (neC b o e hx) e1
  · obtain ⟨m1, e1⟩ := I.base.tbls b ps e
    obtain ⟨m2, e2⟩ := tbls b _ e1
    exact ⟨m1 ++ m2, by rw [e2, Array.append_assoc]⟩
  · obtain ⟨m, hn, hl⟩ := I.loc
    refine ⟨m, ns m hn, fun i x v e1 e2 e3 => ?_⟩
    obtain ⟨u, r, l⟩ := hl i x v e1 e2 e3
    refine ⟨u, r, ?_⟩
    rcases l with l | ⟨k, c, e, z⟩
    · exact .inl l
    · exact .inr ⟨k, c, e, cellK x c e _ z⟩
  · obtain ⟨v, z⟩ := I.cell x c e
    exact ⟨v, cellK x c e v z⟩
  · obtain ⟨m, ⟨o, _, _, ho, _⟩, _⟩ := I.loc
    exact free _ o (fun z => (hch _ z).2.1 rfl) ho I.free
  · obtain ⟨v, o, ho, hd⟩ := I.cell x c e
    exact free c o (fun z => (hch c z).2.2.1 x c e rfl) ho (I.freeC x c e)
  · obtain ⟨e, n, ne, nf, d⟩ := I.pin p hp
    have nch : p.1 ∉ ch := fun z => (hch p.1 z).2.2.2 p hp rfl
    exact ⟨keep p.1 p.2 ne nf nch e n, free p.1 p.2 nch e n, ne, nf, d⟩
theorem Inv.un {t' : Nat} (I : Inv X pins σ H s) (u : Un X.fs [] H H' s.heap h') (hok : HOk X.prog X.w H' h') : Inv X pins σ H' { s with heap := h', toks := t' } := by
  obtain ⟨m, ⟨o, es, ep, ho, r⟩, _⟩ := id I.loc
  obtain ⟨sl, hL⟩ := u.any ho I.free (by simp)
  exact I.step (g' := s.gens) (d' := s.drawn) (ch := []) (fun _ z => nomatch z) (fun b o _ hb _ e n => u.keep b o e n hb (by simp)) (fun b o _ hb _ e n => u.slot b o e n hb (by simp)) (fun b o _ e n => u.free b o e n (by simp)) (fun b o _ e => u.there b o e (by simp)) u.tups u.frzs u.tbls (fun m' hm => by
    obtain ⟨o', es', ep', ho', r'⟩ := hm
    rw [ho] at ho'; cases ho'
    exact ⟨_, es', ep', hL, r'⟩) hok I.bare
theorem Inv.call {g' : Array GenState} {t' : Nat} {d' : Drawn} {ch : List Addr} (I : Inv X pins σ H s) (u : Un (frs X.stack) ch H H' s.heap h') (hok : HOk X.prog X.w H' h') (hg : AllBare g')
    (hch : ∀ b ∈ ch, (b ∈ X.ex ∨ X.s₀.heap.objs.size ≤ b) ∧ b ≠ X.env.locals ∧ (∀ x c, X.env.cells.lookup x = some c → c ≠ b) ∧ ∀ p ∈ X.pn ++ pins, p.1 ≠ b) :
    Inv X pins σ H' { s with heap := h', gens := g', drawn := d', toks := t' } := by
  obtain ⟨m, ⟨o, es, ep, ho, r⟩, _⟩ := id I.loc
  obtain ⟨sl, hL⟩ := u.any ho I.free fun z => (hch _ z).2.1 rfl
  exact I.step (ch := ch) hch (fun b o hL hb hc e n => u.keep b o e n (fun z => (List.mem_cons.mp (I.stkSub b z)).elim hL hb) hc) (fun b o _ _ hc e n => u.any e n hc) (fun b o hc e n => u.free b o e n hc) (fun b o hc e => u.there b o e hc) u.tups u.frzs u.tbls (fun m' hm => by
    obtain ⟨o', es', ep', ho', r'⟩ := hm
    rw [ho] at ho'; cases ho'
    exact ⟨_, es', ep', hL, r'⟩) hok hg
theorem Inv.turned {t' : Nat} {it : Addr} (I : Inv X pins σ H s) (k : ∀ b o, b ≠ it → s.heap.get? b = some o → h'.get? b = some o) (hn : H it = none) (hL : it ≠ X.env.locals)
    (h1 : it ∈ X.ex ∨ X.s₀.heap.objs.size ≤ it) (h2 : ∀ x c, X.env.cells.lookup x = some c → c ≠ it) (h3 : ∀ p ∈ X.pn ++ pins, p.1 ≠ it) : Inv X pins σ H { s with heap := h', toks := t' } := by
  have nit : ∀ b u, H b = some u → b ≠ it := fun b u e z => by rw [z, hn] at e; cases e
  refine I.step (g' := s.gens) (d' := s.drawn) (ch := [it]) (fun b hb => ?_) (fun b o _ _ hc e _ => k b o (fun z => hc (by simp [z])) e) (fun b o _ _ hc e _ => ⟨o.slots, k b o (fun z => hc (by simp [z])) e⟩) (fun _ _ _ _ n => n)
    (fun b o hc e => ⟨o, k b o (fun z => hc (by simp [z])) e⟩) (fun _ _ e => e) (fun _ _ _ e => e) (fun b ps e => ⟨#[], by rw [e]; simp⟩) (fun m hm => ?_) (fun b u e => ?_) I.bare
  · have e : b = it := by simpa using hb
    subst e
    exact ⟨h1, hL, h2, h3⟩
  · obtain ⟨o, es, ep, ho, r⟩ := hm
    exact ⟨o, es, ep, k _ o (Ne.symm hL) ho, r⟩
  · refine (I.hok b u e).stay (fun c v hc q => k c v ?_ q) (fun _ q => q) fun _ _ q => q
    rcases hc with z | z
    · rw [z]; exact nit b u e
    · exact nit c _ z
theorem Inv.tok (I : Inv X pins σ H s) (t : Nat) : Inv X pins σ H { s with toks := t } := I.un (h' := s.heap) (t' := t) Un.refl I.hok
theorem Inv.kept {t' : Nat} (I : Inv X pins σ H s) (k : ∀ b u, s.heap.get? b = some u → h'.get? b = some u) : Inv X pins σ H { s with heap := h', toks := t' } := I.un (Un.kept k) (I.hok.kept k)
theorem Inv.laid {a : Addr} {o : HO} {t' : Nat} (I : Inv X pins σ H s) (k : ∀ b u, s.heap.get? b = some u → h'.get? b = some u) (hp : s.heap.objs.size ≤ a) (new : ObjOk X.prog X.w (upd H a o) h' a o) :
    Inv X pins σ (upd H a o) { s with heap := h', toks := t' } := I.un (Un.laid k hp (I.hok.fresh hp)) (I.hok.laid k hp new)
theorem Inv.write {x e : Addr} {o : HO} {t' : Nat} (I : Inv X pins σ H s) (mu : Mut (H x)) (he : e = x ∨ H e = some (.own x)) (k : ∀ b u, b ≠ e → s.heap.get? b = some u → h'.get? b = some u) (heo : ∃ u, h'.get? e = some u)
    (new : ObjOk X.prog X.w (upd H x o) h' x o) : Inv X pins σ (upd H x o) { s with heap := h', toks := t' } := I.un (Un.write mu he k heo) (I.hok.write mu he k heo new)
theorem Inv.pins_of {pins' : List (Addr × Obj)} (I : Inv X pins σ H s) (h : ∀ p ∈ pins', s.heap.get? p.1 = some p.2 ∧ H p.1 = none ∧ p.1 ≠ X.env.locals ∧ p.1 ∉ X.fs ∧ ∀ v, p.2.data ≠ .cell v) : Inv X pins' σ H s :=
  ⟨I.ok, I.os, I.bare, I.base, I.loc, I.cell, I.free, I.freeC, fun p hp => (List.mem_append.mp hp).elim (fun z => I.pin p (List.mem_append_left _ z)) (h p), I.hok, I.len⟩
theorem nodup_ix {N : List Str} (hN : N.Nodup) {i j : Nat} {x : Str} (a : N[i]? = some x) (b : N[j]? = some x) : i = j := by
  obtain ⟨h1, e1⟩ := List.getElem?_eq_some_iff.mp a
  obtain ⟨h2, e2⟩ := List.getElem?_eq_some_iff.mp b
  exact (List.getElem_inj hN).mp (e1.trans e2.symm)
theorem store_ok2 {M : Model} {A : Around} {E : Value → Shared → Prop} {i : Nat} {x : Str} {v : V} {u : Value} {Q : Unit → Shared → Prop} (I : Inv X pins σ H s) (hN : X.N.Nodup) (hi : X.N[i]? = some x) (hx : Loc X.env.scope x) (r : RelV v u)
    (h : ∀ s', Inv X pins (σ.set i (some v)) H s' → (∃ a, Heap.SameBut a s.heap s'.heap ∧ (a = X.env.locals ∨ X.env.cells.lookup x = some a)) → Q () s') (hf : X.fn x = true ∨ X.env.scope.names.lookup x = some .local := by first | exact .inl rfl | exact .inr rfl | assumption) : wpAny M A (storeName X.env x u) Q E s := by
  obtain ⟨m, hn, hl⟩ := id I.loc
  have hcls : (X.env.scope.kind == .class || (X.env.scope.kind == .module && X.env.locals != X.env.globals)) = false := by rw [I.ok.kind]; rfl
  have hiσ : i < σ.length := by rw [I.len]; exact (List.getElem?_eq_some_iff.mp hi).1
  have cne := I.cne
  have tracked : ∀ {a : Addr} {h' : Heap}, (∃ o, s.heap.get? a = some o ∧ H a = none) → Heap.SameBut a s.heap h' → HOk X.prog X.w H h' := fun {a h'} ha hs b ob e => by
    obtain ⟨_, _, hfree⟩ := ha
    refine (I.hok b ob e).stay (fun c w' hc q => (hs.2 c ?_).trans q) (fun _ q => q) fun _ _ q => q
    rintro rfl
    rcases hc with rfl | hc
    · rw [hfree] at e; cases e
    · rw [hfree] at hc; cases hc
  rcases hx with hk | hk
  · refine wpAny_storeName_local hk hn (fun h' hn' hs => ?_) hcls
    obtain ⟨oL, _, _, hoL, _⟩ := id hn
    refine h _ ⟨I.ok, I.os, I.bare, ⟨fun b o e n hb hx => ?_, fun b o e n hb hx => ?_, I.base.free, fun b o e hx => ?_, I.base.tups, I.base.frzs, I.base.tbls⟩, ⟨_, hn', fun j y v' e1 e2 e3 => ?_⟩, fun y c e => ?_, I.free, I.freeC, fun p hp => ?_, tracked ⟨oL, hoL, I.free⟩ hs, by simpa using I.len⟩ ⟨_, hs, .inl rfl⟩
    · exact (hs.2 b (Nat.ne_of_lt (Nat.lt_of_lt_of_le (Heap.lt_size e) I.ok.above))).trans (I.base.keep b o e n hb hx)
    · obtain ⟨sl, e1⟩ := I.base.slot b o e n hb hx
      exact ⟨sl, (hs.2 b (Nat.ne_of_lt (Nat.lt_of_lt_of_le (Heap.lt_size e) I.ok.above))).trans e1⟩
    · obtain ⟨o', e1⟩ := I.base.there b o e hx
      exact ⟨o', (hs.2 b (Nat.ne_of_lt (Nat.lt_of_lt_of_le (Heap.lt_size e) I.ok.above))).trans e1⟩
    · by_cases hj : j = i
      · subst hj
        rw [hi] at e1; cases e1
        rw [List.getElem?_set_self hiσ] at e2
        cases e2
        exact ⟨u, r, .inl ⟨hk, by simp⟩⟩
      · rw [List.getElem?_set_ne (Ne.symm hj)] at e2
        obtain ⟨u', r', q⟩ := hl j y v' e1 e2 e3
        refine ⟨u', r', ?_⟩
        rcases q with ⟨k, e⟩ | ⟨k, c, e, z⟩
        · refine .inl ⟨k, ?_⟩
          have : y ≠ x := fun e => hj (nodup_ix hN e1 (e ▸ hi))
          simp [this, e]
        · exact .inr ⟨k, c, e, z.sameBut hs (cne y c e)⟩
    · obtain ⟨w', z⟩ := I.cell y c e
      exact ⟨w', z.sameBut hs (cne y c e)⟩
    · obtain ⟨e, n, ne, nf, d⟩ := I.pin p hp
      exact ⟨(hs.2 p.1 ne).trans e, n, ne, nf, d⟩
  · have hfn : X.fn x = true := by
      rcases hf with z | z
      · exact z
      · rw [z] at hk; cases hk
    obtain ⟨c, hc⟩ := I.ok.has x (.inl hk)
    obtain ⟨w', z⟩ := I.cell x c hc
    refine wpAny_storeName_cell I.ok.kind hk hc z (fun h' hc' hs => ?_)
    obtain ⟨oc, hoc, hocd⟩ := id z
    refine h { s with heap := h' } ⟨I.ok, I.os, I.bare, ⟨fun b o e n hb hx => ?_, fun b o e n hb hx => ?_, I.base.free, fun b o e hx => ?_, I.base.tups, I.base.frzs, I.base.tbls⟩, ⟨m, hn.sameBut hs (Ne.symm (cne x c hc)), fun j y v' e1 e2 e3 => ?_⟩, fun y c' e => ?_, I.free, I.freeC, fun p hp => ?_, tracked ⟨oc, hoc, I.freeC x c hc⟩ hs, by simpa using I.len⟩ ⟨c, hs, .inr hc⟩
    · exact (hs.2 b (Nat.ne_of_lt (Nat.lt_of_lt_of_le (Heap.lt_size e) (I.ok.cab x c hfn hc)))).trans (I.base.keep b o e n hb hx)
    · obtain ⟨sl, e1⟩ := I.base.slot b o e n hb hx
      exact ⟨sl, (hs.2 b (Nat.ne_of_lt (Nat.lt_of_lt_of_le (Heap.lt_size e) (I.ok.cab x c hfn hc)))).trans e1⟩
    · obtain ⟨o', e1⟩ := I.base.there b o e hx
      exact ⟨o', (hs.2 b (Nat.ne_of_lt (Nat.lt_of_lt_of_le (Heap.lt_size e) (I.ok.cab x c hfn hc)))).trans e1⟩
    · by_cases hj : j = i
      · subst hj
        rw [hi] at e1; cases e1
        rw [List.getElem?_set_self hiσ] at e2
        cases e2
        exact ⟨u, r, .inr ⟨.inl hk, c, hc, hc'⟩⟩
      · rw [List.getElem?_set_ne (Ne.symm hj)] at e2
        obtain ⟨u', r', q⟩ := hl j y v' e1 e2 e3
        refine ⟨u', r', ?_⟩
        rcases q with q | ⟨k, c', e, z'⟩
        · exact .inl q
        · refine .inr ⟨k, c', e, z'.sameBut hs ?_⟩
          rintro rfl
          exact hj (nodup_ix hN e1 (I.ok.inj _ _ _ e hc ▸ hi))
    · by_cases hcc : c' = c
      · subst hcc; exact ⟨_, hc'⟩
      · obtain ⟨w2, z2⟩ := I.cell y c' e
        exact ⟨w2, z2.sameBut hs hcc⟩
    · obtain ⟨e, n, ne, nf, d⟩ := I.pin p hp
      refine ⟨(hs.2 p.1 ?_).trans e, n, ne, nf, d⟩
      intro q
      rw [q, hoc] at e
      have q' : oc = p.2 := Option.some.inj e
      exact d w' (by rw [← q']; exact hocd)
theorem store_ok {M : Model} {A : Around} {E : Value → Shared → Prop} {i : Nat} {x : Str} {v : V} {u : Value} {Q : Unit → Shared → Prop} (I : Inv X pins σ H s) (hN : X.N.Nodup) (hi : X.N[i]? = some x) (hx : Loc X.env.scope x) (r : RelV v u)
    (h : ∀ s', Inv X pins (σ.set i (some v)) H s' → Q () s') (hf : X.fn x = true ∨ X.env.scope.names.lookup x = some .local := by first | exact .inl rfl | exact .inr rfl | assumption) : wpAny M A (storeName X.env x u) Q E s :=
  store_ok2 I hN hi hx r (fun s' I' _ => h s' I') hf
theorem Inv.call' {s' : Shared} {ch : List Addr} (I : Inv X pins σ H s) (ho : s'.os = s.os) (u : Un (frs X.stack) ch H H' s.heap s'.heap) (hok : HOk X.prog X.w H' s'.heap) (hg : AllBare s'.gens)
    (hch : ∀ b ∈ ch, (b ∈ X.ex ∨ X.s₀.heap.objs.size ≤ b) ∧ b ≠ X.env.locals ∧ (∀ x c, X.env.cells.lookup x = some c → c ≠ b) ∧ ∀ p ∈ X.pn ++ pins, p.1 ≠ b) : Inv X pins σ H' s' := by
  obtain ⟨h', g', d', t', o'⟩ := s'
  have e : o' = s.os := ho
  subst e
  exact I.call (g' := g') (t' := t') (d' := d') u hok hg hch
end
abbrev XK := Value → Option Addr → Hp → Prop
abbrev St := List (Option V)
abbrev VK := V → Hp → Prop
abbrev TE := St → Hp → VK → Prop
abbrev TT := St → Hp → (Bool → Hp → Prop) → Prop
abbrev TA := St → Hp → (List V → Hp → Prop) → Prop
structure Ends where
  nx : St → Hp → Prop
  rt : VK
  bk : St → Hp → Prop := fun _ _ => False
  ct : St → Hp → Prop := fun _ _ => False
abbrev TS := Ends → St → Hp → Prop
def EP (X : Cx) (pins : List (Addr × Obj)) (σ : St) (Q : VK) (u : Value) (s' : Shared) : Prop := ∃ v H', Inv X pins σ H' s' ∧ RelV v u ∧ Q v H'
def TP (X : Cx) (pins : List (Addr × Obj)) (σ : St) (Q : Bool → Hp → Prop) (b : Bool) (s' : Shared) : Prop := ∃ H', Inv X pins σ H' s' ∧ Q b H'
def AP (X : Cx) (pins : List (Addr × Obj)) (σ : St) (Q : List V → Hp → Prop) (us : List Value) (s' : Shared) : Prop := ∃ vs H', Inv X pins σ H' s' ∧ Vals vs us ∧ Q vs H'
def SP (X : Cx) (pins : List (Addr × Obj)) (D : Ends) (f : Flow) (s' : Shared) : Prop :=
  match f with
  | .next => ∃ σ' H', Inv X pins σ' H' s' ∧ D.nx σ' H'
  | .brk => ∃ σ' H', Inv X pins σ' H' s' ∧ D.bk σ' H'
  | .cont => ∃ σ' H', Inv X pins σ' H' s' ∧ D.ct σ' H'
  | .ret u => ∃ v σ' H', Inv X pins σ' H' s' ∧ RelV v u ∧ D.rt v H'
def PE (X : Cx) (e : Expr) (t : TE) : Prop :=
  ∀ (pins : List (Addr × Obj)) (s : Shared) (σ : St) (H : Hp) (Q : VK), Inv X pins σ H s → t σ H Q → wpAny (model X.prog X.w) X.A (eval e X.env) (EP X pins σ Q) X.xe s
def PT (X : Cx) (e : Expr) (t : TT) : Prop :=
  ∀ (pins : List (Addr × Obj)) (s : Shared) (σ : St) (H : Hp) (Q : Bool → Hp → Prop), Inv X pins σ H s → t σ H Q → wpAny (model X.prog X.w) X.A (isTrue e X.env (eval e X.env)) (TP X pins σ Q) X.xe s
def PW (X : Cx) (e : Expr) (t : TT) : Prop :=
  ∀ (whole : Sem Value) (pins : List (Addr × Obj)) (s : Shared) (σ : St) (H : Hp) (Q : Bool → Hp → Prop), Inv X pins σ H s → t σ H Q → wpAny (model X.prog X.w) X.A (isTrue e X.env whole) (TP X pins σ Q) X.xe s
theorem PW.pt {X : Cx} {e : Expr} {t : TT} (h : PW X e t) : PT X e t := h _
def PA (X : Cx) (es : List Expr) (t : TA) : Prop :=
  ∀ (pos : Pos) (pins : List (Addr × Obj)) (s : Shared) (σ : St) (H : Hp) (Q : List V → Hp → Prop), Inv X pins σ H s → t σ H Q → wpAny (model X.prog X.w) X.A (spliced (backTo pos (starEach es X.env))) (AP X pins σ Q) X.xe s
def PS (X : Cx) (st : Stmt) (t : TS) : Prop :=
  ∀ (pins : List (Addr × Obj)) (s : Shared) (σ : St) (H : Hp) (D : Ends), Inv X pins σ H s → t D σ H → wpAny (model X.prog X.w) X.A (exec st X.env) (SP X pins D) X.xe s
def PSs (X : Cx) (st : List Stmt) (t : TS) : Prop :=
  ∀ (pins : List (Addr × Obj)) (s : Shared) (σ : St) (H : Hp) (D : Ends), Inv X pins σ H s → t D σ H → wpAny (model X.prog X.w) X.A (execs st X.env) (SP X pins D) X.xe s
theorem thn {α : Type} {t : Sem α} {Q Q' : α → Shared → Prop} {M : Model} {A : Around} {E : Value → Shared → Prop} {s : Shared} (h : wpAny M A t Q E s) (hQ : ∀ a s, Q a s → Q' a s) : wpAny M A t Q' E s := wpAny_mono h hQ fun _ _ x => x
end L2
namespace L2
open PySem PySem.Spec PyProof.Rows
section
variable {X : Cx}
def tVar (i : Nat) : TE := fun σ H Q => ∃ v, σ[i]? = some (some v) ∧ Q v H
def tC (v : V) : TE := fun _ H Q => Q v H
theorem pe_var {i : Nat} {x : Str} {pos : Pos} (hN : X.N[i]? = some x) (hv : Vis X.env.scope x) (hd : (x == ("__debug__" : Str)) = false := by decide) (hcd : (x == ("__classdict__" : Str)) = false := by decide) : PE X (.Name x pos) (tVar i) := by
  intro pins s σ H Q I h
  obtain ⟨v, e, h⟩ := h
  obtain ⟨m, hn, hl⟩ := I.loc
  obtain ⟨u, r, l⟩ := hl i x v hN e hv
  have fin : EP X pins σ Q u s := ⟨v, H, I, r, h⟩
  rcases l with ⟨hk, hm⟩ | ⟨hk, c, hc, hcell⟩
  · exact wpAny_Name (wpAny_loadName_local I.ok.kind hk hn hm fin) hd
  · rcases hk with hk | hk
    · exact wpAny_Name (wpAny_loadName_cell I.ok.kind hk hc hcell fin) hd
    · exact wpAny_Name (wpAny_loadName_free I.ok.kind hk hc hcell fin hcd) hd
theorem pe_int {i j pos} : PE X (.Constant (.int i) j pos) (tC (.int i)) := fun _ _ _ H _ I h => wpAny_Constant_int ⟨.int i, H, I.tok _, ⟨_, rfl⟩, h⟩
theorem pe_bl {b j pos} : PE X (.Constant (.bool b) j pos) (tC (.bl b)) := fun _ _ _ H _ I h => Constant_bool ⟨.bl b, H, I, rfl, h⟩
theorem pe_non {j pos} : PE X (.Constant .none j pos) (tC .non) := fun _ _ _ H _ I h => Constant_none ⟨.non, H, I, rfl, h⟩
theorem pe_str {x j pos} : PE X (.Constant (.str x) j pos) (tC (.str x)) := fun _ _ _ H _ I h => Calls.Constant_str ⟨.str x, H, I.tok _, ⟨_, rfl⟩, h⟩
def Gl (X : Cx) (x : Str) : Prop := X.env.kindOf x = some .globalImplicit
theorem ld_glob {E : Value → Shared → Prop} {pins : List (Addr × Obj)} {s : Shared} {σ : St} {H : Hp} {x : Str} {u : Value} {pos : Pos} {Q : Value → Shared → Prop} (I : Inv X pins σ H s) (hg : Gl X x) (hm : X.mg x = some u) (h : Q u s)
    (hd : (x == ("__debug__" : Str)) = false := by decide) : wpAny (model X.prog X.w) X.A (eval (.Name x pos) X.env) Q E s :=
  Calls.Name_function_global I.ok.kind hg (Calls.loadGlobal_global (by rw [I.ok.glob]; exact I.mod.glob.keeps I.bk) hm h) hd
theorem ld_blt {E : Value → Shared → Prop} {pins : List (Addr × Obj)} {s : Shared} {σ : St} {H : Hp} {x : Str} {u : Value} {pos : Pos} {Q : Value → Shared → Prop} (I : Inv X pins σ H s) (hg : Gl X x) (hm : X.mg x = none) (hv : bootBuiltins x = some u) (h : Q u s)
    (hn : x ≠ "__name__" := by decide) (hd : (x == ("__debug__" : Str)) = false := by decide) : wpAny (model X.prog X.w) X.A (eval (.Name x pos) X.env) Q E s := by
  obtain ⟨mb, h1, h2⟩ := I.mod.blt
  exact Calls.Name_function_global I.ok.kind hg (Calls.loadGlobal_builtin (by rw [I.ok.glob]; exact I.mod.glob.keeps I.bk) hm (by rw [I.ok.blt]; exact h1.keeps I.bk) ((h2 x hn).trans hv) h) hd
theorem pe_glob {x : Str} {v : V} {u : Value} {pos : Pos} (hg : Gl X x) (hm : X.mg x = some u) (r : RelV v u) (hd : (x == ("__debug__" : Str)) = false := by decide) : PE X (.Name x pos) (tC v) :=
  fun _ _ _ H _ I h => ld_glob I hg hm ⟨v, H, I, r, h⟩ hd
theorem pe_bltn {x : Str} {v : V} {u : Value} {pos : Pos} (hg : Gl X x) (hm : X.mg x = none) (hv : bootBuiltins x = some u) (r : RelV v u) (hn : x ≠ "__name__" := by decide) (hd : (x == ("__debug__" : Str)) = false := by decide) : PE X (.Name x pos) (tC v) :=
  fun _ _ _ H _ I h => ld_blt I hg hm hv ⟨v, H, I, r, h⟩ hn hd
variable {a b : Expr} {ta tb : TE} {pos : Pos}
def tB (t : TE) : TT := fun σ H Q => t σ H fun x H1 => ∃ c, x = .bl c ∧ Q c H1
theorem pt_val {e : Expr} {t : TE} (h : PE X e t) (he : ∀ whole, isTrue e X.env whole = (do let v ← whole; standAt e.pos; holding [v] (truthy v)) := by intro _; rfl) : PT X e (tB t) := by
  intro pins s σ H Q I hw
  refine isTrue_plain (thn (h pins s σ H _ I hw) fun v s1 ⟨x, H1, I1, r1, q1⟩ => ?_) (he _)
  obtain ⟨d, rfl, q⟩ := q1
  cases r1
  exact wpAny_truthy_bool ⟨H1, I1, q⟩
variable {tA tB' : TT} {rest : List Expr}
def tAnd (t u : TT) : TT := fun σ H Q => t σ H fun c H1 => if c = true then u σ H1 Q else Q false H1
def tOr (t u : TT) : TT := fun σ H Q => t σ H fun c H1 => if c = true then Q true H1 else u σ H1 Q
def tNot (t : TT) : TT := fun σ H Q => t σ H fun c H1 => Q (!c) H1
theorem pw_and1 (ha : PT X a tA) : PW X (.BoolOp .And [a] pos) tA := by
  intro wh pins s σ H Q I h
  refine isTrue_and (thn (ha pins s σ H Q I h) fun c s1 e => ?_)
  cases c with
  | true => exact isTrue_and_nil e
  | false => exact e
theorem pw_or1 (ha : PT X a tA) : PW X (.BoolOp .Or [a] pos) tA := by
  intro wh pins s σ H Q I h
  refine isTrue_or (thn (ha pins s σ H Q I h) fun c s1 e => ?_)
  cases c with
  | false => exact isTrue_or_nil e
  | true => exact e
theorem pw_and (ha : PT X a tA) (hb : PW X (.BoolOp .And (b :: rest) pos) tB') : PW X (.BoolOp .And (a :: b :: rest) pos) (tAnd tA tB') := by
  intro wh pins s σ H Q I h
  refine isTrue_and (thn (ha pins s σ H _ I h) fun c s1 ⟨H1, I1, q1⟩ => ?_)
  cases c with
  | true => exact hb wh pins s1 σ H1 Q I1 q1
  | false => exact ⟨H1, I1, q1⟩
theorem pw_or (ha : PT X a tA) (hb : PW X (.BoolOp .Or (b :: rest) pos) tB') : PW X (.BoolOp .Or (a :: b :: rest) pos) (tOr tA tB') := by
  intro wh pins s σ H Q I h
  refine isTrue_or (thn (ha pins s σ H _ I h) fun c s1 ⟨H1, I1, q1⟩ => ?_)
  cases c with
  | true => exact ⟨H1, I1, q1⟩
  | false => exact hb wh pins s1 σ H1 Q I1 q1
theorem pt_not (ha : PT X a tA) : PT X (.UnaryOp .Not a pos) (tNot tA) := by
  intro pins s σ H Q I h
  exact isTrue_not (ha pins s σ H (fun c H1 => Q (!c) H1) I h)
def tOrV (ta tb : TE) : TE := fun σ H Q => ta σ H fun x H1 => ∃ c, x = .bl c ∧ if c = true then Q (.bl true) H1 else tb σ H1 Q
theorem pe_one {op} {t : TE} (h : PE X a t) : PE X (.BoolOp op [a] pos) t := fun pins s σ H Q I hw => BoolOp_one (h pins s σ H Q I hw)
theorem pe_or (ha : PE X a ta) (hb : PE X (.BoolOp .Or (b :: rest) pos) tb) : PE X (.BoolOp .Or (a :: b :: rest) pos) (tOrV ta tb) := by
  intro pins s σ H Q I h
  refine BoolOp_or (thn (ha pins s σ H _ I h) fun v s1 ⟨x, H1, I1, r1, q1⟩ => ?_)
  obtain ⟨c, rfl, q1⟩ := q1
  cases r1
  refine wpAny_truthy_bool ?_
  cases c with
  | false => exact hb pins s1 σ H1 Q I1 q1
  | true => exact ⟨.bl true, H1, I1, rfl, q1⟩
def tIf (t : TT) (ta tb : TE) : TE := fun σ H Q => t σ H fun c H1 => if c = true then ta σ H1 Q else tb σ H1 Q
theorem pe_ifExp {c : Expr} (hc : PT X c tA) (ha : PE X a ta) (hb : PE X b tb) : PE X (.IfExp c a b pos) (tIf tA ta tb) := by
  intro pins s σ H Q I h
  refine wpAny_IfExp (thn (hc pins s σ H _ I h) fun d s1 ⟨H1, I1, q1⟩ => ?_)
  cases d with
  | true => exact ha pins s1 σ H1 Q I1 q1
  | false => exact hb pins s1 σ H1 Q I1 q1
end
end L2
namespace L2
open PySem PySem.Spec PyProof.Rows
def SqL (K : PySem.W.Frag) (H : Hp) (a : Addr) (xs : List V) : Prop :=
  Rd H a (.lst xs) ∨
    ∃ (o : Obj) (its : Array Value) (n : Nat), K.lookup a = some o ∧ o.cls = .type "list" ∧ o.dict = none ∧ o.data = .seq its n ∧ its.size ≤ sizeLine ∧ Vals xs its.toList
def SqT (K : PySem.W.Frag) (H : Hp) (a : Addr) (xs : List V) : Prop :=
  Rd H a (.tup xs) ∨
    ∃ (o : Obj) (its : Array Value) (n : Nat), K.lookup a = some o ∧ o.cls = .type "tuple" ∧ o.data = .seq its n ∧ its.size ≤ sizeLine ∧ Vals xs its.toList
def absV : Value → Option V
  | .none => some .non
  | .bool b => some (.bl b)
  | .int i _ => some (.int i)
  | .str x _ => some (.str x)
  | .bytes b _ => some (.byt b)
  | .float b _ => some (.flt b)
  | .ref a => some (.ref a)
  | .type n => some (.ty n)
  | _ => none
theorem RelV.abs {x : V} {u : Value} (r : RelV x u) : absV u = some x := by
  cases x with
  | non => cases r; rfl
  | bl _ => cases r; rfl
  | int _ => obtain ⟨t, rfl⟩ := r; rfl
  | str _ => obtain ⟨t, rfl⟩ := r; rfl
  | byt _ => obtain ⟨t, rfl⟩ := r; rfl
  | flt _ => obtain ⟨t, rfl⟩ := r; rfl
  | ref _ => cases r; rfl
  | ty _ => cases r; rfl
theorem RelV.inj {x y : V} {u : Value} (r : RelV x u) (q : RelV y u) : x = y := Option.some.inj (r.abs.symm.trans q.abs)
theorem Vals.inj : ∀ {xs ys : List V} {us : List Value}, Vals xs us → Vals ys us → xs = ys
  | _, _, _, .nil, .nil => rfl
  | _, _, _, .cons r t, .cons r' t' => by rw [r.inj r', Vals.inj t t']
section
variable {X : Cx} {pins : List (Addr × Obj)} {σ : St} {H : Hp} {s : Shared} {a : Addr} {xs ys : List V}
theorem SqL.of {K : PySem.W.Frag} (h : H a = some (.lst xs)) : SqL K H a xs := .inl (.inl h)
theorem Inv.list (I : Inv X pins σ H s) (h : SqL X.K H a xs) : ∃ its : List Value, Vals xs its ∧ PlainL s.heap a its.toArray ∧ xs.length ≤ sizeLine := by
  rcases h with h | ⟨o, its, n, hk, hc, hd, hs, hz, r⟩
  · obtain ⟨z, its, n, r, e⟩ := h.ok I.hok
    exact ⟨its, r, ⟨_, n, e, rfl, rfl, rfl⟩, z⟩
  · refine ⟨its.toList, r, ⟨o, n, I.kIn a o hk, hc, hd, by simpa using hs⟩, ?_⟩
    have e := r.length
    simp only [Array.length_toList] at e
    omega
theorem Inv.tuple (I : Inv X pins σ H s) (h : SqT X.K H a xs) : ∃ its : List Value, Vals xs its ∧ IsTup s.heap a its.toArray ∧ xs.length ≤ sizeLine := by
  rcases h with h | ⟨o, its, n, hk, hc, hs, hz, r⟩
  · obtain ⟨z, its, r, p⟩ := h.ok I.hok
    exact ⟨its, r, p, z⟩
  · refine ⟨its.toList, r, ⟨o, I.kIn a o hk, hc, n, by simpa using hs⟩, ?_⟩
    have e := r.length
    simp only [Array.length_toList] at e
    omega
theorem Inv.list_inj (I : Inv X pins σ H s) (h : SqL X.K H a xs) (h' : SqL X.K H a ys) : xs = ys := by
  obtain ⟨its, r, ⟨o, n, e, _, _, d⟩, _⟩ := I.list h
  obtain ⟨its', r', ⟨o', n', e', _, _, d'⟩, _⟩ := I.list h'
  rw [e] at e'; cases e'
  rw [d] at d'
  injection d' with d1 _
  have : its = its' := by simpa using congrArg Array.toList d1
  subst this
  exact r.inj r'
end
abbrev Cx.wish (X : Cx) (E : Value → Shared → Prop) : Cx := { X with xe := E }
abbrev Cx.nox (X : Cx) : Cx := X.wish fun _ _ => False
theorem Cx.Ok.wish {X : Cx} (ok : X.Ok) (E : Value → Shared → Prop) : (X.wish E).Ok :=
  ⟨ok.mod, ok.kind, ok.glob, ok.blt, ok.above, ok.inj, ok.has, ok.cab, ok.hd, ok.frames, ok.stk, ok.exf, ok.bs, ok.bsz, ok.noex, ok.exfs, ok.funs, ok.frf⟩
theorem Cx.Ok.unwish {X : Cx} {E : Value → Shared → Prop} (ok : (X.wish E).Ok) : X.Ok :=
  ⟨ok.mod, ok.kind, ok.glob, ok.blt, ok.above, ok.inj, ok.has, ok.cab, ok.hd, ok.frames, ok.stk, ok.exf, ok.bs, ok.bsz, ok.noex, ok.exfs, ok.funs, ok.frf⟩
section
variable {X : Cx} {pins : List (Addr × Obj)} {σ : St} {H : Hp} {s : Shared} {E : Value → Shared → Prop}
theorem Inv.wish (I : Inv X pins σ H s) (E : Value → Shared → Prop) : Inv (X.wish E) pins σ H s := ⟨I.ok.wish E, I.os, I.bare, I.base, I.loc, I.cell, I.free, I.freeC, I.pin, I.hok, I.len⟩
theorem Inv.unwish (I : Inv (X.wish E) pins σ H s) : Inv X pins σ H s := ⟨I.ok.unwish, I.os, I.bare, I.base, I.loc, I.cell, I.free, I.freeC, I.pin, I.hok, I.len⟩
theorem SP.unwish {D : Ends} {f : Flow} {s' : Shared} (h : SP (X.wish E) pins D f s') : SP X pins D f s' := by
  cases f with
  | next => obtain ⟨σ', H', I, q⟩ := h; exact ⟨σ', H', I.unwish, q⟩
  | brk => obtain ⟨σ', H', I, q⟩ := h; exact ⟨σ', H', I.unwish, q⟩
  | cont => obtain ⟨σ', H', I, q⟩ := h; exact ⟨σ', H', I.unwish, q⟩
  | ret u => obtain ⟨v, σ', H', I, r, q⟩ := h; exact ⟨v, σ', H', I.unwish, r, q⟩
theorem PSs.nox {st : List Stmt} {t : TS} (h : PSs X.nox st t) : PSs X st t := fun pins s σ H D I hw =>
  wpAny_mono (h pins s σ H D (I.wish _) hw) (fun _ _ q => q.unwish) fun _ _ z => False.elim z
end
section
variable {X : Cx} {st : Stmt} {rest : List Stmt} {t u : TS} {e : Expr} {te : TE} {pos : Pos}
def tNext : TS := fun D σ H => D.nx σ H
def tSeq (t u : TS) : TS := fun D σ H => t { D with nx := u D } σ H
theorem pss_nil : PSs X [] tNext := fun _ _ σ H _ I h => wpAny_execs_nil ⟨σ, H, I, h⟩
theorem pss_cons (h1 : PS X st t) (h2 : PSs X rest u) : PSs X (st :: rest) (tSeq t u) := by
  intro pins s σ H D I h
  refine wpAny_execs_cons (thn (h1 pins s σ H { D with nx := u D } I h) fun f s1 q => ?_)
  cases f with
  | next =>
    obtain ⟨σ', H', I', q⟩ := q
    exact h2 pins s1 σ' H' D I' q
  | ret v => exact q
  | brk => exact q
  | cont => exact q
theorem pss_one (h1 : PS X st t) : PSs X [st] t := by
  intro pins s σ H D I h
  refine wpAny_execs_cons (thn (h1 pins s σ H D I h) fun f s1 q => ?_)
  cases f with
  | next => exact wpAny_execs_nil q
  | ret v => exact q
  | brk => exact q
  | cont => exact q
theorem Inv.quiet {pins : List (Addr × Obj)} {σ : St} {H : Hp} {s : Shared} (I : Inv X pins σ H s) : interactive X.env = false := by simp [interactive, I.ok.kind]
def tDrop (te : TE) : TS := fun D σ H => te σ H fun _ H1 => D.nx σ H1
theorem ps_expr (he : PE X e te) (hs : swapsWith e none pos.line X.env = pure false := by rfl) : PS X (.Expr e pos) (tDrop te) := by
  intro pins s σ H D I h
  exact wpAny_Expr_any (thn (he pins s σ H _ I h) fun v s1 ⟨x, H1, I1, r1, q1⟩ => ⟨σ, H1, I1, q1⟩) I.quiet hs
def tRet (te : TE) : TS := fun D σ H => te σ H D.rt
theorem ps_ret (he : PE X e te) : PS X (.Return (some e) pos) (tRet te) := by
  intro pins s σ H D I h
  exact wpAny_Return_some (thn (he pins s σ H _ I h) fun v s1 ⟨x, H1, I1, r1, q1⟩ => ⟨x, σ, H1, I1, r1, q1⟩)
def tIfS (c : TT) (t u : TS) : TS := fun D σ H => c σ H fun b H1 => if b = true then t D σ H1 else u D σ H1
theorem ps_if {c : Expr} {a b : List Stmt} {tc : TT} (hc : PT X c tc) (ha : PSs X a t) (hb : PSs X b u) : PS X (.If c a b pos) (tIfS tc t u) := by
  intro pins s σ H D I h
  refine wpAny_If (thn (hc pins s σ H _ I h) fun d s1 ⟨H1, I1, q1⟩ => ?_)
  cases d with
  | true => exact ha pins s1 σ H1 D I1 q1
  | false => exact hb pins s1 σ H1 D I1 q1
end
abbrev TG := V → St → Hp → (St → Hp → Prop) → Prop
def PG (X : Cx) (target : Expr) (t : TG) : Prop :=
  ∀ (pins : List (Addr × Obj)) (s : Shared) (σ : St) (H : Hp) (v : V) (u : Value) (Q : St → Hp → Prop), Inv X pins σ H s → RelV v u → t v σ H Q →
    wpAny (model X.prog X.w) X.A (assign target X.env u) (fun _ s' => ∃ σ' H', Inv X pins σ' H' s' ∧ Q σ' H') X.xe s
abbrev TSet := V → V → V → Hp → (Hp → Prop) → Prop
def PSet (X : Cx) (t : TSet) : Prop :=
  ∀ (pins : List (Addr × Obj)) (s : Shared) (σ : St) (H : Hp) (o i v : V) (ov iv u : Value) (Q : Hp → Prop), Inv X pins σ H s → RelV o ov → RelV i iv → RelV v u → t o i v H Q →
    wpAny (model X.prog X.w) X.A (setItem ov iv u) (fun _ s' => ∃ H', Inv X pins σ H' s' ∧ Q H') X.xe s
section
variable {X : Cx} {pos : Pos}
def gName (i : Nat) : TG := fun v σ H Q => Q (σ.set i (some v)) H
theorem pg_name {i : Nat} {x : Str} (hN : X.N.Nodup) (hi : X.N[i]? = some x) (hx : Loc X.env.scope x) (hf : X.fn x = true ∨ X.env.scope.names.lookup x = some .local := by first | exact .inl rfl | exact .inr rfl | assumption) : PG X (.Name x pos) (gName i) := by
  intro pins s σ H v u Q I r h
  exact wpAny_assign_Name (store_ok I hN hi hx r (fun s' I' => ⟨_, H, I', h⟩) hf)
def gSub (to ti : TE) (t : TSet) : TG := fun v σ H Q => to σ H fun o H1 => ti σ H1 fun i H2 => t o i v H2 fun H3 => Q σ H3
theorem pg_sub {o i : Expr} {to ti : TE} {t : TSet} (ho : PE X o to) (hi : PE X i ti) (hs : PSet X t)
    (ha : ∀ v, assign (.Subscript o i pos) X.env v = (do
      let ov ← holding [v] (eval o X.env)
      let iv ← holding [v, ov] (eval i X.env)
      standAt pos
      holding [v, ov, iv] (setItem ov iv v)
      release [v, ov, iv] []) := by intro _; rfl) : PG X (.Subscript o i pos) (gSub to ti t) := by
  intro pins s σ H v u Q I r h
  rw [ha]
  refine wpAny_bind (wpAny_holding (thn (ho pins s σ H _ I h) fun ov s1 ⟨x, H1, I1, r1, q1⟩ => ?_))
  refine wpAny_bind (wpAny_holding (thn (hi pins s1 σ H1 _ I1 q1) fun iv s2 ⟨y, H2, I2, r2, q2⟩ => ?_))
  refine wpAny_bind (wpAny_standAt (wpAny_bind (wpAny_holding (thn (hs pins s2 σ H2 x y v ov iv u _ I2 r1 r2 r q2) fun _ s3 ⟨H3, I3, q3⟩ => ?_))))
  exact wpAny_release ⟨σ, H3, I3, q3⟩
def tAsg (te : TE) (g : TG) : TS := fun D σ H => te σ H fun x H1 => g x σ H1 D.nx
theorem ps_asg {tg e : Expr} {te : TE} {g : TG} (he : PE X e te) (hg : PG X tg g) (hs : swapsWithSole [tg] e pos.line X.env = pure false := by rfl) (hw : swappedStores [tg] e X.env = pure none := by rfl)
    (h1 : (assignEach [tg] X.env).map (·.2) = [assign tg X.env] := by rfl) : PS X (.Assign [tg] e pos) (tAsg te g) := by
  intro pins s σ H D I h
  refine wpAny_Assign_stores (thn (he pins s σ H _ I h) fun v s1 ⟨x, H1, I1, r1, q1⟩ => ?_) hs hw
  rw [h1]
  exact thn (hg pins s1 σ H1 x v _ I1 r1 q1) fun _ s2 q => q
theorem ps_set {i : Nat} {x : Str} {e : Expr} {te : TE} {pos' : Pos} (hN : X.N.Nodup) (hi : X.N[i]? = some x) (hx : Loc X.env.scope x) (he : PE X e te) (hs : swapsWith e (some (.Name x pos')) pos.line X.env = pure false := by rfl) (hf : X.fn x = true ∨ X.env.scope.names.lookup x = some .local := by first | exact .inl rfl | exact .inr rfl | assumption) :
    PS X (.Assign [.Name x pos'] e pos) (tAsg te (gName i)) := by
  intro pins s σ H D I h
  refine wpAny_Assign_Name (thn (he pins s σ H _ I h) fun v s1 ⟨y, H1, I1, r1, q1⟩ => ?_) hs
  exact store_ok I1 hN hi hx r1 (fun s2 I2 => ⟨_, H1, I2, q1⟩) hf
end
section
variable {X : Cx} {pos : Pos}
end
structure It where
  go : Nat → Hp → Prop
  yld : Nat → Hp → V → Hp → Prop
  stop : Nat → Hp → Prop
def FpOk (X : Cx) (pins : List (Addr × Obj)) (H : Hp) (b : Addr) : Prop :=
  H b = none ∧ b ≠ X.env.locals ∧ b ∉ X.fs ∧ (b ∈ X.ex ∨ X.s₀.heap.objs.size ≤ b) ∧ (∀ x c, X.env.cells.lookup x = some c → c ≠ b) ∧ ∀ p ∈ X.pn ++ pins, p.1 ≠ b
theorem Inv.fpOk {X : Cx} {pins : List (Addr × Obj)} {σ : St} {H H' : Hp} {s : Shared} {b : Addr} (I : Inv X pins σ H s) (hb : s.heap.objs.size ≤ b) (hn : H' b = none) : FpOk X pins H' b := by
  refine ⟨hn, Nat.ne_of_gt (Nat.lt_of_lt_of_le I.lt hb), I.nofs hb, .inr (Nat.le_trans I.sz hb), fun x c e z => ?_, fun p hp z => ?_⟩
  · obtain ⟨v, q⟩ := I.cell x c e
    exact absurd (Nat.lt_of_lt_of_le q.lt (by rw [z]; exact hb)) (Nat.lt_irrefl _)
  · exact absurd (Nat.lt_of_lt_of_le (Heap.lt_size (I.pin p hp).1) (by rw [z]; exact hb)) (Nat.lt_irrefl _)
structure Turn (P : Program) (w : World) (K : PySem.W.Frag) (tg : Expr) (J : It) (fp : List Addr) (it : Addr) (tn : Nat → Heap → Prop) : Prop where
  mem : it ∈ fp
  obj : ∀ i h, tn i h → ∀ b ∈ fp, ∃ o, h.get? b = some o ∧ ∀ v, o.data ≠ .cell v
  keep : ∀ i h h', tn i h → (∀ b ∈ fp, ∀ o, h.get? b = some o → h'.get? b = some o) → tn i h'
  item : ∀ (X : Cx), X.prog = P → X.w = w → X.K = K → X.calm = true → ∀ (i : Nat) (pins : List (Addr × Obj)) (s : Shared) (σ : St) (H : Hp) (E : Value → Shared → Prop), Inv X pins σ H s → (∀ b ∈ fp, FpOk X pins H b) → tn i s.heap → J.go i H →
    wpAny (model P w) X.A (pyNext (.ref it)) (fun r s1 => ∃ u, r = some u ∧
      wpAny (model P w) X.A (letOwnedTupleGo tg (.ref it) u) (fun _ s2 => ∃ x H', Inv X pins σ H' s2 ∧ RelV x u ∧ J.yld i H x H' ∧ tn (i + 1) s2.heap ∧ ∀ b ∈ fp, H' b = none) E s1) E s
  done : ∀ (X : Cx), X.prog = P → X.w = w → X.K = K → X.calm = true → ∀ (i : Nat) (pins : List (Addr × Obj)) (s : Shared) (σ : St) (H : Hp) (E : Value → Shared → Prop), Inv X pins σ H s → (∀ b ∈ fp, FpOk X pins H b) → tn i s.heap → J.stop i H →
    wpAny (model P w) X.A (pyNext (.ref it)) (fun r s1 => r = none ∧ Inv X pins σ H s1) E s
  self : ∀ (A : Around) (i : Nat) (s : Shared) (Q : Value → Shared → Prop) (E : Value → Shared → Prop), tn i s.heap → Q (.ref it) s → wpAny (model P w) A (pyIter (.ref it)) Q E s
abbrev TI := St → Hp → (It → Hp → Prop) → Prop
def PIE (X : Cx) (pins : List (Addr × Obj)) (σ : St) (tg : Expr) (R : It → Hp → Prop) (itv : Value) (s2 : Shared) : Prop :=
  ∃ (it : Addr) (fp : List Addr) (tn : Nat → Heap → Prop) (J : It) (H' : Hp), itv = .ref it ∧ Inv X pins σ H' s2 ∧ Turn X.prog X.w X.K tg J fp it tn ∧ tn 0 s2.heap ∧ (∀ b ∈ fp, FpOk X pins H' b) ∧ R J H'
def PI (X : Cx) (tg iter : Expr) (wi : TI) : Prop :=
  ∀ (pins : List (Addr × Obj)) (s : Shared) (σ : St) (H : Hp) (R : It → Hp → Prop), Inv X pins σ H s → wi σ H R →
    wpAny (model X.prog X.w) X.A (eval iter X.env) (fun v s1 => wpAny (model X.prog X.w) X.A (pyIter v) (PIE X pins σ tg R) X.xe s1) X.xe s
theorem go_of {M : Model} {A : Around} {E : Value → Shared → Prop} {s : Shared} {tg : Expr} {it : Addr} {u : Value} {o : Obj} {n : String} {vs : Array Value} {Q : Unit → Shared → Prop} (ho : s.heap.get? it = some o) (hc : o.cls = .type n) (hd : o.data = .fields vs)
    (hn : ["enumerate", "zip", "dict_itemiterator", "dict_reverseitemiterator", "odict_iterator", "itertools.zip_longest", "itertools.pairwise"].contains n = false) (hQ : Q () s) : wpAny M A (letOwnedTupleGo tg (.ref it) u) Q E s := by
  unfold letOwnedTupleGo
  cases tg <;> first
    | exact wpAny_pure hQ
    | (cases u <;> first
        | exact wpAny_pure hQ
        | (refine wpAny_bind (wpAny_load ho ?_)
           rw [hc, hd]
           show wpAny M A (if (["enumerate", "zip", "dict_itemiterator", "dict_reverseitemiterator", "odict_iterator", "itertools.zip_longest", "itertools.pairwise"].contains n && vs[0]? == some (rawInt _)) = true then _ else _) Q E s
           rw [if_neg (by intro h; rw [hn, Bool.false_and] at h; cases h)]
           exact wpAny_pure hQ))
def Itl (K : PySem.W.Frag) (a : Addr) : It :=
  ⟨fun i H => ∃ xs x, SqL K H a xs ∧ xs[i]? = some x, fun i H x H' => H' = H ∧ ∀ xs, SqL K H a xs → xs[i]? = some x, fun i H => ∃ xs, SqL K H a xs ∧ xs.length ≤ i⟩
def Itr (lo : Int) (n : Nat) : It := ⟨fun i _ => i < n, fun i H x H' => H' = H ∧ x = .int (lo + i), fun i _ => n ≤ i⟩
theorem turn_list {P : Program} {w : World} {K : PySem.W.Frag} {tg : Expr} (a it : Addr) : Turn P w K tg (Itl K a) [it] it (fun i h => h.IsListIter it a i) where
  mem := by simp
  obj := fun i h st b hb => by
    have e : b = it := by simpa using hb
    subst e
    obtain ⟨o, e, c, d⟩ := st
    exact ⟨o, e, fun v z => by rw [d] at z; cases z⟩
  keep := fun i h h' st k => st.at fun o e => k it (by simp) o e
  item := by
    intro X hP hw hK hc i pins s σ H E I hf st hg
    subst hP hw hK
    obtain ⟨xs, x, hq, hx⟩ := hg
    obtain ⟨its, rv, p, hz⟩ := I.list hq
    obtain ⟨u, hu, ru⟩ := rv.get hx
    obtain ⟨f0, f1, f2, f3, f4, f5⟩ := hf it (by simp)
    refine wpAny_pyNext_list_item st p.isList (x := u) (by simpa using hu) fun h' st' sb => ?_
    have I1 : Inv X pins σ H { s with heap := h' } := I.turned (t' := s.toks) (fun b o hb e => (sb.2 b hb).trans e) f0 f1 f3 f4 f5
    obtain ⟨o, e, c, d⟩ := id st'
    exact ⟨u, rfl, go_of (s := { s with heap := h' }) e c d (by decide) ⟨x, H, I1, ru, ⟨rfl, fun ys hy => by rw [I.list_inj hy hq]; exact hx⟩, st', fun b hb => (hf b hb).1⟩⟩
  done := by
    intro X hP hw hK hc i pins s σ H E I hf st hg
    subst hP hw hK
    obtain ⟨xs, hq, hx⟩ := hg
    obtain ⟨its, rv, p, hz⟩ := I.list hq
    obtain ⟨f0, f1, f2, f3, f4, f5⟩ := hf it (by simp)
    have hl := rv.length
    exact wpAny_pyNext_list_end (I.ok.hd hc) st p.isList (by simp; omega) fun h' eb => ⟨rfl, I.turned (t' := s.toks) (fun b o hb e => eb b o hb e) f0 f1 f3 f4 f5⟩
  self := fun _ _ _ _ _ st h => wpAny_pyIter_listiter st h
theorem turn_range {P : Program} {w : World} {K : PySem.W.Frag} {tg : Expr} (it : Addr) (lo : Int) (n : Nat) : Turn P w K tg (Itr lo n) [it] it (fun i h => IsRangeIter h it (lo + (i : Nat) * 1) ((n : Int) - (i : Nat)) 1) where
  mem := by simp
  obj := fun i h st b hb => by
    have e : b = it := by simpa using hb
    subst e
    exact ⟨_, st, fun v z => by
      have z' : Data.fields _ = Data.cell v := z
      cases z'⟩
  keep := fun i h h' st k => k it (by simp) _ st
  item := by
    intro X hP hw hK hc i pins s σ H E I hf st hg
    subst hP hw hK
    obtain ⟨f0, f1, f2, f3, f4, f5⟩ := hf it (by simp)
    have W := Walks.range (prog := X.prog) (w := X.w) (I.ok.hd hc) it lo 1 n
    refine W.item i s _ _ hg st fun v h' tk hv st' kk => ?_
    obtain ⟨t, rfl⟩ := hv
    have I1 : Inv X pins σ H { s with heap := h', toks := tk } := I.turned (fun b o hb e => kk b o (by simpa using hb) e) f0 f1 f3 f4 f5
    refine ⟨_, rfl, go_of (s := { s with heap := h', toks := tk }) (n := "range_iterator") st' rfl rfl (by decide) ⟨.int (lo + i), H, I1, ⟨t, ?_⟩, ⟨rfl, rfl⟩, st', fun b hb => (hf b hb).1⟩⟩
    rw [Int.mul_one]
  done := by
    intro X hP hw hK hc i pins s σ H E I hf st hg
    subst hP hw hK
    obtain ⟨f0, f1, f2, f3, f4, f5⟩ := hf it (by simp)
    exact wpAny_pyNext_range_end (I.ok.hd hc) st (by have : n ≤ i := hg; omega) fun h' eb => ⟨rfl, I.turned (t' := s.toks) (fun b o hb e => eb b o hb e) f0 f1 f3 f4 f5⟩
  self := fun _ _ _ _ _ st h => wpAny_pyIter_rangeiter st h
end L2
namespace L2
open PySem PySem.Spec PyProof.Rows
section
variable {X : Cx} {tg : Expr}
def iList (K : PySem.W.Frag) (tl : TE) : TI := fun σ H R => tl σ H fun x H1 => ∃ a, x = .ref a ∧ (∃ xs, SqL K H1 a xs) ∧ R (Itl K a) H1
theorem pi_list {l : Expr} {tl : TE} (hl : PE X l tl) : PI X tg l (iList X.K tl) := by
  intro pins s σ H R I h
  refine thn (hl pins s σ H _ I h) fun v s1 ⟨x, H1, I1, r1, q1⟩ => ?_
  obtain ⟨a, e, ⟨xs, hq⟩, q⟩ := q1
  subst e
  cases r1
  obtain ⟨its, rv, p, hz⟩ := I1.list hq
  refine wpAny_pyIter_list p.isList ?_
  refine ⟨s1.heap.objs.size, [s1.heap.objs.size], _, _, H1, rfl, I1.kept (t' := s1.toks) fun b o e => Heap.get?_push_of_some _ e, turn_list a _, ⟨_, Heap.get?_push_size _ rfl, rfl, rfl⟩, fun b hb => ?_, q⟩
  have e : b = s1.heap.objs.size := by simpa using hb
  subst e
  exact I1.fpOk (Nat.le_refl _) (I1.hok.fresh (Nat.le_refl _))
theorem range_it {pins : List (Addr × Obj)} {σ : St} {H : Hp} {s : Shared} {R : It → Hp → Prop} {E : Value → Shared → Prop} {lo hi : Int} {t u v : Tok} {tk : Nat} (I : Inv X pins σ H s) (h1 : -(2 ^ 62) ≤ lo) (h2 : lo < 2 ^ 62) (h3 : -(2 ^ 62) ≤ hi) (h4 : hi < 2 ^ 62)
    (q : R (Itr lo (hi - lo).toNat) H) : wpAny (model X.prog X.w) X.A (pyIter (.ref s.heap.objs.size)) (PIE X pins σ tg R) E { s with heap := s.heap.push { cls := .type "range", data := .fields #[.int lo t, .int hi u, .int 1 v] }, toks := tk } := by
  refine wpAny_pyIter_range (IsRange.new ..) (small_one h1 h2 h3 h4) ?_
  have I1 : Inv X pins σ H { s with heap := s.heap.push { cls := .type "range", data := .fields #[.int lo t, .int hi u, .int 1 v] }, toks := tk } := I.kept fun b o e => Heap.get?_push_of_some _ e
  refine ⟨(s.heap.push { cls := .type "range", data := .fields #[.int lo t, .int hi u, .int 1 v] }).objs.size, [(s.heap.push { cls := .type "range", data := .fields #[.int lo t, .int hi u, .int 1 v] }).objs.size], _, _, H, rfl,
    I1.kept (t' := tk) fun b o e => Heap.get?_push_of_some _ e, turn_range _ lo (hi - lo).toNat, ?_, fun b hb => ?_, q⟩
  · have e1 : lo + ((0 : Nat) : Int) * 1 = lo := by simp
    have e2 : (((hi - lo).toNat : Nat) : Int) - ((0 : Nat) : Int) = Builtin.Range.rangeSize lo hi 1 := by rw [rangeSize_one]; split <;> omega
    show IsRangeIter _ _ (lo + ((0 : Nat) : Int) * 1) ((((hi - lo).toNat : Nat) : Int) - ((0 : Nat) : Int)) 1
    rw [e1, e2]
    exact Heap.get?_push_size _ rfl
  · have e : b = (s.heap.push { cls := .type "range", data := .fields #[.int lo t, .int hi u, .int 1 v] }).objs.size := by simpa using hb
    subst e
    exact I1.fpOk (Nat.le_refl _) (I1.hok.fresh (Nat.le_refl _))
def iRng1 (ta : TA) : TI := fun σ H R => ta σ H fun vs H1 => ∃ j : Int, vs = [.int j] ∧ -(2 ^ 62) ≤ j ∧ j < 2 ^ 62 ∧ R (Itr 0 j.toNat) H1
theorem pi_range1 {a : Expr} {ta : TA} {p pos : Pos} (hg : Gl X "range") (hm : X.mg "range" = none) (ha : PA X [a] ta) (hs : starEach [a] X.env = [(false, eval a X.env)] := by rfl) : PI X tg (.Call (.Name "range" p) [a] [] pos) (iRng1 ta) := by
  intro pins s σ H R I h
  refine Call_ (ld_blt I hg hm boot_range (PyProof.Rows.callWith_type1 (thn (ha pos pins s σ H _ I h) fun us s1 ⟨vs, H1, I1, r1, q1⟩ => ?_) hs rfl))
  obtain ⟨j, e, q1, q2, q⟩ := q1
  subst e
  cases r1 with
  | cons r rr =>
    cases rr
    obtain ⟨t, rfl⟩ := r
    exact call_range_1 (range_it I1 (by omega) (by omega) q1 q2 (by simpa using q))
def tFor (wi : TI) (g : TG) (tb : TS) : TS := fun D σ H => wi σ H fun J H1 => ∃ W : Nat → Nat → St → Hp → Prop, (∃ m, W 0 m σ H1) ∧ ∀ i m σ H, W i m σ H →
  (J.stop i H ∧ D.nx σ H) ∨ (J.go i H ∧ ∃ N : St → Hp → Prop, (∀ σ' H', N σ' H' → ∃ m', m' < m ∧ W (i + 1) m' σ' H') ∧ ∀ x H', J.yld i H x H' → g x σ H' fun σ2 H2 => tb { D with nx := N, ct := N, bk := D.nx } σ2 H2)
def pinsAt (fp : List Addr) (h : Heap) : List (Addr × Obj) := fp.filterMap fun b => (h.get? b).map fun o => (b, o)
theorem mem_pinsAt {fp : List Addr} {h : Heap} {b : Addr} {o : Obj} (hb : b ∈ fp) (e : h.get? b = some o) : (b, o) ∈ pinsAt fp h := List.mem_filterMap.mpr ⟨b, hb, by rw [e]; rfl⟩
theorem of_pinsAt {fp : List Addr} {h : Heap} {p : Addr × Obj} (hp : p ∈ pinsAt fp h) : p.1 ∈ fp ∧ h.get? p.1 = some p.2 := by
  obtain ⟨b, hb, e⟩ := List.mem_filterMap.mp hp
  cases q : h.get? b with
  | none => rw [q] at e; cases e
  | some o =>
    rw [q] at e
    have e' : (b, o) = p := Option.some.inj e
    subst e'
    exact ⟨hb, q⟩
theorem Inv.pinned {pins : List (Addr × Obj)} {σ : St} {H : Hp} {s : Shared} {fp : List Addr} (I : Inv X pins σ H s) (hf : ∀ b ∈ fp, FpOk X pins H b) (ho : ∀ b ∈ fp, ∃ o, s.heap.get? b = some o ∧ ∀ v, o.data ≠ .cell v) : Inv X (pins ++ pinsAt fp s.heap) σ H s :=
  I.pins_of fun p hp => (List.mem_append.mp hp).elim (fun z => I.pin p (List.mem_append_right _ z)) fun z => by
    obtain ⟨hb, e⟩ := of_pinsAt z
    obtain ⟨f0, f1, f2, _⟩ := hf p.1 hb
    obtain ⟨o, e', d⟩ := ho p.1 hb
    rw [e] at e'; cases e'
    exact ⟨e, f0, f1, f2, d⟩
theorem Inv.unpinned {pins pl : List (Addr × Obj)} {σ : St} {H : Hp} {s : Shared} (I : Inv X (pins ++ pl) σ H s) : Inv X pins σ H s := I.pins_of fun p hp => I.pin p (List.mem_append_right _ (List.mem_append_left _ hp))
theorem ps_for {iter : Expr} {body : List Stmt} {wi : TI} {g : TG} {tb : TS} {pos : Pos} (hp : PassesOwn (model X.prog X.w) X.A X.env X.xe) (hc : X.calm = true) (hi : PI X tg iter wi) (hg : PG X tg g) (hb : PSs X body tb)
    (hs : ∀ x, foldedSetIterable iter X.env x = pure x := by intro _; rfl) : PS X (.For tg iter body [] pos) (tFor wi g tb) := by
  intro pins s σ H D I h
  refine wpAny_For (thn (hi pins s σ H _ I h) fun v s1 h1 => thn h1 fun itv s2 h2 => ?_) hs
  obtain ⟨it, fp, tn, J, H2, e, I2, T, st2, f2, W, ⟨m0, w0⟩, turn⟩ := h2
  subst e
  have stat : ∀ {H' : Hp}, (∀ b ∈ fp, H' b = none) → ∀ b ∈ fp, FpOk X pins H' b := fun hn b hb => ⟨hn b hb, (f2 b hb).2⟩
  refine codeAny_forLoop_any (fun n s' => ∃ i σ' H', Inv X pins σ' H' s' ∧ tn i s'.heap ∧ (∀ b ∈ fp, H' b = none) ∧ W i n σ' H') ?_ m0 ⟨0, σ, H2, I2, st2, fun b hb => (f2 b hb).1, w0⟩
  rintro n s3 ⟨i, σ3, H3, I3, st3, fr3, w3⟩
  rcases turn i n σ3 H3 w3 with ⟨stop, qn⟩ | ⟨go, N, hN, step⟩
  · refine wpAny_passesOwn hp (thn (T.done X rfl rfl rfl hc i pins s3 σ3 H3 X.xe I3 (stat fr3) st3 stop) fun r s4 ⟨hr, I4⟩ => ?_)
    subst hr
    exact wpAny_execs_nil ⟨σ3, H3, I4, qn⟩
  · refine wpAny_passesOwn hp (thn (T.item X rfl rfl rfl hc i pins s3 σ3 H3 X.xe I3 (stat fr3) st3 go) fun r s4 ⟨u, hr, h4⟩ => ?_)
    subst hr
    refine wpAny_passesOwn hp (thn h4 fun _ s5 ⟨x, H5, I5, r5, y5, st5, fr5⟩ => ?_)
    have I5' := I5.pinned (stat fr5) (T.obj _ _ st5)
    refine wpAny_passesOwn hp (thn (hg _ s5 σ3 H5 x u _ I5' r5 (step x H5 y5)) fun _ s6 ⟨σ6, H6, I6, q6⟩ => ?_)
    refine wpAny_passesOwn hp (thn (hb _ s6 σ6 H6 _ I6 q6) fun f s7 q7 => ?_)
    have again : ∀ {σ7 : St} {H7 : Hp}, Inv X (pins ++ pinsAt fp s5.heap) σ7 H7 s7 → N σ7 H7 → ∃ m, m < n ∧ ∃ i σ' H', Inv X pins σ' H' s7 ∧ tn i s7.heap ∧ (∀ b ∈ fp, H' b = none) ∧ W i m σ' H' := fun {σ7 H7} I7 n7 => by
      obtain ⟨m', hm, w7⟩ := hN σ7 H7 n7
      refine ⟨m', hm, i + 1, σ7, H7, I7.unpinned, T.keep _ _ _ st5 fun b hb o e => (I7.pin (b, o) (List.mem_append_right _ (List.mem_append_right _ (mem_pinsAt hb e)))).1, fun b hb => ?_, w7⟩
      obtain ⟨o, e, d⟩ := T.obj _ _ st5 b hb
      exact (I7.pin (b, o) (List.mem_append_right _ (List.mem_append_right _ (mem_pinsAt hb e)))).2.1
    cases f with
    | next => obtain ⟨σ7, H7, I7, n7⟩ := q7; exact again I7 n7
    | cont => obtain ⟨σ7, H7, I7, n7⟩ := q7; exact again I7 n7
    | brk => obtain ⟨σ7, H7, I7, q7⟩ := q7; exact ⟨σ7, H7, I7.unpinned, q7⟩
    | ret v => obtain ⟨x7, σ7, H7, I7, r7, q7⟩ := q7; exact ⟨x7, σ7, H7, I7.unpinned, r7, q7⟩
end
theorem for_list {K : PySem.W.Frag} {a : Addr} {xs : List V} {g : TG} {tb : TS} {D : Ends} {σ : St} {H : Hp} (Pv : Nat → St → Hp → Prop) (h0 : Pv 0 σ H) (hl : ∀ i σ H, i ≤ xs.length → Pv i σ H → SqL K H a xs)
    (hs : ∀ i x σ H, xs[i]? = some x → Pv i σ H → g x σ H fun σ2 H2 => tb { D with nx := Pv (i + 1), ct := Pv (i + 1), bk := D.nx } σ2 H2) (hd : ∀ σ H, Pv xs.length σ H → D.nx σ H) :
    ∃ W : Nat → Nat → St → Hp → Prop, (∃ m, W 0 m σ H) ∧ ∀ i m σ H, W i m σ H →
      ((Itl K a).stop i H ∧ D.nx σ H) ∨ ((Itl K a).go i H ∧ ∃ N : St → Hp → Prop, (∀ σ' H', N σ' H' → ∃ m', m' < m ∧ W (i + 1) m' σ' H') ∧ ∀ x H', (Itl K a).yld i H x H' → g x σ H' fun σ2 H2 => tb { D with nx := N, ct := N, bk := D.nx } σ2 H2) := by
  refine ⟨fun i m σ H => m = xs.length - i ∧ i ≤ xs.length ∧ Pv i σ H, ⟨xs.length, by simp, Nat.zero_le _, h0⟩, ?_⟩
  rintro i m σ H ⟨rfl, hi, p⟩
  have q := hl i σ H hi p
  by_cases hlt : i < xs.length
  · refine .inr ⟨⟨xs, xs[i], q, by simp [hlt]⟩, Pv (i + 1), fun σ' H' p' => ⟨xs.length - (i + 1), by omega, rfl, hlt, p'⟩, fun x H' y => ?_⟩
    obtain ⟨e, y⟩ := y
    subst e
    exact hs i x σ _ (y xs q) p
  · have e : i = xs.length := by omega
    subst e
    exact .inl ⟨⟨xs, q, Nat.le_refl _⟩, hd σ H p⟩
theorem for_range {lo : Int} {n : Nat} {g : TG} {tb : TS} {D : Ends} {σ : St} {H : Hp} (Pv : Nat → St → Hp → Prop) (h0 : Pv 0 σ H)
    (hs : ∀ i σ H, i < n → Pv i σ H → g (.int (lo + i)) σ H fun σ2 H2 => tb { D with nx := Pv (i + 1), ct := Pv (i + 1), bk := D.nx } σ2 H2) (hd : ∀ σ H, Pv n σ H → D.nx σ H) :
    ∃ W : Nat → Nat → St → Hp → Prop, (∃ m, W 0 m σ H) ∧ ∀ i m σ H, W i m σ H →
      ((Itr lo n).stop i H ∧ D.nx σ H) ∨ ((Itr lo n).go i H ∧ ∃ N : St → Hp → Prop, (∀ σ' H', N σ' H' → ∃ m', m' < m ∧ W (i + 1) m' σ' H') ∧ ∀ x H', (Itr lo n).yld i H x H' → g x σ H' fun σ2 H2 => tb { D with nx := N, ct := N, bk := D.nx } σ2 H2) := by
  refine ⟨fun i m σ H => m = n - i ∧ i ≤ n ∧ Pv i σ H, ⟨n, by simp, Nat.zero_le _, h0⟩, ?_⟩
  rintro i m σ H ⟨rfl, hi, p⟩
  by_cases hlt : i < n
  · refine .inr ⟨hlt, Pv (i + 1), fun σ' H' p' => ⟨n - (i + 1), by omega, rfl, hlt, p'⟩, fun x H' y => ?_⟩
    obtain ⟨e, y⟩ := y
    subst e y
    exact hs i σ _ hlt p
  · have e : i = n := by omega
    subst e
    exact .inl ⟨Nat.le_refl _, hd σ H p⟩
end L2
namespace L2
open PySem PySem.Spec PyProof.Rows
abbrev R2 := V → V → Hp → VK → Prop
def OpR (X : Cx) (f : Value → Value → Sem Value) (r : R2) : Prop :=
  ∀ (pins : List (Addr × Obj)) (s : Shared) (σ : St) (H : Hp) (x y : V) (v u : Value) (Q : VK), Inv X pins σ H s → RelV x v → RelV y u → r x y H Q →
    wpAny (model X.prog X.w) X.A (f v u) (EP X pins σ Q) X.xe s
def CallR (X : Cx) (f : Value) (r : List V → Hp → VK → Prop) : Prop :=
  ∀ (pins : List (Addr × Obj)) (s : Shared) (σ : St) (H : Hp) (xs : List V) (us : List Value) (Q : VK), Inv X pins σ H s → Vals xs us → r xs H Q →
    wpAny (model X.prog X.w) X.A (call f us) (EP X pins σ Q) X.xe s
def tOp (r : R2) (ta tb : TE) : TE := fun σ H Q => ta σ H fun x H1 => tb σ H1 fun y H2 => r x y H2 Q
def rI (C : Int → Int → Prop) (g : Int → Int → V) : R2 := fun x y H Q => ∃ i j, x = .int i ∧ y = .int j ∧ C i j ∧ Q (g i j) H
def rI0 (g : Int → Int → V) : R2 := fun x y H Q => ∃ i j, x = .int i ∧ y = .int j ∧ Q (g i j) H
section
variable {X : Cx} {a b c : Expr} {ta tb tc : TE} {pos : Pos}
theorem binT (ha : PE X a ta) (hb : PE X b tb) {pins : List (Addr × Obj)} {s : Shared} {σ : St} {H : Hp} {R : V → V → Hp → Prop} (I : Inv X pins σ H s)
    (h : ta σ H fun x H1 => tb σ H1 fun y H2 => R x y H2) {Q : Value → Shared → Prop} {f : Value → Value → Sem Value}
    (hf : ∀ v u s2 x y H2, Inv X pins σ H2 s2 → RelV x v → RelV y u → R x y H2 → wpAny (model X.prog X.w) X.A (f v u) Q X.xe s2) :
    wpAny (model X.prog X.w) X.A (eval a X.env) (fun v s₁ => wpAny (model X.prog X.w) X.A (eval b X.env) (fun u s₂ => wpAny (model X.prog X.w) X.A (f v u) Q X.xe s₂) X.xe s₁) X.xe s := by
  refine thn (ha pins s σ H _ I h) fun v s1 ⟨x, H1, I1, r1, q1⟩ => ?_
  refine thn (hb pins s1 σ H1 _ I1 q1) fun u s2 ⟨y, H2, I2, r2, q2⟩ => ?_
  exact hf v u s2 x y H2 I2 r1 r2 q2
theorem pe_op {op : Operator} {r : R2} (ho : OpR X (binaryOp op) r) (ha : PE X a ta) (hb : PE X b tb) : PE X (.BinOp a op b pos) (tOp r ta tb) := by
  intro pins s σ H Q I h
  exact wpAny_BinOp (binT ha hb I h fun v u s2 x y H2 I2 rx ry q => ho pins s2 σ H2 x y v u Q I2 rx ry q)
theorem opI {f : Value → Value → Sem Value} {C : Int → Int → Prop} {g : Int → Int → Int}
    (rule : ∀ (i j : Int) (t u : Tok) (s : Shared) (Q : Value → Shared → Prop) (E : Value → Shared → Prop), C i j → Q (.int (g i j) s.toks) { s with toks := s.toks + 1 } → wpAny (model X.prog X.w) X.A (f (.int i t) (.int j u)) Q E s) :
    OpR X f (rI C fun i j => .int (g i j)) := by
  intro pins s σ H x y v u Q I rx ry h
  obtain ⟨i, j, rfl, rfl, hc, q⟩ := h
  obtain ⟨t, rfl⟩ := rx
  obtain ⟨t', rfl⟩ := ry
  exact rule i j t t' s _ _ hc ⟨.int (g i j), H, I.tok _, ⟨_, rfl⟩, q⟩
theorem opI0 {f : Value → Value → Sem Value} {g : Int → Int → Int}
    (rule : ∀ (i j : Int) (t u : Tok) (s : Shared) (Q : Value → Shared → Prop) (E : Value → Shared → Prop), Q (.int (g i j) s.toks) { s with toks := s.toks + 1 } → wpAny (model X.prog X.w) X.A (f (.int i t) (.int j u)) Q E s) :
    OpR X f (rI0 fun i j => .int (g i j)) := by
  intro pins s σ H x y v u Q I rx ry h
  obtain ⟨i, j, rfl, rfl, q⟩ := h
  obtain ⟨t, rfl⟩ := rx
  obtain ⟨t', rfl⟩ := ry
  exact rule i j t t' s _ _ ⟨.int (g i j), H, I.tok _, ⟨_, rfl⟩, q⟩
theorem opB0 {f : Value → Value → Sem Value} {g : Int → Int → Bool}
    (rule : ∀ (i j : Int) (t u : Tok) (s : Shared) (Q : Value → Shared → Prop) (E : Value → Shared → Prop), Q (.bool (g i j)) s → wpAny (model X.prog X.w) X.A (f (.int i t) (.int j u)) Q E s) :
    OpR X f (rI0 fun i j => .bl (g i j)) := by
  intro pins s σ H x y v u Q I rx ry h
  obtain ⟨i, j, rfl, rfl, q⟩ := h
  obtain ⟨t, rfl⟩ := rx
  obtain ⟨t', rfl⟩ := ry
  exact rule i j t t' s _ _ ⟨.bl (g i j), H, I, rfl, q⟩
def CDiv (i j : Int) : Prop := 0 < j ∧ j < 1073741824
def CPow (i j : Int) : Prop := 0 ≤ j ∧ j ≤ 1000000 ∧ i.natAbs < 2 ^ 64
def CMul (i j : Int) : Prop := (-(2 ^ 64) < i ∧ i < 2 ^ 64) ∨ (-(2 ^ 64) < j ∧ j < 2 ^ 64)
theorem CMul.ok {i j : Int} (h : CMul i j) : IntMulOk i j := by
  rcases h with ⟨h1, h2⟩ | ⟨h1, h2⟩
  · exact .of_left (intBits_le_64 h1 h2)
  · exact .of_right (intBits_le_64 h1 h2)
theorem op_add : OpR X (binaryOp .Add) (rI0 fun i j => .int (i + j)) := opI0 fun _ _ _ _ _ _ _ q => add_int q
theorem op_sub : OpR X (binaryOp .Sub) (rI0 fun i j => .int (i - j)) := opI0 fun _ _ _ _ _ _ _ q => sub_int q
theorem op_mul : OpR X (binaryOp .Mult) (rI CMul fun i j => .int (i * j)) := opI fun _ _ _ _ _ _ _ hc q => mul_int q hc.ok
theorem op_fdiv : OpR X (binaryOp .FloorDiv) (rI CDiv fun i j => .int (i / j)) := opI fun i j _ _ _ _ _ hc q => by
  have h1 : (0 : Int) < j := hc.1
  have h2 : j < 1073741824 := hc.2
  exact floordiv_int (by omega) (by rw [Int.fdiv_eq_ediv_of_nonneg i (by omega)]; exact q) (.inl (PyProof.noPylong_small (by omega)))
theorem op_mod : OpR X (binaryOp .Mod) (rI (fun _ j => 0 < j) fun i j => .int (i % j)) := opI fun i j _ _ _ _ _ hc q => by
  have h1 : (0 : Int) < j := hc
  exact mod_int' (by omega) (by rw [Int.fmod_eq_emod_of_nonneg i (by omega)]; exact q)
theorem op_pow : OpR X (binaryOp .Pow) (rI CPow fun i j => .int (i ^ j.toNat)) := opI fun _ _ _ _ _ _ _ hc q => pow_int_small hc.1 hc.2.1 hc.2.2 q
end
def scal : V → V → Bool
  | .non, .non => true | .non, .int _ => true | .int _, .non => true | .non, .bl _ => true | .bl _, .non => true | .non, .str _ => true | .str _, .non => true
  | .int _, .int _ => true | .bl _, .bl _ => true | .str _, .str _ => true | .byt _, .byt _ => true
  | .int _, .str _ => true | .str _, .int _ => true | .bl _, .str _ => true | .str _, .bl _ => true
  | _, _ => false
def rEq : R2 := fun x y H Q => scal x y = true ∧ Q (.bl (decide (x = y))) H
def rNe : R2 := fun x y H Q => scal x y = true ∧ Q (.bl (!decide (x = y))) H
theorem dec_int {i j : Int} : decide (V.int i = V.int j) = (i == j) := by
  rw [Bool.eq_iff_iff]
  simp
theorem dec_bl {i j : Bool} : decide (V.bl i = V.bl j) = (i == j) := by
  rw [Bool.eq_iff_iff]
  simp
theorem dec_str {i j : Str} : decide (V.str i = V.str j) = (i == j) := by
  rw [Bool.eq_iff_iff]
  simp
theorem dec_byt {i j : Array UInt8} : decide (V.byt i = V.byt j) = (i.toList == j.toList) := by
  rw [Bool.eq_iff_iff]
  cases i
  cases j
  simp
section
variable {X : Cx} {a b c : Expr} {ta tb tc : TE} {pos : Pos}
theorem fin_bl {pins : List (Addr × Obj)} {σ : St} {H : Hp} {s : Shared} {Q : VK} {k k' : Bool} (I : Inv X pins σ H s) (q : Q (.bl k) H) (e : k = k') : EP X pins σ Q (.bool k') s := by
  subst e
  exact ⟨.bl k, H, I, rfl, q⟩
theorem op_eq : OpR X (compareOp .Eq) rEq := by
  intro pins s σ H x y v u Q I rx ry h
  obtain ⟨hs, q⟩ := h
  cases x with
  | non =>
    cases rx
    cases y with
    | non => cases ry; exact PySem.EqNone.eq_none_none (fin_bl I q (by simp))
    | bl j => cases ry; exact PySem.EqNone.eq_none_bool (fin_bl I q (by simp))
    | int j => obtain ⟨t', rfl⟩ := ry; exact PySem.EqNone.eq_none_int (fin_bl I q (by simp))
    | str j => obtain ⟨t', rfl⟩ := ry; exact PySem.EqNone.eq_none_str (fin_bl I q (by simp))
    | _ => exact absurd (show false = true from hs) Bool.false_ne_true
  | bl i =>
    cases rx
    cases y with
    | non => cases ry; exact PySem.EqNone.eq_bool_none (fin_bl I q (by simp))
    | bl j => cases ry; exact eq_bool (fin_bl I q dec_bl)
    | str j => obtain ⟨t', rfl⟩ := ry; exact PySem.EqMixed.eq_bool_str (fin_bl I q (by simp))
    | _ => exact absurd (show false = true from hs) Bool.false_ne_true
  | int i =>
    obtain ⟨t, rfl⟩ := rx
    cases y with
    | non => cases ry; exact PySem.EqNone.eq_int_none (fin_bl I q (by simp))
    | int j => obtain ⟨t', rfl⟩ := ry; exact eq_int (fin_bl I q dec_int)
    | str j => obtain ⟨t', rfl⟩ := ry; exact PySem.EqMixed.eq_int_str (fin_bl I q (by simp))
    | _ => exact absurd (show false = true from hs) Bool.false_ne_true
  | str i =>
    obtain ⟨t, rfl⟩ := rx
    cases y with
    | non => cases ry; exact PySem.EqNone.eq_str_none (fin_bl I q (by simp))
    | bl j => cases ry; exact PySem.EqMixed.eq_str_bool (fin_bl I q (by simp))
    | int j => obtain ⟨t', rfl⟩ := ry; exact PySem.EqMixed.eq_str_int (fin_bl I q (by simp))
    | str j => obtain ⟨t', rfl⟩ := ry; exact eq_str (fin_bl I q dec_str)
    | _ => exact absurd (show false = true from hs) Bool.false_ne_true
  | byt i =>
    obtain ⟨t, rfl⟩ := rx
    cases y with
    | byt j => obtain ⟨t', rfl⟩ := ry; exact PySem.W.eq_bytes (fin_bl I q dec_byt)
    | _ => exact absurd (show false = true from hs) Bool.false_ne_true
  | _ => cases y <;> exact absurd (show false = true from hs) Bool.false_ne_true
theorem op_ne : OpR X (compareOp .NotEq) rNe := by
  intro pins s σ H x y v u Q I rx ry h
  obtain ⟨hs, q⟩ := h
  cases x with
  | non =>
    cases rx
    cases y with
    | non => cases ry; exact PySem.EqNone.ne_none_none (fin_bl I q (by simp))
    | bl j => cases ry; exact PySem.EqNone.ne_none_bool (fin_bl I q (by simp))
    | int j => obtain ⟨t', rfl⟩ := ry; exact PySem.EqNone.ne_none_int (fin_bl I q (by simp))
    | str j => obtain ⟨t', rfl⟩ := ry; exact PySem.EqNone.ne_none_str (fin_bl I q (by simp))
    | _ => exact absurd (show false = true from hs) Bool.false_ne_true
  | bl i =>
    cases rx
    cases y with
    | non => cases ry; exact PySem.EqNone.ne_bool_none (fin_bl I q (by simp))
    | bl j => cases ry; exact ne_bool (fin_bl I q (congrArg not dec_bl))
    | str j => obtain ⟨t', rfl⟩ := ry; exact PySem.EqMixed.ne_bool_str (fin_bl I q (by simp))
    | _ => exact absurd (show false = true from hs) Bool.false_ne_true
  | int i =>
    obtain ⟨t, rfl⟩ := rx
    cases y with
    | non => cases ry; exact PySem.EqNone.ne_int_none (fin_bl I q (by simp))
    | int j => obtain ⟨t', rfl⟩ := ry; exact ne_int (fin_bl I q (congrArg not dec_int))
    | str j => obtain ⟨t', rfl⟩ := ry; exact PySem.EqMixed.ne_int_str (fin_bl I q (by simp))
    | _ => exact absurd (show false = true from hs) Bool.false_ne_true
  | str i =>
    obtain ⟨t, rfl⟩ := rx
    cases y with
    | non => cases ry; exact PySem.EqNone.ne_str_none (fin_bl I q (by simp))
    | bl j => cases ry; exact PySem.EqMixed.ne_str_bool (fin_bl I q (by simp))
    | int j => obtain ⟨t', rfl⟩ := ry; exact PySem.EqMixed.ne_str_int (fin_bl I q (by simp))
    | str j => obtain ⟨t', rfl⟩ := ry; exact ne_str (fin_bl I q (congrArg not dec_str))
    | _ => exact absurd (show false = true from hs) Bool.false_ne_true
  | byt i =>
    obtain ⟨t, rfl⟩ := rx
    cases y with
    | byt j => obtain ⟨t', rfl⟩ := ry; exact PySem.W.ne_bytes (fin_bl I q (congrArg not dec_byt))
    | _ => exact absurd (show false = true from hs) Bool.false_ne_true
  | _ => cases y <;> exact absurd (show false = true from hs) Bool.false_ne_true
theorem op_lt : OpR X (compareOp .Lt) (rI0 fun i j => .bl (decide (i < j))) := opB0 fun _ _ _ _ _ _ _ q => lt_int q
theorem op_le : OpR X (compareOp .LtE) (rI0 fun i j => .bl (decide (i ≤ j))) := opB0 fun _ _ _ _ _ _ _ q => le_int q
theorem op_gt : OpR X (compareOp .Gt) (rI0 fun i j => .bl (decide (j < i))) := opB0 fun _ _ _ _ _ _ _ q => gt_int q
theorem op_notN : OpR X (compareOp .IsNot) (fun x y H Q => y = .non ∧ Q (.bl (!decide (x = .non))) H) := by
  intro pins s σ H x y v u Q I rx ry h
  obtain ⟨rfl, q⟩ := h
  cases ry
  refine isnot_none_gen (fin_bl I q ?_)
  cases x <;> first
    | (cases rx; rfl)
    | (obtain ⟨t, rfl⟩ := rx; rfl)
theorem nomark (b : Expr) {op : CmpOp} (h : op ≠ .In := by decide) (h2 : op ≠ .NotIn := by decide) : behindInMarks op b = false := by
  have e1 : (op == CmpOp.In) = false := by cases op <;> first | rfl | exact absurd rfl h
  have e2 : (op == CmpOp.NotIn) = false := by cases op <;> first | rfl | exact absurd rfl h2
  cases b <;> simp [behindInMarks, e1, e2]
theorem pe_cmpR {op : CmpOp} {r : R2} (ho : OpR X (compareOp op) r) (ha : PE X a ta) (hb : PE X b tb) (hm : behindInMarks op b = false) : PE X (.Compare a [op] [b] pos) (tOp r ta tb) := by
  intro pins s σ H Q I h
  exact wpAny_Compare1 (binT ha hb I h fun v u s2 x y H2 I2 rx ry q => ho pins s2 σ H2 x y v u Q I2 rx ry q) hm
def tTest (t : TE) : TT := fun σ H Q => t σ H fun x H' => ∃ k, x = .bl k ∧ Q k H'
theorem pt_cmpR {op : CmpOp} {r : R2} (ho : OpR X (compareOp op) r) (ha : PE X a ta) (hb : PE X b tb) (hm : behindInMarks op b = false) : PT X (.Compare a [op] [b] pos) (tTest (tOp r ta tb)) := by
  intro pins s σ H Q I h
  refine wpAny_isTrue_Compare1 (thn (ha pins s σ H _ I h) fun v s1 ⟨x, H1, I1, r1, q1⟩ => thn (hb pins s1 σ H1 _ I1 q1) fun u s2 ⟨y, H2, I2, r2, q2⟩ =>
    thn (ho pins s2 σ H2 x y v u _ I2 r1 r2 q2) fun c s3 ⟨z, H3, I3, r3, k, e, q3⟩ => ?_) hm
  subst e
  cases r3
  exact wpAny_truthy_bool ⟨H3, I3, q3⟩
def tChain (r r' : R2) (ta tb tc : TE) : TE := fun σ H Q => ta σ H fun x H1 => tb σ H1 fun y H2 => r x y H2 fun z H3 => ∃ k, z = .bl k ∧
  (if k = true then tc σ H3 fun w' H4 => r' y w' H4 Q else Q (.bl false) H3)
theorem pe_chain {op op' : CmpOp} {r r' : R2} (ho : OpR X (compareOp op) r) (ho' : OpR X (compareOp op') r') (ha : PE X a ta) (hb : PE X b tb) (hc : PE X c tc)
    (hm : lastMarks [op, op'] [b, c] = false := by with_unfolding_all rfl) : PE X (.Compare a [op, op'] [b, c] pos) (tChain r r' ta tb tc) := by
  intro pins s σ H Q I h
  refine Compare_chain (thn (ha pins s σ H _ I h) fun v s1 ⟨x, H1, I1, r1, q1⟩ => chain_link (thn (hb pins s1 σ H1 _ I1 q1) fun u s2 ⟨y, H2, I2, r2, q2⟩ =>
    thn (ho pins s2 σ H2 x y v u _ I2 r1 r2 q2) fun d s3 ⟨z, H3, I3, r3, k, e, q3⟩ => ?_)) hm
  subst e
  cases r3
  refine wpAny_truthy_bool ?_
  cases k with
  | false => exact ite_ff ⟨.bl false, H3, I3, rfl, q3⟩
  | true => exact ite_tt (chain_last (thn (hc pins s3 σ H3 _ I3 q3) fun w' s4 ⟨z', H4, I4, r4, q4⟩ => ho' pins s4 σ H4 y z' u w' Q I4 r2 r4 q4))
theorem pt_chain {op op' : CmpOp} {r r' : R2} (ho : OpR X (compareOp op) r) (ho' : OpR X (compareOp op') r') (ha : PE X a ta) (hb : PE X b tb) (hc : PE X c tc)
    (hm : lastMarks [op, op'] [b, c] = false := by with_unfolding_all rfl) : PT X (.Compare a [op, op'] [b, c] pos) (tTest (tChain r r' ta tb tc)) := by
  intro pins s σ H Q I h
  refine isTrue_chain (thn (ha pins s σ H _ I h) fun v s1 ⟨x, H1, I1, r1, q1⟩ => test_link (thn (hb pins s1 σ H1 _ I1 q1) fun u s2 ⟨y, H2, I2, r2, q2⟩ =>
    thn (ho pins s2 σ H2 x y v u _ I2 r1 r2 q2) fun d s3 ⟨z, H3, I3, r3, k, e, q3⟩ => ?_)) hm
  subst e
  cases r3
  refine wpAny_truthy_bool ?_
  cases k with
  | false =>
    obtain ⟨k', e', q'⟩ := q3
    cases e'
    exact ite_ff ⟨H3, I3, q'⟩
  | true =>
    refine ite_tt (test_last (thn (hc pins s3 σ H3 _ I3 q3) fun w' s4 ⟨z', H4, I4, r4, q4⟩ => thn (ho' pins s4 σ H4 y z' u w' _ I4 r2 r4 q4) fun d' s5 ⟨z2, H5, I5, r5, k2, e2, q5⟩ => ?_))
    subst e2
    cases r5
    exact wpAny_truthy_bool ⟨H5, I5, q5⟩
theorem line63 : (sizeLine : Nat) < 2 ^ 63 := by rw [sizeLine_eq]; decide
theorem op_add_str : OpR X (binaryOp .Add) (fun x y H Q => ∃ i j, x = .str i ∧ y = .str j ∧ i.length + j.length ≤ sizeLine ∧ Q (.str (i ++ j)) H) := by
  intro pins s σ H x y v u Q I rx ry h
  obtain ⟨i, j, rfl, rfl, hz, q⟩ := h
  obtain ⟨t, rfl⟩ := rx
  obtain ⟨t', rfl⟩ := ry
  exact add_str (fun t' tk => ⟨.str (i ++ j), H, I.tok _, ⟨_, rfl⟩, q⟩) hz
theorem vals1 {x : V} {us : List Value} (r : Vals [x] us) : ∃ u, us = [u] ∧ RelV x u := by
  cases r with
  | cons r1 r2 => cases r2; exact ⟨_, rfl, r1⟩
theorem vals2 {x y : V} {us : List Value} (r : Vals [x, y] us) : ∃ u w', us = [u, w'] ∧ RelV x u ∧ RelV y w' := by
  cases r with
  | cons r1 r2 =>
    cases r2 with
    | cons r3 r4 => cases r4; exact ⟨_, _, rfl, r1, r3⟩
theorem call_max2 (hc : X.calm = true) : CallR X (.builtin "max") (fun xs H Q => ∃ i j, xs = [.int i, .int j] ∧ Q (.int (if j > i then j else i)) H) := by
  intro pins s σ H xs us Q I r h
  obtain ⟨i, j, rfl, q⟩ := h
  obtain ⟨u, w', rfl, ⟨t, rfl⟩, ⟨t', rfl⟩⟩ := vals2 r
  refine max_two_ints (I.ok.hd hc) fun h' tk k => ⟨_, H, I.kept k, ?_, q⟩
  by_cases hj : j > i
  · rw [if_pos hj, if_pos hj]; exact ⟨_, rfl⟩
  · rw [if_neg hj, if_neg hj]; exact ⟨_, rfl⟩
theorem call_int1 : CallR X (.type "int") (fun xs H Q => (∃ i, xs = [.int i] ∧ Q (.int i) H) ∨ ∃ k, xs = [.bl k] ∧ Q (.int (if k then 1 else 0)) H) := by
  intro pins s σ H xs us Q I r h
  rcases h with ⟨i, rfl, q⟩ | ⟨k, rfl, q⟩
  · obtain ⟨u, rfl, t, rfl⟩ := vals1 r
    exact call_int_int ⟨.int i, H, I, ⟨_, rfl⟩, q⟩
  · obtain ⟨u, rfl, r1⟩ := vals1 r
    cases r1
    exact call_int_bool ⟨.int (if k then 1 else 0), H, I.tok _, ⟨_, rfl⟩, q⟩
end
end L2
namespace L2
open PySem PySem.Spec PyProof.Rows
structure ObjM (h : Heap) (x dx C : Addr) (mA : Str → Option Value) : Prop where
  obj : h.get? x = some (PySem.W.instObj C dx)
  ns : h.Ns1 dx mA
  ne : dx ≠ x
theorem lookIn_ns {h : Heap} {dx : Addr} {mA : Str → Option Value} (n : h.Ns1 dx mA) : ∃ od, h.get? dx = some od ∧ ∀ name, PySem.W.lookIn name od = some (mA name) := by
  obtain ⟨o, es, ep, ho, hd, hk, _, hm⟩ := n
  refine ⟨o, ho, fun name => ?_⟩
  have e := hm name
  unfold nsFind findBy at e
  rw [← Array.find?_toList] at e
  unfold PySem.W.lookIn
  rw [hd]
  dsimp only
  split
  · rename_i y q
    rw [q] at e
    exact congrArg some e
  · rename_i q
    rw [q] at e
    have a : es.toList.any (·.refKey) = false := by
      rw [List.any_eq_false]
      intro y hy
      obtain ⟨z, t, hkey⟩ := hk y (Array.mem_toList_iff.mp hy)
      simp [DictEntry.refKey, hkey]
    have a' : ¬ es.toList.any (·.refKey) = true := by rw [a]; exact Bool.false_ne_true
    rw [if_neg a']
    exact congrArg some e
theorem ObjM.look {h : Heap} {x dx C : Addr} {mA : Str → Option Value} (I : ObjM h x dx C mA) : ∃ od, PySem.W.InstAt h x (PySem.W.instObj C dx) C (some od) ∧ ∀ name, PySem.W.lookIn name od = some (mA name) :=
  let ⟨od, ho, hl⟩ := lookIn_ns I.ns
  ⟨od, ⟨I.obj, rfl, rfl, ho⟩, hl⟩
section
variable {prog : Program} {w : World} {A : Around} {E : Value → Shared → Prop} {s : Shared} {K : PySem.W.Frag} {x dx C f : Addr} {mA : Str → Option Value} {name : Str} {v : Value}
end
section
variable {P : Program} {w : World} {H H' : Hp} {h h' : Heap} {a C dx : Addr} {fs fs' : List (Str × V)}
theorem ins_get (hok : HOk P w H h) (e : H a = some (.ins C dx fs)) : ∃ mA, ObjM h a dx C mA ∧ (∀ f, RelO (fs.lookup f) (mA f)) ∧ PySem.Within mA (fs.map (·.1)) ∧ fs.length ≤ 1000 ∧ H dx = some (.own a) := by
  obtain ⟨d, z, ne, ob, mA, n, r, q⟩ := (show ObjOk P w H h a (.ins C dx fs) from hok a _ e)
  exact ⟨mA, ⟨ob, n, ne⟩, r, q, z, d⟩
end
structure Cls (K : PySem.W.Frag) (C : Addr) : Prop where
  pg : PySem.W.plainGet K C Str.empty = true
  hd : PySem.W.hasDictIn K C = true
  po : PySem.W.plainOver K C = true
  sa : PySem.W.findIn K (.ref C) "__setattr__" = some (some (.builtin "object.__setattr__"))
theorem Cls.get {K : PySem.W.Frag} {C : Addr} (c : Cls K C) (f : Str) : PySem.W.plainGet K C f = true := c.pg
section
variable {X : Cx} {pins : List (Addr × Obj)} {σ : St} {H : Hp} {s : Shared} {a C dx : Addr} {fs : List (Str × V)} {f : Str} {v : V} {A : Around} {E : Value → Shared → Prop}
end
section
variable {X : Cx} {o e value : Expr} {f : Str} {pos pos' tpos : Pos} {ta tv : TE}
end
section
variable {X : Cx} {pins : List (Addr × Obj)} {σ : St} {H : Hp} {s : Shared} {A : Around} {E : Value → Shared → Prop} {Q : Value → Shared → Prop} {c : Value} {b : Bool}
inductive TyOf (K : PySem.W.Frag) (H : Hp) : V → Value → Prop where
  | non : TyOf K H .non (.type "NoneType")
  | bl (x : Bool) : TyOf K H (.bl x) (.type "bool")
  | int (i : Int) : TyOf K H (.int i) (.type "int")
  | str (x : Str) : TyOf K H (.str x) (.type "str")
  | flt (x : UInt64) : TyOf K H (.flt x) (.type "float")
  | lst {a : Addr} {xs : List V} (e : H a = some (.lst xs)) : TyOf K H (.ref a) (.type "list")
  | frz {a : Addr} {o : Obj} {xs : List V} (e : H a = some (.frz o (.lst xs))) : TyOf K H (.ref a) (.type "list")
  | tup {a : Addr} {xs : List V} (e : H a = some (.tup xs)) : TyOf K H (.ref a) (.type "tuple")
  | dK {a : Addr} {kvs : List (Key × V)} (e : H a = some (.dK kvs)) : TyOf K H (.ref a) (.type "dict")
  | dT {a : Addr} {kvs : List (List Key × V)} (e : H a = some (.dT kvs)) : TyOf K H (.ref a) (.type "dict")
  | ins {a C dx : Addr} {fs : List (Str × V)} (e : H a = some (.ins C dx fs)) (cl : Cls K C) (ha : PySem.W.findIn K (.ref C) "__class__" = some (some (.builtin "object.__class__")))
      (hn : PySem.W.specialIn K (.builtin "object.__class__") "__get__" = some (some (.builtin "getset_descriptor.__get__"))) (htk : PySem.W.takesIn K (.builtin "object.__class__") = some true)
      (hm : PySem.W.mroIn K C (.type "object") = some true) : TyOf K H (.ref a) (.ref C)
theorem isinst_ok {x : V} {u t : Value} (I : Inv X pins σ H s) (rx : RelV x u) (ty : TyOf X.K H x t) (e : PySem.W.kitOne X.K t c = some b) (h : ∀ tk, Q (.bool b) { s with toks := tk }) :
    wpAny (model X.prog X.w) A (call (.builtin "isinstance") [u, c]) Q E s := by
  cases ty with
  | non => cases (show u = Value.none from rx); exact PySem.W.kia_one PySem.W.kitx_none I.kIn True.intro e (fun z => nomatch z) h
  | bl y => cases (show u = Value.bool y from rx); exact PySem.W.kia_one PySem.W.kitx_bool I.kIn True.intro e (fun z => nomatch z) h
  | int i => obtain ⟨t, q⟩ := (show ∃ t, u = Value.int i t from rx); cases q; exact PySem.W.kia_one PySem.W.kitx_int I.kIn True.intro e (fun z => nomatch z) h
  | str y => obtain ⟨t, q⟩ := (show ∃ t, u = Value.str y t from rx); cases q; exact PySem.W.kia_one PySem.W.kitx_str I.kIn True.intro e (fun z => nomatch z) h
  | flt y => obtain ⟨t, q⟩ := (show ∃ t, u = Value.float y t from rx); cases q; exact PySem.W.kia_one PySem.W.kitx_float I.kIn True.intro e (fun z => nomatch z) h
  | @lst a xs ea =>
    cases (show u = Value.ref a from rx)
    obtain ⟨_, _, n, _, h1⟩ := (show ObjOk X.prog X.w H s.heap a (.lst xs) from I.hok a _ ea)
    exact PySem.W.kia_one PySem.W.kitx_list I.kIn ⟨_, h1, rfl⟩ e (fun z => nomatch z) h
  | @frz a ob xs ea =>
    cases (show u = Value.ref a from rx)
    obtain ⟨_, _, _, n, _, h1⟩ := (show ObjOk X.prog X.w H s.heap a (.frz ob (.lst xs)) from I.hok a _ ea)
    exact PySem.W.kia_one PySem.W.kitx_list I.kIn ⟨_, h1, rfl⟩ e (fun z => nomatch z) h
  | @tup a xs ea =>
    cases (show u = Value.ref a from rx)
    obtain ⟨_, _, _, p⟩ := (show ObjOk X.prog X.w H s.heap a (.tup xs) from I.hok a _ ea)
    obtain ⟨o, h1, h2, _⟩ := p
    exact PySem.W.kia_one PySem.W.kitx_tuple I.kIn ⟨o, h1, h2⟩ e (fun z => nomatch z) h
  | @dK a kvs ea =>
    cases (show u = Value.ref a from rx)
    obtain ⟨_, _, vs, _, p⟩ := (show ObjOk X.prog X.w H s.heap a (.dK kvs) from I.hok a _ ea)
    obtain ⟨o, es, ep, h1, h2, _⟩ := p
    exact PySem.W.kia_one PySem.W.kitx_dict I.kIn ⟨o, h1, h2.1⟩ e (fun z => nomatch z) h
  | @dT a kvs ea =>
    cases (show u = Value.ref a from rx)
    obtain ⟨_, _, xs, _, o, es, ep, h1, h2, _⟩ := (show ObjOk X.prog X.w H s.heap a (.dT kvs) from I.hok a _ ea)
    exact PySem.W.kia_one PySem.W.kitx_dict I.kIn ⟨o, h1, h2.1⟩ e (fun z => nomatch z) h
  | @ins a C dx fs ea cl ha hn htk hm =>
    cases (show u = Value.ref a from rx)
    obtain ⟨mA, O, _⟩ := ins_get I.hok ea
    obtain ⟨od, J, _⟩ := O.look
    exact PySem.W.kia_one (PySem.W.kitx_own (cl.get _) cl.hd ha hn htk hm) I.kIn J e (fun z => nomatch z) h
end
end L2
namespace L2
open PySem PySem.Spec PyProof.Rows
structure Room (k : Nat) (A : Around) : Prop where
  hd : A.handled = none
  dp : A.depth + 3 * k + 5 < recursionLimit
  un : A.units + 16 * k + 200 < cLine
theorem Room.mono {j k : Nat} {A : Around} (r : Room k A) (h : j ≤ k) : Room j A := ⟨r.hd, by have := r.dp; omega, by have := r.un; omega⟩
theorem Room.deeper {k : Nat} {A : Around} (r : Room (k + 1) A) (env : Env) : Room k (A.deeper env) :=
  ⟨r.hd, by have := r.dp; show A.depth + 1 + 3 * k + 5 < _; omega, by have := r.un; show A.units + 3 + 16 * k + 200 < _; omega⟩
theorem Room.depth {k : Nat} {A : Around} (r : Room k A) : A.depth < recursionLimit := by have := r.dp; omega
theorem Room.units {k : Nat} {A : Around} (r : Room k A) : A.units + 64 < cLine := by have := r.un; omega
def tNil : TA := fun _ H Q => Q [] H
def tCons (ta : TE) (tr : TA) : TA := fun σ H Q => ta σ H fun x H1 => tr σ H1 fun xs H2 => Q (x :: xs) H2
section
variable {X : Cx} {e : Expr} {es : List Expr} {te : TE} {t : TA} {pos : Pos}
theorem pa_nil : PA X [] tNil := fun _ _ _ _ H Q I h => Calls.spliced_nil ⟨[], H, I, .nil, h⟩
theorem pa_cons (ha : PE X e te) (hr : PA X es t) (hs : starEach (e :: es) X.env = (false, eval e X.env) :: starEach es X.env := by rfl) : PA X (e :: es) (tCons te t) := by
  intro pos pins s σ H Q I h
  rw [hs]
  show wpAny _ _ (spliced ((false, eval e X.env) :: backTo pos (starEach es X.env))) _ _ s
  refine Calls.spliced_cons (thn (ha pins s σ H _ I h) fun u s1 ⟨x, H1, I1, r1, q1⟩ => ?_)
  exact thn (hr pos pins s1 σ H1 _ I1 q1) fun us s2 ⟨xs, H2, I2, r2, q2⟩ => ⟨x :: xs, H2, I2, .cons r1 r2, q2⟩
def tTup (t : TA) : TE := fun σ H Q => t σ H fun xs H1 => xs.length ≤ sizeLine ∧ ∀ p, H1 p = none → Q (.ref p) (upd H1 p (.tup xs))
def tLst (t : TA) : TE := fun σ H Q => t σ H fun xs H1 => xs.length ≤ sizeLine ∧ ∀ p, H1 p = none → Q (.ref p) (upd H1 p (.lst xs))
theorem pe_tup {x1} (h : PA X es t) : PE X (.Tuple es x1 pos) (tTup t) := by
  intro pins s σ H Q I hq
  refine wpAny_Tuple_spliced (thn (h pos pins s σ H _ I hq) fun us s1 ⟨xs, H1, I1, r, z, q⟩ => ⟨by rw [← r.length]; exact z, ?_⟩)
  have hf : H1 s1.heap.objs.size = none := I1.hok.fresh (Nat.le_refl _)
  refine ⟨.ref s1.heap.objs.size, upd H1 s1.heap.objs.size (.tup xs), I1.laid (t' := s1.toks) (fun b u e => Heap.get?_push_of_some _ e) (Nat.le_refl _) ?_, rfl, q _ hf⟩
  exact ⟨z, us, r, ⟨_, Heap.get?_push_size _ rfl, rfl, _, rfl⟩⟩
theorem pe_lst (h : PA X es t) : PE X (.List es pos) (tLst t) := by
  intro pins s σ H Q I hq
  refine wpAny_List_spliced (thn (h pos pins s σ H _ I hq) fun us s1 ⟨xs, H1, I1, r, z, q⟩ => ⟨by rw [← r.length]; exact z, ?_⟩)
  have hf : H1 s1.heap.objs.size = none := I1.hok.fresh (Nat.le_refl _)
  refine ⟨.ref s1.heap.objs.size, upd H1 s1.heap.objs.size (.lst xs), I1.laid (t' := s1.toks) (fun b u e => Heap.get?_push_of_some _ e) (Nat.le_refl _) ?_, rfl, q _ hf⟩
  exact ⟨z, us, 0, r, Heap.get?_push_size _ rfl⟩
end
abbrev Sp := List V → Hp → VK → XK → Prop
abbrev CXT := List Env → Hp → Shared → XK → Value → Shared → Prop
structure Env0 (P : Program) (w : World) (K : PySem.W.Frag) (mg : Str → Option Value) (base : Heap) (A : Around) (outer : List Env) (s : Shared) (H : Hp) : Prop where
  frames : A.frames = some outer
  mod : Mod K mg base
  bs : ∀ b o, base.get? b = some o → s.heap.get? b = some o ∧ H b = none
  bsz : base.objs.size ≤ s.heap.objs.size
  funs : s.heap.FunFrames base outer
  frf : ∀ b ∈ frs outer, H b = none
  hok : HOk P w H s.heap
  bare : AllBare s.gens
def CE (outer : List Env) (P : Program) (w : World) (H : Hp) (s : Shared) (Q : VK) (u : Value) (s' : Shared) : Prop :=
  ∃ v H', s'.os = s.os ∧ AllBare s'.gens ∧ Un (frs outer) [] H H' s.heap s'.heap ∧ HOk P w H' s'.heap ∧ RelV v u ∧ Q v H'
def CR (CX : CXT) (outer : List Env) (P : Program) (w : World) (H : Hp) (s : Shared) (Q : VK) (E : XK) (r : Result) (s' : Shared) : Prop :=
  match r with
  | .ok (.ret u) => CE outer P w H s Q u s'
  | .ok _ => False
  | .error e => CX outer H s E e s'
structure FnOk (P : Program) (w : World) (K : PySem.W.Frag) (mg : Str → Option Value) (base : Heap) (CX : CXT) (k : Nat) (f : Addr) (fd : FuncData) (ps : List Str) (sp : Sp) : Prop where
  len : ∀ vs H Q E, sp vs H Q E → vs.length = ps.length
  run : ∀ (A : Around) (outer : List Env) (s : Shared) (H : Hp) (args : Args) (us : List Value) (vs : List V) (Q : VK) (E : XK), Room k A → Env0 P w K mg base A outer s H → BindsTo s fd args (ps.zip us) → Vals vs us → sp vs H Q E →
    codeAny (model P w) A (.call (.ref f) args) (CR CX outer P w H s Q E) s
section
variable {X : Cx} {pins : List (Addr × Obj)} {σ : St} {H : Hp} {s s' : Shared}
theorem Inv.env0 (I : Inv X pins σ H s) : Env0 X.prog X.w X.K X.mg X.base X.A X.stack s H :=
  ⟨I.ok.frames, I.ok.mod, I.bs, Nat.le_trans I.ok.bsz I.sz, I.stack, I.stkFree, I.hok, I.bare⟩
theorem Inv.after {Q : VK} {u : Value} (I : Inv X pins σ H s) (h : CE X.stack X.prog X.w H s Q u s') : EP X pins σ Q u s' := by
  obtain ⟨v, H', os, bare, un, hok, r, q⟩ := h
  obtain ⟨hh, g, d, t, os'⟩ := s'
  obtain rfl : os' = s.os := os
  exact ⟨v, H', I.call (h' := hh) (g' := g) (d' := d) (t' := t) (ch := []) un hok bare (fun b z => absurd z (by simp)), r, q⟩
end
def tCall (sp : Sp) (dvs : List V) (E : XK) (t : TA) : TE := fun σ H Q => t σ H fun vs H1 => sp (vs ++ dvs) H1 Q E
def Binds (K : PySem.W.Frag) (fd : FuncData) (ps : List Str) (ds : List Value) : Prop :=
  ∀ (s : Shared) (us : List Value), K.In s.heap → (us ++ ds).length = ps.length → BindsTo s fd ⟨us, []⟩ (ps.zip (us ++ ds))
theorem Binds.all {K : PySem.W.Frag} {fd : FuncData} {ps : List Str} (h : ∀ us : List Value, us.length = ps.length → bindArgs fd ⟨us, []⟩ = pure (ps.zip us)) : Binds K fd ps [] := fun s us _ hl => by
  rw [List.append_nil] at hl ⊢
  exact .of_eq (h us hl)
def Passes (CX : CXT) (X : Cx) (E : XK) : Prop := ∀ (pins : List (Addr × Obj)) (σ : St) (H : Hp) (s : Shared) (e : Value) (s' : Shared), Inv X pins σ H s → CX X.stack H s E e s' → X.xe e s'
section
variable {X : Cx} {CX : CXT} {k : Nat} {f C : Addr} {fd : FuncData} {ps : List Str} {sp : Sp} {dvs : List V} {ds : List Value} {E : XK} {x m : Str} {p pos apos : Pos} {e o : Expr} {es : List Expr} {ta : TE} {t : TA}
theorem run_fn {pins : List (Addr × Obj)} {σ : St} {H : Hp} {s : Shared} {Q : VK} {us : List Value} {vs : List V} (F : FnOk X.prog X.w X.K X.mg X.base CX k f fd ps sp) (hr : Room k X.A) (hb : Binds X.K fd ps ds) (hd : Vals dvs ds) (hx : Passes CX X E)
    (I : Inv X pins σ H s) (r : Vals vs us) (h : sp (vs ++ dvs) H Q E) : wpAny (model X.prog X.w) X.A (call (.ref f) us) (EP X pins σ Q) X.xe s := by
  have r2 : Vals (vs ++ dvs) (us ++ ds) := r.append hd
  have hl : (us ++ ds).length = ps.length := by rw [← r2.length]; exact F.len _ _ _ _ h
  refine wpAny_call (codeAny_mono (F.run X.A X.stack s H ⟨us, []⟩ (us ++ ds) (vs ++ dvs) Q E hr I.env0 (hb s us I.kIn hl) r2 h) fun r s' hq => ?_)
  cases r with
  | error e => exact hx pins σ H s e s' I hq
  | ok fl =>
    cases fl with
    | ret u => exact I.after hq
    | next => exact False.elim hq
    | brk => exact False.elim hq
    | cont => exact False.elim hq
theorem pe_call (F : FnOk X.prog X.w X.K X.mg X.base CX k f fd ps sp) (hr : Room k X.A) (hg : Gl X x) (hm : X.mg x = some (.ref f)) (hk : PySem.W.keepIn X.K (.ref f) = true) (hb : Binds X.K fd ps ds) (hd : Vals dvs ds) (hx : Passes CX X E)
    (ha : PA X (e :: es) t) (hdb : (x == ("__debug__" : Str)) = false := by decide) (he : starEach (e :: es) X.env = (false, eval e X.env) :: starEach es X.env := by rfl) (hpl : (backTo pos (starEach es X.env)).any (·.1) = false := by rfl) :
    PE X (.Call (.Name x p) (e :: es) [] pos) (tCall sp dvs E t) := by
  intro pins s σ H Q I h
  refine wpAny_Call_Name_kw (ld_glob I hg hm ?_ hdb)
  refine PySem.W.callWith_K (h₀ := X.base) I.ok.mod.kin hk (thn (ha pos pins s σ H _ I h) fun us s1 ⟨vs, H1, I1, r, q⟩ => ⟨I1.kIn, ?_⟩) he hpl
  exact run_fn F hr hb hd hx I1 r q
end
section
variable {X : Cx} {CX : CXT} {k : Nat} {f C : Addr} {fd : FuncData} {ps ks : List Str} {sp : Sp} {E : XK} {x m : Str} {p pos apos kpos : Pos} {e o : Expr} {es : List Expr} {kws : List Keyword} {te ta : TE} {t tk : TA} {nm : Option Str}
variable {g : List Value → List Value → List Value} {gV : List V → List V → List V}
end
structure FnScope (N P : List Str) (sc : Scope) : Prop where
  kind : sc.kind = .function
  co : sc.isCoroutine = false
  gen : sc.isGenerator = false
  nd : N.Nodup
  pre : N.take P.length = P
  par : ∀ x ∈ P, sc.names.lookup x = some .local ∨ sc.names.lookup x = some .cell
  nofree : ∀ y ∈ sc.names, y.2 ≠ .free
theorem bindL_out {kindOf : Str → Option NameKind} {x : Str} : ∀ {binds : List (Str × Value)} {m : Str → Option Value}, (∀ v, (x, v) ∉ binds) → bindL kindOf binds m x = m x
  | [], _, _ => rfl
  | (n, v) :: r, m, h => by
    unfold bindL
    rw [bindL_out fun w hw => h w (List.mem_cons_of_mem _ hw)]
    split
    · have : x ≠ n := by rintro rfl; exact h v List.mem_cons_self
      simp [this]
    · rfl
theorem bindC_out {kindOf : Str → Option NameKind} {x : Str} : ∀ {binds : List (Str × Value)} {m : Str → Option Value}, (∀ v, (x, v) ∉ binds) → bindC kindOf binds m x = m x
  | [], _, _ => rfl
  | (n, v) :: r, m, h => by
    unfold bindC
    rw [bindC_out fun w hw => h w (List.mem_cons_of_mem _ hw)]
    split
    · rfl
    · have : x ≠ n := by rintro rfl; exact h v List.mem_cons_self
      simp [this]
theorem bindL_get {kindOf : Str → Option NameKind} {x : Str} {v : Value} : ∀ {P : List Str} {vs : List Value} {i : Nat} {m : Str → Option Value}, P.Nodup → P[i]? = some x → vs[i]? = some v → kindOf x = some .local →
    bindL kindOf (P.zip vs) m x = some v
  | [], _, _, _, _, h, _, _ => by simp at h
  | _ :: _, [], _, _, _, _, h, _ => by simp at h
  | p :: P, w :: vs, 0, m, nd, h1, h2, hk => by
    simp at h1 h2; subst h1; subst h2
    show bindL kindOf ((p, w) :: P.zip vs) m p = _
    unfold bindL
    rw [bindL_out fun v hv => (List.nodup_cons.mp nd).1 (List.of_mem_zip hv).1, if_pos hk]
    simp
  | p :: P, w :: vs, i + 1, m, nd, h1, h2, hk => by
    show bindL kindOf ((p, w) :: P.zip vs) m x = _
    unfold bindL
    exact bindL_get (i := i) (List.nodup_cons.mp nd).2 (by simpa using h1) (by simpa using h2) hk
theorem bindC_get {kindOf : Str → Option NameKind} {x : Str} {v : Value} : ∀ {P : List Str} {vs : List Value} {i : Nat} {m : Str → Option Value}, P.Nodup → P[i]? = some x → vs[i]? = some v → kindOf x ≠ some .local →
    bindC kindOf (P.zip vs) m x = some v
  | [], _, _, _, _, h, _, _ => by simp at h
  | _ :: _, [], _, _, _, _, h, _ => by simp at h
  | p :: P, w :: vs, 0, m, nd, h1, h2, hk => by
    simp at h1 h2; subst h1; subst h2
    show bindC kindOf ((p, w) :: P.zip vs) m p = _
    unfold bindC
    rw [bindC_out fun v hv => (List.nodup_cons.mp nd).1 (List.of_mem_zip hv).1, if_neg hk]
    simp
  | p :: P, w :: vs, i + 1, m, nd, h1, h2, hk => by
    show bindC kindOf ((p, w) :: P.zip vs) m x = _
    unfold bindC
    exact bindC_get (i := i) (List.nodup_cons.mp nd).2 (by simpa using h1) (by simpa using h2) hk
def start (N : List Str) (vs : List V) : St := vs.map some ++ List.replicate (N.length - vs.length) none
def cxOf (CX : CXT) (P : Program) (w : World) (K : PySem.W.Frag) (mg : Str → Option Value) (base : Heap) (N : List Str) (qual : Str) (scope : Scope) (f : Addr) (cd : Value) (A : Around) (outer : List Env) (s : Shared) (H : Hp) (E : XK) : Cx where
  prog := P
  w := w
  K := K
  mg := mg
  base := base
  A := A.deeper (envOfC qual scope s.heap.objs.size f cd)
  N := N
  s₀ := s
  H₀ := H
  env := envOfC qual scope s.heap.objs.size f cd
  outer := outer
  stack := envOfC qual scope s.heap.objs.size f cd :: outer
  ex := []
  calm := true
  fn := fun _ => true
  pn := []
  xe := fun e s' => wpAny (model P w) (A.deeper (envOfC qual scope s.heap.objs.size f cd)) (leaving (envOfC qual scope s.heap.objs.size f cd) e) (fun _ s'' => CX outer H s E e s'') (fun e' s'' => CX outer H s E e' s'') s'
theorem cell_has {sc : Scope} {n : Nat} {x : Str} (h : sc.names.lookup x = some .cell) : ∃ c, (cellsFrom n sc.names []).lookup x = some c := by
  have q := PySem.W.cellsFrom_some sc.names n [] (.inl h)
  exact Option.isSome_iff_exists.mp q
theorem inv_start {CX : CXT} {P : Program} {w : World} {K : PySem.W.Frag} {mg : Str → Option Value} {base : Heap} {N ps : List Str} {qual : Str} {scope : Scope} {f : Addr} {cd : Value} {A : Around} {outer : List Env} {s s1 : Shared} {H : Hp} {E : XK} {us : List Value} {vs : List V}
    (S : FnScope N ps scope) (hd : A.handled = none) (e0 : Env0 P w K mg base A outer s H) (hl : vs.length = ps.length) (r : Vals vs us)
    (x : InCallC s s.heap.objs.size (bindL (envOfC qual scope s.heap.objs.size f cd).kindOf (ps.zip us) fun _ => none) (cellsFrom (s.heap.objs.size + 1) scope.names []) (bindC (envOfC qual scope s.heap.objs.size f cd).kindOf (ps.zip us) fun _ => none) s1) :
    Inv (cxOf CX P w K mg base N qual scope f cd A outer s H E) [] (start N vs) H s1 := by
  have hpl : ps.length ≤ N.length := by have := congrArg List.length S.pre; rw [List.length_take] at this; omega
  obtain ⟨h1, tk, rfl, hk⟩ := x.done
  have noA : ∀ b : Addr, b ∉ (cxOf CX P w K mg base N qual scope f cd A outer s H E).ex := fun b z => absurd (show b ∈ ([] : List Addr) from z) (by simp)
  refine ⟨⟨e0.mod, S.kind, rfl, rfl, Nat.le_refl _, fun y z c h1 h2 => ?_, fun y hy => ?_, fun y c _ h => ?_, fun _ => hd, Around.frames_deeper e0.frames, .inr ⟨rfl, rfl⟩, fun b z => absurd z (noA b), e0.bs, e0.bsz, fun b _ _ => noA b, fun b z => absurd z (noA b), e0.funs, e0.frf⟩,
    rfl, e0.bare, Un.kept hk, ⟨_, x.toInCall.ns, fun i y v h1 h2 h3 => ?_⟩, fun y c h => ⟨_, x.cell y c h⟩, e0.hok.fresh (Nat.le_refl _), fun y c h => ?_, fun p hp => absurd (show p ∈ ([] : List (Addr × Obj)) from hp) (by simp), e0.hok.kept hk, ?_⟩
  · exact name_of_addr x.apart (PySem.mem_of_lookup h1) (PySem.mem_of_lookup h2)
  · have hy : scope.names.lookup y = some .cell ∨ scope.names.lookup y = some .free := hy
    rcases hy with hy | hy
    · exact cell_has hy
    · exact absurd rfl (S.nofree _ (PySem.mem_of_lookup hy))
  · exact Nat.le_of_lt (x.above y c (PySem.mem_of_lookup h))
  · have hi : i < vs.length := by
      unfold start at h2
      by_cases hi : i < vs.length
      · exact hi
      · rw [List.getElem?_append_right (by simpa using hi)] at h2
        rw [List.getElem?_replicate] at h2
        split at h2 <;> cases h2
    have ha : vs[i]? = some v := by
      unfold start at h2
      rw [List.getElem?_append_left (by simpa using hi), List.getElem?_map] at h2
      cases e : vs[i]? with
      | none => rw [e] at h2; cases h2
      | some a => rw [e] at h2; cases h2; rfl
    obtain ⟨u, hu, rv⟩ := r.get ha
    have hp : ps[i]? = some y := by
      rw [← S.pre, List.getElem?_take_of_lt (by omega)]; exact h1
    have ndP : ps.Nodup := by rw [← S.pre]; exact S.nd.sublist (List.take_sublist _ _)
    refine ⟨u, rv, ?_⟩
    rcases S.par y (List.mem_of_getElem? hp) with k | k
    · exact .inl ⟨k, bindL_get ndP hp hu k⟩
    · obtain ⟨c, e⟩ := cell_has (n := s.heap.objs.size + 1) k
      refine .inr ⟨.inl k, c, e, ?_⟩
      have q := x.cell y c e
      rw [bindC_get ndP hp hu (by show scope.names.lookup y ≠ _; rw [k]; decide)] at q
      exact q
  · exact e0.hok.fresh (Nat.le_of_lt (x.above y c (PySem.mem_of_lookup h)))
  · unfold start
    show _ = N.length
    rw [List.length_append, List.length_map, List.length_replicate]
    omega
theorem fn_of {CX : CXT} {P : Program} {w : World} {K : PySem.W.Frag} {mg : Str → Option Value} {base : Heap} {k : Nat} {f : Addr} {name qual : Str} {params : Arguments} {body : List Stmt} {scope : Scope} {dV kV doc pm cdv ct oc : Value} {an od : Option Addr}
    {osl : Array (Option Value)} {N ps : List Str} {sp : Sp} (lk : K.lookup f = some ⟨oc, od, .func (PySem.W.fnOf name qual params body scope dV kV doc pm an cdv ct), osl⟩) (hcd : PySem.W.codeIn K cdv qual = true) (S : FnScope N ps scope)
    (len : ∀ vs H Q E, sp vs H Q E → vs.length = ps.length)
    (hbody : ∀ (A : Around) (outer : List Env) (s : Shared) (H : Hp) (vs : List V) (Q : VK) (E : XK), Room k (A.deeper (envOfC qual scope s.heap.objs.size f cdv)) → sp vs H Q E →
      ∃ t, PSs (cxOf CX P w K mg base N qual scope f cdv A outer s H E) body t ∧ t { nx := fun _ H' => Q .non H', rt := Q } (start N vs) H) :
    FnOk P w K mg base CX (k + 1) f (PySem.W.fnOf name qual params body scope dV kV doc pm an cdv ct) ps sp := by
  refine ⟨len, fun A outer s H args us vs Q E hr e0 hb r hsp => ?_⟩
  have hl := len _ _ _ _ hsp
  have KX : K.In s.heap := e0.mod.kin.keeps fun b o e => (e0.bs b o e).1
  have lim : s.heap.NoLimit := e0.mod.nolimit.keeps fun b o e => (e0.bs b o e).1
  have hkind : ∀ y ∈ ps.zip us, scope.names.lookup y.1 = some .local ∨ (scope.names.lookup y.1 = some .cell ∧ ((cellsFrom (s.heap.objs.size + 1) scope.names []).lookup y.1).isSome = true) := fun ⟨n, v⟩ hy => by
    rcases S.par n (List.of_mem_zip hy).1 with q | q
    · exact .inl q
    · exact .inr ⟨q, PySem.W.cellsFrom_some _ _ _ (.inl q)⟩
  refine codeAny_call_function hr.depth (KX _ _ lk) rfl S.co S.gen rfl (PySem.W.codeRec_of KX hcd) (hb _ _ _ _ ?_)
  refine wpAny_newFunctionEnv_cells S.kind hkind fun env he s1 x => ?_
  subst he
  refine ⟨lim.keeps x.toInCall.keep, codeAny_func ?_⟩
  obtain ⟨t, ht, hq⟩ := hbody A outer s H vs Q E (hr.deeper _) hsp
  have I : Inv (cxOf CX P w K mg base N qual scope f cdv A outer s H E) [] (start N vs) H s1 := inv_start S hr.hd e0 hl r x
  refine wpAny_mono (ht [] s1 (start N vs) H _ I hq) (fun fl s' hs => ?_) fun e s' hs => hs
  have fin : ∀ {σ' : St} {H' : Hp} {v : V} {u : Value}, Inv (cxOf CX P w K mg base N qual scope f cdv A outer s H E) [] σ' H' s' → RelV v u → Q v H' → CE outer P w H s Q u s' :=
    fun {σ' H' v u} J rv q => ⟨v, H', J.os, J.bare, J.base, J.hok, rv, q⟩
  cases fl with
  | ret u =>
    obtain ⟨v, σ', H', J, rv, q⟩ := hs
    exact fin J rv q
  | next =>
    obtain ⟨σ', H', J, q⟩ := hs
    exact fin (v := V.non) (u := Value.none) J rfl q
  | brk =>
    obtain ⟨_, _, _, q⟩ := hs
    exact False.elim q
  | cont =>
    obtain ⟨_, _, _, q⟩ := hs
    exact False.elim q
end L2
namespace L2
open PySem PySem.Spec PyProof.Rows
section
variable {X : Cx} {x : Str} {p pos : Pos} {e : Expr} {es : List Expr} {t : TA} {id T : String} {r : List V → Hp → VK → Prop}
def tCB (r : List V → Hp → VK → Prop) (t : TA) : TE := fun σ H Q => t σ H fun vs H1 => r vs H1 Q
theorem pe_callB (hc : CallR X (.builtin id) r) (hg : Gl X x) (hm : X.mg x = none) (hv : bootBuiltins x = some (.builtin id)) (ha : PA X (e :: es) t) (hn : x ≠ "__name__" := by decide) (hdb : (x == ("__debug__" : Str)) = false := by decide)
    (he : starEach (e :: es) X.env = (false, eval e X.env) :: starEach es X.env := by rfl) (hpl : (backTo pos (starEach es X.env)).any (·.1) = false := by rfl) : PE X (.Call (.Name x p) (e :: es) [] pos) (tCB r t) := by
  intro pins s σ H Q I h
  refine wpAny_Call_Name_kw (ld_blt I hg hm hv ?_ hn hdb)
  exact PyProof.Rows.callWith_builtin1 (thn (ha pos pins s σ H _ I h) fun us s1 ⟨vs, H1, I1, r1, q1⟩ => hc pins s1 σ H1 vs us Q I1 r1 q1) he hpl
theorem pe_callTy (hc : CallR X (.type T) r) (hg : Gl X x) (hm : X.mg x = none) (hv : bootBuiltins x = some (.type T)) (ha : PA X (e :: es) t) (hn : x ≠ "__name__" := by decide) (hdb : (x == ("__debug__" : Str)) = false := by decide)
    (he : starEach (e :: es) X.env = (false, eval e X.env) :: starEach es X.env := by rfl) (hpl : (backTo pos (starEach es X.env)).any (·.1) = false := by rfl) : PE X (.Call (.Name x p) (e :: es) [] pos) (tCB r t) := by
  intro pins s σ H Q I h
  refine wpAny_Call_Name_kw (ld_blt I hg hm hv ?_ hn hdb)
  exact PyProof.Rows.callWith_type1 (thn (ha pos pins s σ H _ I h) fun us s1 ⟨vs, H1, I1, r1, q1⟩ => hc pins s1 σ H1 vs us Q I1 r1 q1) he hpl
end
end L2
namespace HT
open PySem PyProof.Rows
section
open PySem.SeqAt
open PySem.AutoSeq1 (wpAny_loadPart')
open PySem.MeetsSeq PySem.MeetsSeq2 PySem.MeetsSeq3
end
section
variable {prog : Program} {w : World} {A : Around} {E : Value → Shared → Prop} {s : Shared}
def sIx (n d : Nat) : Option Int → Nat
  | none => d
  | some v => if v < 0 then (v + (n : Int)).toNat else min v.toNat n
end
end HT
namespace L2
open PySem PySem.Spec PyProof.Rows
abbrev TO := St → Hp → (Option Int → Hp → Prop) → Prop
def PO (X : Cx) (e : Option Expr) (t : TO) : Prop :=
  ∀ (pins : List (Addr × Obj)) (s : Shared) (σ : St) (H : Hp) (Q : Option Int → Hp → Prop), Inv X pins σ H s → t σ H Q →
    wpAny (model X.prog X.w) X.A (evalPart e X.env) (fun u s' => ∃ o H', Inv X pins σ H' s' ∧ IsPart u o ∧ Q o H') X.xe s
def tNoPart : TO := fun _ H Q => Q none H
def tPart (t : TE) : TO := fun σ H Q => t σ H fun x H1 => ∃ i, x = .int i ∧ Q (some i) H1
section
variable {X : Cx} {e : Expr} {te : TE} {lo hi : Option Expr} {tl th : TO} {pos p2 : Pos}
theorem po_none : PO X none tNoPart := by
  intro pins s σ H Q I h
  rw [evalPart_none]
  exact wpAny_pure ⟨none, H, I, .none, h⟩
theorem po_some (h : PE X e te) : PO X (some e) (tPart te) := by
  intro pins s σ H Q I hw
  rw [evalPart_some]
  refine thn (h pins s σ H _ I hw) fun u s1 ⟨x, H1, I1, r1, q1⟩ => ?_
  obtain ⟨i, rfl, q⟩ := q1
  obtain ⟨t, rfl⟩ := r1
  exact ⟨some i, H1, I1, .int i t, q⟩
def SlR (X : Cx) (r : V → Option Int → Option Int → Hp → VK → Prop) : Prop :=
  ∀ (pins : List (Addr × Obj)) (s : Shared) (σ : St) (H : Hp) (x : V) (v vl vu : Value) (lo hi : Option Int) (sl : Addr) (Q : VK), Inv X pins σ H s → RelV x v → s.heap.IsSliceOf sl vl vu .none → IsPart vl lo → IsPart vu hi → r x lo hi H Q →
    ∃ T id, typeLookup (.type T) "__getitem__" = pure (some (.builtin id)) ∧ s.TypeIs v T ∧ wpAny (model X.prog X.w) X.A (getItem v (.ref sl)) (EP X pins σ Q) X.xe s
def tSl (r : V → Option Int → Option Int → Hp → VK → Prop) (te : TE) (tl th : TO) : TE := fun σ H Q => te σ H fun x H1 => tl σ H1 fun l H2 => th σ H2 fun u H3 => r x l u H3 Q
theorem pe_slice {r : V → Option Int → Option Int → Hp → VK → Prop} (hr : SlR X r) (he : PE X e te) (hl : PO X lo tl) (hu : PO X hi th) : PE X (.Subscript e (.Slice lo hi none p2) pos) (tSl r te tl th) := by
  intro pins s σ H Q I h
  refine Subscript_ (thn (he pins s σ H _ I h) fun v s1 ⟨x, H1, I1, r1, q1⟩ => ?_)
  refine wpAny_Slice (thn (hl pins s1 σ H1 _ I1 q1) fun vl s2 ⟨l, H2, I2, pl, q2⟩ => thn (hu pins s2 σ H2 _ I2 q2) fun vu s3 ⟨u, H3, I3, pu, q3⟩ => ?_)
  rw [evalPart_none]
  refine wpAny_pure ?_
  have I4 : Inv X pins σ H3 { s3 with heap := s3.heap.push { cls := .type "slice", data := .fields #[vl, vu, .none] } } := I3.kept (t' := s3.toks) fun b ob q => Heap.get?_push_of_some _ q
  obtain ⟨T, id, hT, ht, hg⟩ := hr pins { s3 with heap := s3.heap.push { cls := .type "slice", data := .fields #[vl, vu, .none] } } σ H3 x v vl vu l u s3.heap.objs.size Q I4 r1 (Heap.IsSliceOf.new ..) pl pu q3
  show wpAny (model X.prog X.w) X.A (subscriptTail e (.Slice lo hi none p2) v (.ref s3.heap.objs.size)) (EP X pins σ Q) X.xe { s3 with heap := s3.heap.push { cls := .type "slice", data := .fields #[vl, vu, .none] } }
  exact tail_any (ops := [.ref s3.heap.objs.size, v]) ht hT hg (by with_unfolding_all rfl)
def cutV (xs : List V) (lo hi : Option Int) : List V := (xs.drop (HT.sIx xs.length 0 lo)).take (HT.sIx xs.length xs.length hi - HT.sIx xs.length 0 lo)
theorem cutV_length (xs : List V) (lo hi : Option Int) : (cutV xs lo hi).length ≤ xs.length := by
  unfold cutV
  rw [List.length_take, List.length_drop]
  omega
end
end L2
namespace L2
open PySem PySem.Spec PyProof.Rows
def ixN (n : Nat) (i : Int) : Option Nat := if 0 ≤ i then (if i < n then some i.toNat else none) else if -(n : Int) ≤ i then some (i + n).toNat else none
def atI {α : Type} (xs : List α) (i : Int) : Option α := (ixN xs.length i).bind fun j => xs[j]?
theorem ixN_seq {n : Nat} {i : Int} {j : Nat} (h : ixN n i = some j) : seqIndex? i n = some j ∧ j < n ∧ -(n : Int) ≤ i ∧ i < n := by
  unfold ixN at h
  by_cases h0 : 0 ≤ i
  · rw [if_pos h0] at h
    by_cases h1 : i < n
    · rw [if_pos h1] at h
      have e : i.toNat = j := Option.some.inj h
      exact ⟨by rw [seqIndex_of h0 h1, e], by omega, by omega, h1⟩
    · rw [if_neg h1] at h; cases h
  · rw [if_neg h0] at h
    by_cases h1 : -(n : Int) ≤ i
    · rw [if_pos h1] at h
      have e : (i + n).toNat = j := Option.some.inj h
      exact ⟨by rw [seqIndex_neg (by omega) h1, e], by omega, h1, by omega⟩
    · rw [if_neg h1] at h; cases h
theorem atI_get {α : Type} {xs : List α} {i : Int} {v : α} (h : atI xs i = some v) : ∃ j, seqIndex? i xs.length = some j ∧ xs[j]? = some v ∧ j < xs.length ∧ -(xs.length : Int) ≤ i ∧ i < xs.length := by
  unfold atI at h
  cases e : ixN xs.length i with
  | none => rw [e] at h; cases h
  | some j =>
    rw [e] at h
    obtain ⟨h1, h2, h3, h4⟩ := ixN_seq e
    exact ⟨j, h1, h, h2, h3, h4⟩
def PlainIx (b : Expr) : Prop := ∀ o i, subscripted b false o i = operate [o, i] (getItem o i)
def IxR (X : Cx) (r : R2) : Prop :=
  ∀ (value slice : Expr) (pins : List (Addr × Obj)) (s : Shared) (σ : St) (H : Hp) (x y : V) (v u : Value) (Q : VK), Inv X pins σ H s → RelV x v → RelV y u → r x y H Q →
    subscripted slice false v u = operate [v, u] (getItem v u) → wpAny (model X.prog X.w) X.A (subscriptTail value slice v u) (EP X pins σ Q) X.xe s
def MtR (X : Cx) (id : String) (r : V → List V → Hp → VK → Prop) : Prop :=
  ∀ (pins : List (Addr × Obj)) (s : Shared) (σ : St) (H : Hp) (x : V) (xs : List V) (v : Value) (us : List Value) (Q : VK), Inv X pins σ H s → RelV x v → Vals xs us → r x xs H Q →
    wpAny (model X.prog X.w) X.A (call (.builtin id) (v :: us)) (EP X pins σ Q) X.xe s
section
variable {X : Cx} {a b : Expr} {ta tb : TE} {pos : Pos}
theorem pe_ix {r : R2} (hr : IxR X r) (ha : PE X a ta) (hb : PE X b tb) (hs : PlainIx b) : PE X (.Subscript a b pos) (tOp r ta tb) := by
  intro pins s σ H Q I h
  exact Subscript_ (binT ha hb I h fun v u s2 x y H2 I2 rx ry q => hr a b pins s2 σ H2 x y v u Q I2 rx ry q (hs _ _))
def rIxL (K : PySem.W.Frag) : R2 := fun x y H Q => ∃ p xs i v, x = .ref p ∧ y = .int i ∧ SqL K H p xs ∧ atI xs i = some v ∧ Q v H
def rIxS : R2 := fun x y H Q => ∃ z i c, x = .str z ∧ y = .int i ∧ z.length ≤ sizeLine ∧ atI z.cps.toList i = some c ∧ Q (.str ⟨#[c]⟩) H
theorem ix_list : IxR X (rIxL X.K) := by
  intro value slice pins s σ H x y v u Q I rx ry h hs
  obtain ⟨p, xs, i, z, rfl, rfl, hq, he, q⟩ := h
  cases rx
  obtain ⟨t, rfl⟩ := ry
  obtain ⟨its, r, pl, hz⟩ := I.list hq
  obtain ⟨j, h1, h2, h3, h4, h5⟩ := atI_get he
  obtain ⟨w, ew, rw'⟩ := r.get h2
  have hl := r.length
  have hn := line63
  have fin : EP X pins σ Q w s := ⟨z, H, I, rw', q⟩
  by_cases h0 : 0 ≤ i
  · have hj : i.toNat = j := by
      rw [seqIndex_of h0 h5] at h1
      exact Option.some.inj h1
    exact item_listR pl.isList h0 (by omega) (by rw [hj]; simpa using ew) fin hs
  · have hj : (i + (its.toArray.size : Int)).toNat = j := by
      rw [seqIndex_neg (by omega) h4] at h1
      rw [List.size_toArray, ← hl]
      exact Option.some.inj h1
    exact subscriptTail_builtinR (x := w) pl.isList.typeIs slot_list_getitem.lookup
      (wpAny_getItem_list_neg (Q := fun r s' => r = w ∧ EP X pins σ Q r s') pl.isList (by omega) (by rw [List.size_toArray] <;> omega) (by omega) (by rw [hj]; simpa using ew) ⟨rfl, fin⟩) hs
theorem ix_str : IxR X rIxS := by
  intro value slice pins s σ H x y v u Q I rx ry h hs
  obtain ⟨z, i, c, rfl, rfl, hz, he, q⟩ := h
  obtain ⟨t, rfl⟩ := rx
  obtain ⟨t', rfl⟩ := ry
  obtain ⟨j, h1, h2, h3, h4, h5⟩ := atI_get he
  have hl : z.cps.toList.length = z.length := by simp [Str.length]
  rw [hl] at h1 h4 h5
  have hn := line63
  exact tail_any (typeIs_str s z t) slot_str_getitem.lookup (getItem_str (c := c) (by
    have e1 : decide (i < -(2 ^ 63 : Int)) = false := decide_eq_false (by omega)
    have e2 : decide (i ≥ 2 ^ 63) = false := decide_eq_false (by omega)
    rw [e1, e2, Bool.or_false]) (by rw [h1]; simpa using h2) ⟨.str ⟨#[c]⟩, H, I.tok _, ⟨_, rfl⟩, q⟩) hs
theorem mapSeq_set (its : List Value) (n j : Nat) (u : Value) : Obj.mapSeq (·.setIfInBounds j u) { cls := .type "list", data := .seq its.toArray n } = { cls := .type "list", data := .seq (its.set j u).toArray n } := by
  simp [Obj.mapSeq]
theorem Inv.lst {pins : List (Addr × Obj)} {σ : St} {H : Hp} {s : Shared} {p : Addr} {xs : List V} (I : Inv X pins σ H s) (h : H p = some (.lst xs)) :
    ∃ (its : List Value) (n : Nat), Vals xs its ∧ s.heap.get? p = some { cls := .type "list", data := .seq its.toArray n } ∧ xs.length ≤ sizeLine := by
  obtain ⟨z, its, n, r, e⟩ := I.hok p _ h
  exact ⟨its, n, r, e, z⟩
theorem Inv.lstUpd {pins : List (Addr × Obj)} {σ : St} {H : Hp} {s : Shared} {p : Addr} {xs ys : List V} {its its' : List Value} {n n' : Nat} {f : Obj → Obj} (I : Inv X pins σ H s) (h : H p = some (.lst xs))
    (ho : s.heap.get? p = some { cls := .type "list", data := .seq its.toArray n }) (hf : f { cls := .type "list", data := .seq its.toArray n } = { cls := .type "list", data := .seq its'.toArray n' }) (r : Vals ys its') (hz : ys.length ≤ sizeLine) (t : Nat) :
    Inv X pins σ (upd H p (.lst ys)) { s with heap := s.heap.update p f, toks := t } := by
  have e : (s.heap.update p f).get? p = some { cls := .type "list", data := .seq its'.toArray n' } := by
    rw [Heap.get?_update_self f ho (by rw [hf] <;> rfl), hf]
  refine I.write (x := p) (e := p) (by rw [h]; trivial) (.inl rfl) (fun b u hb q => (Heap.get?_update_other _ _ (Ne.symm hb)).trans q) ⟨_, e⟩ ?_
  exact ⟨hz, its', n', r, e⟩
def rSetL : V → V → V → Hp → (Hp → Prop) → Prop := fun o i v H Q => ∃ p xs k j, o = .ref p ∧ i = .int k ∧ H p = some (.lst xs) ∧ ixN xs.length k = some j ∧ Q (upd H p (.lst (xs.set j v)))
theorem set_list : PSet X rSetL := by
  intro pins s σ H o i v ov iv u Q I ro ri rv h
  obtain ⟨p, xs, k, j, rfl, rfl, hp, hj, q⟩ := h
  cases ro
  obtain ⟨t, rfl⟩ := ri
  obtain ⟨its, n, r, ho, hz⟩ := I.lst hp
  obtain ⟨h1, h2, h3, h4⟩ := ixN_seq hj
  have hl := r.length
  have hn := line63
  have I' : Inv X pins σ (upd H p (.lst (xs.set j v))) { s with heap := s.heap.update p (Obj.mapSeq (·.setIfInBounds j u)) } :=
    I.lstUpd hp ho (mapSeq_set its n j u) (r.set rv j) (by rw [List.length_set]; exact hz) s.toks
  by_cases h0 : 0 ≤ k
  · have hk : k.toNat = j := by
      rw [seqIndex_of h0 h4] at h1
      exact Option.some.inj h1
    exact PySem.W.ki_setAt ho h0 (by omega) (by rw [List.size_toArray, ← hl]; exact h4) (by rw [hk]; exact ⟨_, I', q⟩)
  · have hk : (k + (its.toArray.size : Int)).toNat = j := by
      rw [seqIndex_neg (by omega) h3] at h1
      rw [List.size_toArray, ← hl]
      exact Option.some.inj h1
    exact PySem.W.ki_setBack ho (by omega) (by rw [List.size_toArray, ← hl]; exact h3) (by omega) (by rw [hk]; exact ⟨_, I', q⟩)
theorem slice_bounds (lo hi : Option Int) (n : Nat) : (sliceBounds lo hi none n).1 = ((HT.sIx n 0 lo : Nat) : Int) ∧ (sliceBounds lo hi none n).2.1 = ((HT.sIx n n hi : Nat) : Int) ∧ (sliceBounds lo hi none n).2.2 = 1 := by
  refine ⟨?_, ?_, rfl⟩
  · cases lo with
    | none => simp [sliceBounds, HT.sIx]
    | some i =>
      simp only [sliceBounds, HT.sIx, Option.getD_none, show (1 : Int) > 0 by decide, if_true]
      by_cases h : i < 0
      · simp only [h, if_true] <;> omega
      · simp only [h, if_false] <;> omega
  · cases hi with
    | none => simp [sliceBounds, HT.sIx]
    | some i =>
      simp only [sliceBounds, HT.sIx, Option.getD_none, show (1 : Int) > 0 by decide, if_true]
      by_cases h : i < 0
      · simp only [h, if_true] <;> omega
      · simp only [h, if_false] <;> omega
theorem slicePick_cut (its : List Value) (lo hi : Option Int) : slicePick its.toArray lo hi none = ((its.drop (HT.sIx its.length 0 lo)).take (HT.sIx its.length its.length hi - HT.sIx its.length 0 lo)).toArray := by
  obtain ⟨h1, h2, h3⟩ := slice_bounds lo hi its.toArray.size
  unfold slicePick
  rw [h1, h2, h3]
  simp only [sliceRange_one, pick_run, List.size_toArray] <;> rfl
def rSlL (K : PySem.W.Frag) : V → Option Int → Option Int → Hp → VK → Prop := fun x lo hi H Q => ∃ a xs, x = .ref a ∧ SqL K H a xs ∧ ∀ p, H p = none → Q (.ref p) (upd H p (.lst (cutV xs lo hi)))
theorem sl_list : SlR X (rSlL X.K) := by
  intro pins s σ H x v vl vu lo hi sl Q I rx hs pl pu h
  obtain ⟨a, xs, rfl, hx, q⟩ := h
  cases rx
  obtain ⟨its, r, ht, hz⟩ := I.list hx
  have hlen := r.length
  refine ⟨"list", _, slot_list_getitem.lookup, ht.isList.typeIs, ?_⟩
  refine wpAny_getItem_list_slice ht.isList hs pl pu .none (by simp) ?_ (by rw [List.size_toArray] <;> omega)
  rw [slicePick_cut, ← hlen]
  refine ⟨.ref s.heap.objs.size, _, I.laid (t' := s.toks) (o := .lst (cutV xs lo hi)) (fun b ob q => Heap.get?_push_of_some _ q) (Nat.le_refl _) ?_, rfl, q _ (I.hok.fresh (Nat.le_refl _))⟩
  exact ⟨Nat.le_trans (cutV_length xs lo hi) hz, _, 0, (r.drop (HT.sIx xs.length 0 lo)).take (HT.sIx xs.length xs.length hi - HT.sIx xs.length 0 lo), Heap.get?_push_size _ rfl⟩
def flatV : V → Bool
  | .non => true
  | .bl _ => true
  | .int _ => true
  | .str _ => true
  | _ => false
def eqV : V → V → Bool
  | .non, .non => true
  | .bl a, .bl b => a == b
  | .bl a, .int b => (if a then 1 else 0) == b
  | .int a, .bl b => a == (if b then 1 else 0)
  | .int a, .int b => a == b
  | .str a, .str b => a == b
  | _, _ => false
theorem eqAt_V {A : Around} {s : Shared} {y x : V} {u v : Value} (ry : RelV y u) (rx : RelV x v) (fy : flatV y = true) (fx : flatV x = true) : SeqAt.EqAt A s u v (eqV y x) := by
  cases y with
  | non =>
    cases ry
    cases x with
    | non => cases rx; exact SeqAt.EqAt.same _
    | bl b => cases rx; exact SeqAt.EqAt.none_bool b
    | int b => obtain ⟨t, rfl⟩ := rx; exact SeqAt.EqAt.none_int b t
    | str b => obtain ⟨t, rfl⟩ := rx; exact SeqAt.EqAt.none_str b t
    | _ => exact absurd (show false = true from fx) Bool.false_ne_true
  | bl a =>
    cases ry
    cases x with
    | non => cases rx; exact SeqAt.EqAt.bool_none a
    | bl b => cases rx; exact SeqAt.EqAt.bool_bool a b
    | int b => obtain ⟨t, rfl⟩ := rx; exact SeqAt.EqAt.bool_int a b t
    | str b => obtain ⟨t, rfl⟩ := rx; exact SeqAt.EqAt.bool_str a b t
    | _ => exact absurd (show false = true from fx) Bool.false_ne_true
  | int a =>
    obtain ⟨t', rfl⟩ := ry
    cases x with
    | non => cases rx; exact SeqAt.EqAt.int_none a t'
    | bl b => cases rx; exact SeqAt.EqAt.int_bool a t' b
    | int b => obtain ⟨t, rfl⟩ := rx; exact SeqAt.EqAt.int_int a t' b t
    | str b => obtain ⟨t, rfl⟩ := rx; exact SeqAt.EqAt.int_str a t' b t
    | _ => exact absurd (show false = true from fx) Bool.false_ne_true
  | str a =>
    obtain ⟨t', rfl⟩ := ry
    cases x with
    | non => cases rx; exact SeqAt.EqAt.str_none a t'
    | bl b => cases rx; exact SeqAt.EqAt.str_bool a t' b
    | int b => obtain ⟨t, rfl⟩ := rx; exact SeqAt.EqAt.str_int a t' b t
    | str b => obtain ⟨t, rfl⟩ := rx; exact SeqAt.EqAt.str_str a t' b t
    | _ => exact absurd (show false = true from fx) Bool.false_ne_true
  | _ => exact absurd (show false = true from fy) Bool.false_ne_true
def eqU (x : V) (u : Value) : Bool := match u with
  | .none => eqV .non x
  | .bool b => eqV (.bl b) x
  | .int i _ => eqV (.int i) x
  | .str z _ => eqV (.str z) x
  | _ => false
theorem op_notIn_str : OpR X (compareOp .NotIn) (fun x y H Q => ∃ i j, x = .str i ∧ y = .str j ∧ Q (.bl (!(!(Builtin.Str.occurrences j i 0 j.length 1).isEmpty))) H) := by
  intro pins s σ H x y v u Q I rx ry h
  obtain ⟨i, j, rfl, rfl, q⟩ := h
  obtain ⟨t, rfl⟩ := rx
  obtain ⟨t', rfl⟩ := ry
  exact notIn_str ⟨.bl _, H, I, rfl, q⟩
theorem call_len_seq : CallR X (.builtin "len") (fun xs H Q => ∃ p ys, xs = [.ref p] ∧ (SqL X.K H p ys ∨ SqT X.K H p ys) ∧ Q (.int ys.length) H) := by
  intro pins s σ H xs us Q I r h
  obtain ⟨p, ys, rfl, hq, q⟩ := h
  obtain ⟨u, rfl, rx⟩ := vals1 r
  cases rx
  have hn := line63
  rcases hq with hq | hq
  · obtain ⟨its, r', pl, hz⟩ := I.list hq
    have hlen := r'.length
    exact Calls.call_len_list pl.isList (by simp only [List.size_toArray] <;> omega) ⟨.int ys.length, H, I.tok _, ⟨s.toks + 1, by rw [List.size_toArray, hlen]⟩, q⟩
  · obtain ⟨its, r', pl, hz⟩ := I.tuple hq
    have hlen := r'.length
    exact len_tuple pl (by simp only [List.size_toArray] <;> omega) ⟨.int ys.length, H, I.tok _, ⟨s.toks + 1, by rw [List.size_toArray, hlen]⟩, q⟩
theorem call_len_str : CallR X (.builtin "len") (fun xs H Q => ∃ z, xs = [.str z] ∧ z.length ≤ sizeLine ∧ Q (.int z.length) H) := by
  intro pins s σ H xs us Q I r h
  obtain ⟨z, rfl, hz, q⟩ := h
  obtain ⟨u, rfl, t, rfl⟩ := vals1 r
  have hn := line63
  exact len_str (by omega) ⟨.int z.length, H, I.tok _, ⟨_, rfl⟩, q⟩
def tyV (K : PySem.W.Frag) (T : String) (x : V) (H : Hp) : Prop := match x with
  | .str _ => T = "str"
  | .int _ => T = "int"
  | .ref p => (T = "list" ∧ ∃ xs, SqL K H p xs) ∨ (T = "tuple" ∧ ∃ o, K.lookup p = some o ∧ o.cls = .type "tuple" ∧ o.dict = none) ∨
      (T = "dict" ∧ ((∃ kvs, H p = some (.dK kvs)) ∨ ∃ kvs, H p = some (.dT kvs))) ∨ (T = "set" ∧ ∃ S n, H p = some (.set S n))
  | _ => False
theorem tyV_is {pins : List (Addr × Obj)} {σ : St} {H : Hp} {s : Shared} {T : String} {x : V} {v : Value} (I : Inv X pins σ H s) (r : RelV x v) (ty : tyV X.K T x H) :
    s.TypeIs v T ∧ ∀ a, v = .ref a → ∃ ob, s.heap.get? a = some ob ∧ ob.dict = none := by
  cases x with
  | str z =>
    obtain ⟨t, rfl⟩ := r
    cases (show T = "str" from ty)
    exact ⟨typeIs_str s z t, fun _ e => nomatch e⟩
  | int i =>
    obtain ⟨t, rfl⟩ := r
    cases (show T = "int" from ty)
    exact ⟨typeIs_int s i t, fun _ e => nomatch e⟩
  | ref p =>
    cases r
    rcases ty with ⟨rfl, xs, hq⟩ | ⟨rfl, o, hk, hc, hd⟩ | ⟨rfl, hk⟩ | ⟨rfl, S, n, hk⟩
    · obtain ⟨its, _, pl, _⟩ := I.list hq
      refine ⟨pl.isList.typeIs, fun a e => ?_⟩
      cases e
      obtain ⟨o, n, e, c, hd, _⟩ := pl
      exact ⟨o, e, hd⟩
    · refine ⟨⟨o, I.kIn p o hk, hc⟩, fun a e => ?_⟩
      cases e
      exact ⟨o, I.kIn _ o hk, hd⟩
    · have z : ∃ o, s.heap.get? p = some o ∧ o.ExactDict := by
        rcases hk with ⟨kvs, hk⟩ | ⟨kvs, hk⟩
        · obtain ⟨_, _, _, _, o, _, _, e, ex, _⟩ := I.hok p _ hk
          exact ⟨o, e, ex⟩
        · obtain ⟨_, _, _, _, o, _, _, e, ex, _⟩ := I.hok p _ hk
          exact ⟨o, e, ex⟩
      obtain ⟨o, e, ex⟩ := z
      refine ⟨⟨o, e, ex.1⟩, fun a e2 => ?_⟩
      cases e2
      exact ⟨o, e, ex.2.1⟩
    · obtain ⟨o, _, _, _, e, ex, _⟩ := I.hok p _ hk
      refine ⟨⟨o, e, ex.1⟩, fun a e2 => ?_⟩
      cases e2
      exact ⟨o, e, ex.2.1⟩
  | _ => exact False.elim ty
def tBM (K : PySem.W.Frag) (T : String) (r : V → List V → Hp → VK → Prop) (to : TE) (t : TA) : TE := fun σ H Q => to σ H fun x H1 => tyV K T x H1 ∧ t σ H1 fun xs H2 => r x xs H2 Q
variable {o e : Expr} {es : List Expr} {to : TE} {t : TA} {name : Str} {apos cpos : Pos} {T id : String} {r : V → List V → Hp → VK → Prop}
theorem pe_bm (pa : PlainAttrs T) (slot : Slot T name id) (hty : typeOf (.builtin id) = pure (.type "method_descriptor")) (hm : MtR X id r) (ho : PE X o to) (ha : PA X (e :: es) t)
    (hbase : attributeBase o name X.env (eval o X.env) = eval o X.env := by rfl)
    (hfew : ((backTo cpos (starEach (e :: es) X.env)).all (fun x => !x.1) && (backToKw cpos (keywordEach [] X.env)).all (fun x => x.1.isSome)
      && decide ((e :: es).length + ([] : List Keyword).length + (if ([] : List Keyword).isEmpty then 0 else 1) < 30)) = true := by rfl)
    (hline : (apos.endLine == cpos.line) = true := by rfl) (hs : starEach (e :: es) X.env = (false, eval e X.env) :: starEach es X.env := by rfl) (hplain : (backTo cpos (starEach es X.env)).any (·.1) = false := by rfl) :
    PE X (.Call (.Attribute o name apos) (e :: es) [] cpos) (tBM X.K T r to t) := by
  intro pins s σ H Q I h
  refine wpAny_Call_method_late hbase hfew hline rfl (thn (ho pins s σ H _ I h) fun v s1 ⟨x, H1, I1, r1, ty, q1⟩ => ?_)
  obtain ⟨h1, h2⟩ := tyV_is I1 r1 ty
  refine ⟨T, id, pa, slot, hty, h1, h2, ?_⟩
  have hA := ha cpos pins s1 σ H1 _ I1 q1
  rw [hs] at hA ⊢
  refine Calls.callWith_builtin (by show (false || (backTo cpos (starEach es X.env)).any (·.1)) = false; rw [hplain] <;> rfl) (Calls.evalArgs_plain ?_)
  exact thn hA fun us s2 ⟨vs, H2, I2, r2, q2⟩ => hm pins s2 σ H2 x vs v us Q I2 r1 r2 q2
/- xs.append(e), list.index on a module's tuple .. are MtR facts of 06m -/
end
end L2
namespace L2
open PySem PySem.Spec PyProof.Rows
def MtM (X : Cx) (id : String) (r : V → List V → Hp → VK → Prop) : Prop :=
  ∀ (pins : List (Addr × Obj)) (s : Shared) (σ : St) (H : Hp) (x : V) (xs : List V) (v : Value) (us : List Value) (Q : VK), Inv X pins σ H s → RelV x v → Vals xs us → r x xs H Q →
    wpAny (model X.prog X.w) X.A (call (.builtin id) (v :: us)) (EP X pins σ Q) X.xe s
theorem Vals.one : ∀ {x : V} {us : List Value}, Vals [x] us → ∃ u, us = [u] ∧ RelV x u
  | _, _, .cons r .nil => ⟨_, rfl, r⟩
theorem Vals.two : ∀ {x y : V} {us : List Value}, Vals [x, y] us → ∃ u v, us = [u, v] ∧ RelV x u ∧ RelV y v
  | _, _, _, .cons r (.cons q .nil) => ⟨_, _, rfl, r, q⟩
section
variable {X : Cx} {pins : List (Addr × Obj)} {σ : St} {H : Hp} {s : Shared} {l b : Addr} {xs ys zs : List V}
theorem Inv.lset {its its' : List Value} {n : Nat} {f : Array Value → Array Value} {t' : Nat} (I : Inv X pins σ H s) (hH : H l = some (.lst xs))
    (e : s.heap.get? l = some { cls := .type "list", data := .seq its.toArray n }) (hf : f its.toArray = its'.toArray) (hv : Vals ys its') (hz : ys.length ≤ sizeLine) :
    Inv X pins σ (upd H l (.lst ys)) { s with heap := s.heap.update l (Obj.mapSeq f), toks := t' } := by
  have q := PySem.IsL.update e f
  rw [hf] at q
  refine I.write (x := l) (e := l) (by rw [hH]; exact trivial) (.inl rfl) (fun b' u hb hu => (Heap.get?_update_other s.heap (Obj.mapSeq f) (Ne.symm hb)).trans hu) ⟨_, q⟩ ?_
  exact ⟨hz, its', _, hv, q⟩
theorem Inv.lnew {its : List Value} {t' : Nat} (I : Inv X pins σ H s) (hv : Vals ys its) (hz : ys.length ≤ sizeLine) :
    Inv X pins σ (upd H s.heap.objs.size (.lst ys)) { s with heap := s.heap.push { cls := .type "list", data := .seq its.toArray }, toks := t' } :=
  I.laid (fun _ _ q => Heap.get?_push_of_some _ q) (Nat.le_refl _) ⟨hz, its, 0, hv, Heap.get?_push_size _ rfl⟩
theorem Inv.fresh (I : Inv X pins σ H s) : H s.heap.objs.size = none := I.hok.fresh (Nat.le_refl _)
theorem Inv.lstM (I : Inv X pins σ H s) (hH : H l = some (.lst xs)) : xs.length ≤ sizeLine ∧ ∃ (its : List Value) (n : Nat), Vals xs its ∧ xs.length = its.length ∧ s.heap.get? l = some { cls := .type "list", data := .seq its.toArray n } := by
  obtain ⟨z, its, n, r, e⟩ := I.hok l _ hH
  exact ⟨z, its, n, r, r.length, e⟩
end
section
variable {X : Cx}
def rAppend : V → List V → Hp → VK → Prop := fun x vs H Q => ∃ l xs y, x = .ref l ∧ vs = [y] ∧ H l = some (.lst xs) ∧ xs.length < sizeLine ∧ Q .non (upd H l (.lst (xs ++ [y])))
theorem mt_append : MtM X "list.append" rAppend := by
  intro pins s σ H x vs v us Q I rx rv h
  obtain ⟨l, xs, y, rfl, rfl, hH, hz, q⟩ := h
  cases rx
  obtain ⟨u, rfl, ru⟩ := rv.one
  obtain ⟨z, its, n, r, hl, e⟩ := I.lstM hH
  refine call_meets F.slot_list_append ⟨_, e, rfl⟩ F.entry_list_append (F.args_list_append_2 _ _) (PySem.list_append l its.toArray n u (by rw [List.size_toArray]; omega)) ⟨e, ?_⟩
  refine ⟨.non, _, I.lset (its' := its ++ [u]) hH e (by simp) (r.append (.cons ru .nil)) ?_, rfl, q⟩
  rw [List.length_append, List.length_singleton]
  omega
def rCat : R2 := fun x y H Q => ∃ l b xs zs, x = .ref l ∧ y = .ref b ∧ H l = some (.lst xs) ∧ H b = some (.lst zs) ∧ xs.length + zs.length ≤ sizeLine ∧ ∀ p, H p = none → Q (.ref p) (upd H p (.lst (xs ++ zs)))
theorem op_cat : OpR X (binaryOp .Add) rCat := by
  intro pins s σ H x y v u Q I rx ry h
  obtain ⟨l, b, xs, zs, rfl, rfl, hH, hB, hz, q⟩ := h
  cases rx
  cases ry
  obtain ⟨z, its, n, r, hl, e⟩ := I.lstM hH
  obtain ⟨z2, its2, n2, r2, hl2, e2⟩ := I.lstM hB
  refine PySem.P.add_list e e2 ?_ (by rw [List.size_toArray, List.size_toArray]; omega)
  have ea : its.toArray ++ its2.toArray = (its ++ its2).toArray := by simp
  rw [ea]
  exact ⟨.ref _, _, I.lnew (t' := s.toks) (r.append r2) (by rw [List.length_append]; omega), rfl, q _ I.fresh⟩
end
section
variable {prog : Program} {w : World} {A : Around} {E : Value → Shared → Prop} {s : Shared}
set_option maxRecDepth 100000 in
end
section
variable {X : Cx}
end
end L2
namespace Att
open PySem PySem.W PySem.Calls PyProof.Rows
theorem ints_of_wellAll {P : Params} {h : Heap} : ∀ (ns : List Int) (vs : List Value), WellAll P h vs (ns.map WData.int) → IntsAre vs ns := by
  intro ns
  induction ns with
  | nil =>
    intro vs w
    rw [List.map_nil] at w
    cases w
    exact .nil
  | cons n ns ih =>
    intro vs w
    rw [List.map_cons] at w
    cases w with
    | cons a b =>
      cases a
      exact .cons _ _ (ih _ b)
theorem script_of {l : OpenLaw} {n : Nat} (hn : l.most = some n) {P : Params} {h : Heap} {args : List WData} {vals : List Value}
    (hpre : l.row.toRowW.claim.pre args = true) (hwl : WellAll P h vals args) :
    ∃ a vs ns, vals = [Value.ref a] ∧ args = [WData.list (ns.map WData.int)] ∧ h.get? a = some { cls := .type "list", data := .seq vs.toArray } ∧ IntsAre vs ns ∧ ns.length ≤ n := by
  have hsh : WShape.hasAll [] args [.list .int] = true := (pre_splitW hpre).1
  have hc : l.pre.holds [] { args := args } = true := (pre_splitW hpre).2
  obtain ⟨d, r, rfl, h1, h2⟩ := hasAllW_cons hsh
  obtain rfl := hasAllW_nil h2
  obtain ⟨xs, rfl, h3⟩ := hasW_list h1
  obtain ⟨ns, rfl⟩ := items_int h3
  have hlen : ns.length ≤ n := by
    unfold OpenLaw.pre at hc
    have h4 : (WTm.not (.lt (.lit (.int (n : Int))) (.len (.arg 0)))).holds [] { args := [.list (ns.map .int)] } = true := by
      have h4 := (holds_andW hc).1
      rw [hn] at h4
      exact h4
    have h5 := condW_of h4 (w_not (w_lt w_lit (w_len_list (w_arg rfl))))
    rw [List.length_map] at h5
    refine Nat.le_of_not_lt fun q => ?_
    have q' : (n : Int) < ((ns.length : Nat) : Int) := by omega
    first
      | (rw [decide_eq_true q'] at h5; exact absurd h5 (by decide))
      | (simp at h5; omega)
  cases hwl with
  | cons w1 w2 =>
    cases w2
    cases w1 with
    | list ho hall => exact ⟨_, _, ns, rfl, rfl, ho, ints_of_wellAll ns _ hall, hlen⟩
theorem post_true (l : OpenLaw) (args : List WData) : l.row.toRowW.claim.post args (.bool true) args = true :=
  postW_of (r := l.row.toRowW) (X := (true == true))
    (show WShape.has [] (.bool true) .bool = true by first | rfl | decide | simp [WShape.has, WShape.arms, WShape.armsAll])
    (show (WTm.eq .res (.lit (.bool true))).value [] { args := args, res := some (.bool true), after := args } = some (.bool (true == true)) from w_eq_bool (w_res rfl) w_lit) rfl
theorem attach_call {l : OpenLaw} {n : Nat} {q : Program} {loose : List Str} {XP : (Str → Option Value) → Heap → Prop} {YP : World → Heap → Prop} {d : DefRec}
    (hn : l.most = some n) (hdf : d.params.defaults = [])
    (call : ∀ (w : World) (s₀ s₁ : Shared) (mg mb : Str → Option Value) (fa : Addr) (o : Obj) (pm cd doc : Value) (a : Addr) (vs : List Value) (ns : List Int),
      Ground q loose [] XP w s₀ mg mb s₁.heap → YP w s₁.heap →
      s₁.heap.get? fa = some o → o.data = .func (docDef d.name d.params d.body d.scope pm cd doc) → s₁.heap.CodeRec cd d.name → mg d.name = some (.ref fa) →
      s₁.heap.get? a = some { cls := .type "list", data := .seq vs.toArray } → IntsAre vs ns → ns.length ≤ n → s₁.gens = #[] →
      codeAny (model l.prog w) callerA (.call (.ref fa) ⟨[.ref a], []⟩) (fun r s' => r = .ok (.ret (.bool true)) ∧ OldK s₁.heap s'.heap ∧ s'.os = s₁.os ∧ AllBare s'.gens) s₁) :
    WalkO q loose XP YP l.row.toRowW d [] (fun f vs => PySem.call f vs) := by
  intro w s₀ s₁ mg mb G Y fa o pm cd doc dV kV ho hd hcd hD hmg hg args vals as hpre hlay hrd hwl hlo
  obtain rfl : dV = .none := Dflts.none hD hdf
  obtain rfl : kV = .none := Dflts.noKw hD
  obtain ⟨a, vs, ns, rfl, rfl, hobj, hints, hlen⟩ := script_of hn hpre hwl
  refine enter_call (codeAny_mono (call w s₀ s₁ mg mb fa o pm cd doc a vs ns G Y ho (fd_plain hd) hcd hmg hobj hints hlen hg) fun r s' hq => ?_)
  obtain ⟨rfl, h2, h3, h4⟩ := hq
  exact ⟨.inl ⟨.bool true, .bool true, [], rfl, fun _ => rfl, .bool true, post_true l _, fun _ => ⟨List.Pairwise.nil, fun _ hm => (nomatch hm)⟩⟩, h2, h3, h4⟩
section
variable {prog : Program} {w : World} {A : Around} {E : Value → Shared → Prop} {s : Shared} {K : Frag}
end
end Att
namespace L2
open PySem PySem.Spec PyProof.Rows
theorem vals_ints : ∀ {vs : List Value} {ns : List Int}, IntsAre vs ns → Vals (ns.map V.int) vs
  | _, _, .nil => .nil
  | _, _, .cons n t h => .cons ⟨t, rfl⟩ (vals_ints h)
def Only (H : Hp) : Prop := ∀ b, H b = none ∨ ∃ o xs, H b = some (.frz o (.lst xs))
theorem law_call {P : Program} {w : World} {K : PySem.W.Frag} {mg mb : Str → Option Value} {CX : CXT} {k : Nat} {fa a : Addr} {fd : FuncData} {x : Str} {sp : Sp} {s₁ : Shared} {vs : List Value} {ns : List Int}
    (KX : K.In s₁.heap) (hns : s₁.heap.Ns mainGlobals mg) (hb : s₁.heap.Ns builtinsNs mb) (hbb : ∀ x : Str, x ≠ "__name__" → mb x = bootBuiltins x) (hlim : s₁.heap.NoLimit) (hg : s₁.gens = #[])
    (ha : s₁.heap.get? a = some { cls := .type "list", data := .seq vs.toArray }) (hi : IntsAre vs ns) (hl : ns.length ≤ sizeLine) (hr : Room k callerA)
    (F : ∀ base : Heap, K.In base → base.Ns mainGlobals mg → FnOk P w K mg base CX k fa fd [x] sp) (hbind : ∀ (s : Shared) (u : Value), BindsTo s fd ⟨[u], []⟩ [(x, u)])
    (hsp : ∀ H : Hp, Only H → SqL K H a (ns.map V.int) → sp [.ref a] H (fun v _ => v = .bl true) fun _ _ _ => False)
    (hCX : ∀ H e s', CX [] H s₁ (fun _ _ _ => False) e s' → False) :
    codeAny (model P w) callerA (.call (.ref fa) ⟨[.ref a], []⟩) (fun r s' => r = .ok (.ret (.bool true)) ∧ OldK s₁.heap s'.heap ∧ s'.os = s₁.os ∧ AllBare s'.gens) s₁ := by
  have rv := vals_ints hi
  have lenV := hi.length
  have core : ∀ H : Hp, Only H → SqL K H a (ns.map V.int) → HOk P w H s₁.heap → (∀ b, H b ≠ none → b = a) → (H a ≠ none → K.lookup a = none) →
      codeAny (model P w) callerA (.call (.ref fa) ⟨[.ref a], []⟩) (fun r s' => r = .ok (.ret (.bool true)) ∧ OldK s₁.heap s'.heap ∧ s'.os = s₁.os ∧ AllBare s'.gens) s₁ := by
    intro H hO hS hok hA hK
    have base_of : ∀ {b : Addr} {o : Obj}, s₁.heap.get? b = some o → H b = none → (hidT s₁.heap H).get? b = some o := fun e n => hidT_get e n
    have noA : ∀ {b : Addr} {o : Obj} {es : Array DictEntry} {ep : Nat}, s₁.heap.get? b = some o → o.data = .dict es ep → H b = none := fun {b o es ep} e d => by
      cases q : H b with
      | none => rfl
      | some u =>
        have e' : b = a := hA b (by rw [q]; simp)
        subst e'
        rw [ha] at e; cases e
        have d' : Data.seq vs.toArray _ = Data.dict es ep := d
        cases d'
    have nsK : ∀ {b : Addr} {m : Str → Option Value}, s₁.heap.Ns b m → (hidT s₁.heap H).Ns b m := fun {b m} ⟨o, es, ep, e, d, r⟩ => ⟨o, es, ep, base_of e (noA e d), d, r⟩
    have hKb : K.In (hidT s₁.heap H) := fun b o e => base_of (KX b o e) (by
      cases q : H b with
      | none => rfl
      | some u =>
        have e' : b = a := hA b (by rw [q]; simp)
        subst e'
        rw [hK (by rw [q]; simp)] at e; cases e)
    have hM : Mod K mg (hidT s₁.heap H) := ⟨hKb, nsK hns, ⟨mb, nsK hb, hbb⟩, let ⟨mc, h1, h2⟩ := hlim; ⟨mc, nsK h1, h2⟩⟩
    have e0 : Env0 P w K mg (hidT s₁.heap H) callerA [] s₁ H := ⟨rfl, hM, fun b o e => of_hidT e, Nat.le_of_eq (hidT_size _ _), trivial, fun b hb => absurd (show b ∈ ([] : List Addr) from hb) (by simp), hok, .of_eq hg⟩
    refine codeAny_mono ((F _ hKb (nsK hns)).run callerA [] s₁ H ⟨[.ref a], []⟩ [.ref a] [.ref a] _ _ hr e0 (hbind s₁ (.ref a)) (.cons rfl .nil) (hsp H hO hS)) fun r s' h => ?_
    cases r with
    | error e => exact (hCX H e s' h).elim
    | ok fl =>
      cases fl with
      | next => exact False.elim h
      | brk => exact False.elim h
      | cont => exact False.elim h
      | ret u =>
        obtain ⟨v, H', os, bare, un, hok', r', q⟩ := h
        have q' : v = .bl true := q
        subst q'
        obtain rfl : u = Value.bool true := r'
        refine ⟨rfl, OldK.of_keep fun b o e => ?_, os, bare⟩
        cases q : H b with
        | none => exact un.keep b o e q (by intro z; exact absurd (show b ∈ ([] : List Addr) from z) (by simp)) (by simp)
        | some u =>
          rcases hO b with z | ⟨ob, xs, z⟩
          · rw [q] at z; cases z
          · have z2 := un.frzs b ob _ z
            obtain ⟨e1, _⟩ := hok b _ z
            obtain ⟨e2, _⟩ := hok' b _ z2
            rw [e] at e1; cases e1
            exact e2
  cases hk : K.lookup a with
  | some o =>
    have e := KX a o hk
    rw [ha] at e
    cases e
    refine core (fun _ => none) (fun _ => .inl rfl) (.inr ⟨_, vs.toArray, _, hk, rfl, rfl, rfl, by rw [List.size_toArray, lenV]; exact hl, by simpa using rv⟩) (fun b u z => by have z' : (none : Option HO) = some u := z; cases z') (fun b z => absurd rfl z) fun z => absurd rfl z
  | none =>
    refine core (fun b => if b = a then some (.frz { cls := .type "list", data := .seq vs.toArray } (.lst (ns.map V.int))) else none) (fun b => ?_) (.inl (.inr ⟨{ cls := .type "list", data := .seq vs.toArray }, if_pos rfl⟩)) (fun b u z => ?_) (fun b z => ?_) fun _ => hk
    · by_cases hb : b = a
      · exact .inr ⟨_, _, if_pos hb⟩
      · exact .inl (if_neg hb)
    · by_cases hb : b = a
      · have z' := (if_pos hb).symm.trans z
        cases z'
        subst hb
        exact ⟨ha, by rw [List.length_map]; exact hl, vs, _, rv, ha⟩
      · have z' := (if_neg hb).symm.trans z
        cases z'
    · by_cases hb : b = a
      · exact hb
      · exact absurd (if_neg hb) z
end L2
namespace L2
open PySem PySem.Spec PyProof.Rows
theorem walk_of {l : PySem.W.OpenLaw} {n k : Nat} {q : Program} {loose : List Str} {XP : (Str → Option Value) → Heap → Prop} {YP : World → Heap → Prop} {d : DefRec} {K : Params → PySem.W.Frag} {CX : World → CXT} {sp : World → Sp} {x : Str}
    (hn : l.most = some n) (hn2 : n ≤ sizeLine) (hdf : d.params.defaults = []) (hr : Room k callerA)
    (hY : ∀ (w : World) (h : Heap), YP w h → (K w.params).In h)
    (F : ∀ (w : World) (mg : Str → Option Value) (fa : Addr) (h : Heap), (K w.params).In h → h.Ns mainGlobals mg → mg d.name = some (.ref fa) →
      ∃ fd : FuncData, (∀ (s : Shared) (u : Value), BindsTo s fd ⟨[u], []⟩ [(x, u)]) ∧
        ∀ base : Heap, (K w.params).In base → base.Ns mainGlobals mg → FnOk l.prog w (K w.params) mg base (CX w) k fa fd [x] (sp w))
    (hsp : ∀ (w : World) (H : Hp) (a : Addr) (ns : List Int), ns.length ≤ n → Only H → SqL (K w.params) H a (ns.map V.int) → sp w [.ref a] H (fun v _ => v = .bl true) fun _ _ _ => False)
    (hCX : ∀ (w : World) (H : Hp) (s : Shared) (e : Value) (s' : Shared), CX w [] H s (fun _ _ _ => False) e s' → False) :
    PySem.W.WalkO q loose XP YP l.row.toRowW d [] (fun f vs => PySem.call f vs) := by
  refine Att.attach_call hn hdf fun w s₀ s₁ mg mb fa o pm cd doc a vs ns G Y ho hd hcd hmg hobj hints hlen hg => ?_
  have KX := hY w _ Y
  obtain ⟨fd, hb, hF⟩ := F w mg fa _ KX G.T.g hmg
  exact law_call KX G.T.g G.T.b G.T.builtins G.T.nolimit hg hobj hints (Nat.le_trans hlen hn2) hr hF hb (fun H hO hS => hsp w H a ns hlen hO hS) fun H e s' => hCX w H s₁ e s'
end L2
/- THE LAST THEOREM (shape; LID, My.* are yours):
   My.Adr: a structure of the addresses that your layer names (classes, functions); My.Txt K t: a structure (Prop) of the equations over K;
   My.txt_mk : {K} {implicit addresses ..} (e1 : nsIn K mainGlobals "law" = some (some (.ref f))) (e2 : K.lookup f = some ⟨oc, od, .func (fnOf "law" "law" params body scope dV kV doc pm an cdv ct), sl⟩) (e3 : codeIn K cdv "law" = true) .. : ∃ t, My.Txt K t
set_option maxRecDepth 100000 in
set_option maxHeartbeats 0 in
theorem PySem.Challenge.cw_LID_holds : PySem.Challenge.rw_LID.Holds := by
  w_on; o_law; k_head; (case hw => w_witness2)
  k_fill
  refine L2.walk_of (l := PySem.Challenge.rw_LID) (n := 63) (k := 40) (x := "script") (CX := fun w => ..) (sp := fun _ => My.sp_law) rfl (by decide) rfl ⟨rfl, by decide, by decide⟩ (fun w h Y => PySem.W.kIn_of Y) ?F ?S ?C
  case F =>
    intro w mg fa h KX G hmg
    have T : ∃ t, My.Txt (L2.KOf KX) t := by
      dsimp only [L2.KOf]                          -- K must stand as «<heap const> w.params» for k_is
      refine' My.txt_mk ?e1 ?e2 ?e3 ..
      (case e1 => PySem.W.k_is)                    -- in the order: a name -> its address -> its object -> its parts
      (case e2 => PySem.W.k_is)
      ..
    obtain ⟨t, T⟩ := T
    have e0 := hmg.symm.trans (PySem.W.mg_of KX G T.law)
    cases e0                                       -- fa is the law's own address
    exact ⟨_, fun s u => .of_eq rfl, fun base kb nb => My.law_fn T kb nb⟩     -- if «.of_eq rfl» comes too early: refine' ⟨_, ?b, fun base kb nb => My.law_fn T kb nb⟩; exact fun s u => .of_eq rfl
  case S => exact fun w H a ns hl hO hS => ..
  case C => exact ..
(the tactic k_is has no namespace: write k_is) -/
namespace L2
open PySem PySem.Spec PyProof.Rows
def defArgs (s : Stmt) : Arguments := match s with
  | .FunctionDef _ a _ _ _ _ _ _ _ _ => a
  | _ => { posonlyargs := [], args := [], vararg := none, kwonlyargs := [], kw_defaults := [], kwarg := none, defaults := [] }
def defBody (s : Stmt) : List Stmt := match s with
  | .FunctionDef _ _ b _ _ _ _ _ _ _ => b
  | _ => []
def defScope (s : Stmt) : Scope := match s with
  | .FunctionDef _ _ _ _ _ _ sc _ _ _ => sc
  | _ => { kind := .function, names := [], isGenerator := false, isCoroutine := false }
abbrev CX0 : CXT := fun _ _ _ _ _ _ => False
abbrev E0 : XK := fun _ _ _ => False
theorem pass0 {X : Cx} : Passes CX0 X E0 := fun _ _ _ _ _ _ _ h => h.elim
structure Fun (K : PySem.W.Frag) (x qual : Str) (st : Stmt) (f : Addr) (fd : FuncData) : Prop where
  ex : ∃ (oc : Value) (od : Option Addr) (kV doc pm : Value) (an : Option Addr) (cdv ct : Value) (osl : Array (Option Value)),
    fd = PySem.W.fnOf x qual (defArgs st) (defBody st) (defScope st) .none kV doc pm an cdv ct ∧ K.lookup f = some ⟨oc, od, .func fd, osl⟩ ∧ PySem.W.codeIn K cdv qual = true
  kp : PySem.W.keepIn K (.ref f) = true
section
variable {P : Program} {w : World} {K : PySem.W.Frag} {mg : Str → Option Value} {base : Heap}
theorem Fun.ok {x qual : Str} {st : Stmt} {f : Addr} {fd : FuncData} {N ps : List Str} {k : Nat} {sp : Sp} (F : Fun K x qual st f fd) (S : FnScope N ps (defScope st)) (len : ∀ vs H Q E, sp vs H Q E → vs.length = ps.length)
    (hbody : ∀ (cdv : Value) (A : Around) (outer : List Env) (s : Shared) (H : Hp) (vs : List V) (Q : VK) (E : XK), Room k (A.deeper (envOfC qual (defScope st) s.heap.objs.size f cdv)) → sp vs H Q E →
      ∃ t, PSs (cxOf CX0 P w K mg base N qual (defScope st) f cdv A outer s H E).nox (defBody st) t ∧ t { nx := fun _ H' => Q .non H', rt := Q } (start N vs) H) : FnOk P w K mg base CX0 (k + 1) f fd ps sp := by
  obtain ⟨oc, od, kV, doc, pm, an, cdv, ct, osl, rfl, lk, hcd⟩ := F.ex
  refine fn_of lk hcd S len fun A outer s H vs Q E hr hsp => ?_
  obtain ⟨t, h, q⟩ := hbody cdv A outer s H vs Q E hr hsp
  exact ⟨t, h.nox, q⟩
theorem Fun.binds {x qual : Str} {st : Stmt} {f : Addr} {fd : FuncData} {ps : List Str} (F : Fun K x qual st f fd)
    (h : ∀ (kV doc pm : Value) (an : Option Addr) (cdv ct : Value) (us : List Value), us.length = ps.length → bindArgs (PySem.W.fnOf x qual (defArgs st) (defBody st) (defScope st) .none kV doc pm an cdv ct) ⟨us, []⟩ = pure (ps.zip us)) : Binds K fd ps [] := by
  obtain ⟨oc, od, kV, doc, pm, an, cdv, ct, osl, rfl, lk, hcd⟩ := F.ex
  exact .all (h kV doc pm an cdv ct)
theorem fun_mk {x qual : Str} {st : Stmt} {f : Addr} {oc : Value} {od an : Option Addr} {osl : Array (Option Value)} {kV doc pm cdv ct : Value} (l : K.lookup f = some ⟨oc, od, .func (PySem.W.fnOf x qual (defArgs st) (defBody st) (defScope st) .none kV doc pm an cdv ct), osl⟩)
    (c : PySem.W.codeIn K cdv qual = true) (k : PySem.W.keepIn K (.ref f) = true) : Fun K x qual st f (PySem.W.fnOf x qual (defArgs st) (defBody st) (defScope st) .none kV doc pm an cdv ct) := ⟨⟨oc, od, kV, doc, pm, an, cdv, ct, osl, rfl, l, c⟩, k⟩
end
section
variable {X : Cx}
theorem pv (i : Nat) {x : Str} {pos : Pos} (hN : X.N[i]? = some x := by rfl) (hv : Vis X.env.scope x := by first | exact Or.inl rfl | exact Or.inr (Or.inl rfl) | exact Or.inr (Or.inr rfl)) (hd : (x == ("__debug__" : Str)) = false := by decide)
    (hcd : (x == ("__classdict__" : Str)) = false := by decide) : PE X (.Name x pos) (tVar i) := pe_var hN hv hd hcd
end
theorem iteF {A B : Prop} (h : B) : if false = true then A else B := by
  rw [if_neg Bool.false_ne_true]
  exact h
theorem iteT {A B : Prop} (h : A) : if true = true then A else B := by
  rw [if_pos rfl]
  exact h
theorem ite2 {c A B : Prop} [Decidable c] (h1 : c → A) (h2 : ¬ c → B) : if c then A else B := by
  by_cases h : c
  · rw [if_pos h]
    exact h1 h
  · rw [if_neg h]
    exact h2 h
def Same (H H' : Hp) : Prop := ∀ b o, H b = some o → H' b = some o
theorem Same.seq {K : PySem.W.Frag} {H H' : Hp} {a : Addr} {xs : List V} (e : Same H H') (h : SqL K H a xs) : SqL K H' a xs := by
  rcases h with (h | ⟨o, h⟩) | h
  · exact .inl (.inl (e _ _ h))
  · exact .inl (.inr ⟨o, e _ _ h⟩)
  · exact .inr h
end L2
set_option Elab.async false
set_option linter.all false
set_option maxRecDepth 100000
namespace L2
open PySem PySem.Spec PyProof.Rows
section
variable {κ : Type} [DecidableEq κ]
end
section
variable {P : Program} {w : World} {H : Hp} {h : Heap} {a : Addr}
end
section
variable {X : Cx} {pins : List (Addr × Obj)} {σ : St} {H : Hp} {s : Shared} {a : Addr} {y v : V} {u r : Value} {o : Option V} {A : Around} {E : Value → Shared → Prop}
theorem Inv.big (I : Inv X pins σ H s) : sysModules < s.heap.objs.size := by
  have h : mainGlobals < s.heap.objs.size := (I.mod.glob.keeps I.bk).lt
  exact Nat.lt_trans (by decide) h
end
section
variable {X : Cx} {pins : List (Addr × Obj)} {σ : St} {H : Hp} {s : Shared} {a : Addr} {kvs : List (Key × V)} {k : Key} {u : Value} {A : Around} {E : Value → Shared → Prop}
end
section
variable {X : Cx} {o i e value : Expr} {pos pos' tpos : Pos} {td ty tv : TE}
end
theorem dk_empty {P : Program} {w : World} {H : Hp} (h : Heap) (hb : sysModules < h.objs.size) : ObjOk P w H (h.push { cls := .type "dict", data := .dict #[] }) h.objs.size (.dK []) :=
  ⟨Nat.zero_le _, beq_eq_false_iff_ne.mpr (Ne.symm (Nat.ne_of_lt hb)), [], .nil, Heap.DictOf.new h⟩
def tDNewK : TE := fun _ H Q => ∀ p, H p = none → Q (.ref p) (upd H p (.dK []))
section
variable {X : Cx} {pos : Pos}
theorem pe_dnewK : PE X (.Dict [] [] pos) tDNewK := fun pins s σ H Q I h =>
  wpAny_Dict_empty ⟨.ref s.heap.objs.size, _, I.laid (a := s.heap.objs.size) (o := .dK []) (t' := s.toks) (fun _ _ q => Heap.get?_push_of_some _ q) (Nat.le_refl _) (dk_empty s.heap I.big), rfl, h _ (I.hok.fresh (Nat.le_refl _))⟩
end
section
variable {X : Cx} {pins : List (Addr × Obj)} {σ : St} {H : Hp} {s : Shared} {a : Addr} {y d : V} {u r : Value} {o : Option V} {A : Around} {E : Value → Shared → Prop}
end
section
variable {X : Cx} {o e f : Expr} {apos cpos : Pos} {td ty tx : TE}
end
section
variable {X : Cx} {pins : List (Addr × Obj)} {σ : St} {H : Hp} {s : Shared} {a : Addr} {kvs : List (Key × V)} {A : Around} {E : Value → Shared → Prop}
end
section
variable {X : Cx} {pins : List (Addr × Obj)} {σ : St} {H : Hp} {s : Shared} {a : Addr} {y : V} {u : Value} {A : Around} {E : Value → Shared → Prop}
end
end L2
namespace L2
open PySem PySem.Spec PyProof.Rows
section
variable {X : Cx}
end
section
variable {κ : Type} [DecidableEq κ]
end
end L2
set_option Elab.async false
set_option linter.all false
set_option maxRecDepth 100000
set_option maxHeartbeats 4000000
namespace L2
open PySem PySem.Spec PyProof.Rows
def clOf (env : Env) : List (Str × NameKind) → List (Str × Addr) → List (Str × Addr)
  | [], cs => cs
  | (n, k) :: r, cs => if (k == NameKind.free) = true then (match env.cells.lookup n with | some c => clOf env r ((n, c) :: cs) | none => clOf env r cs) else clOf env r cs
theorem closure_list {env : Env} : ∀ (l : List (Str × NameKind)) (cs : List (Str × Addr)), (∀ x ∈ l, x.2 = .free → ∃ c, env.cells.lookup x.1 = some c) →
    (forIn l cs (fun (x : Str × NameKind) (cs : List (Str × Addr)) => match x with
      | (name, kind) => if (kind == NameKind.free) = true then (do let c ← cellOf env name; pure (ForInStep.yield ((name, c) :: cs))) else pure (ForInStep.yield cs)) : Sem (List (Str × Addr))) = pure (clOf env l cs)
  | [], _, _ => rfl
  | (n, k) :: r, cs, h => by
    rw [List.forIn_cons]
    have hr : ∀ x ∈ r, x.2 = .free → ∃ c, env.cells.lookup x.1 = some c := fun x hx => h x (List.mem_cons_of_mem _ hx)
    by_cases hk : (k == NameKind.free) = true
    · obtain ⟨c, hc⟩ := h (n, k) List.mem_cons_self (by simpa using hk)
      have e1 : clOf env ((n, k) :: r) cs = clOf env r ((n, c) :: cs) := by
        show (if (k == NameKind.free) = true then _ else _) = _
        rw [if_pos hk]
        have hc : env.cells.lookup n = some c := hc
        rw [hc]
      have e2 : cellOf env n = pure c := by
        have hc : env.cells.lookup n = some c := hc
        unfold cellOf; rw [hc]
      rw [e1, ← closure_list r ((n, c) :: cs) hr]
      show (if (k == NameKind.free) = true then (do let c ← cellOf env n; pure (ForInStep.yield ((n, c) :: cs))) else pure (ForInStep.yield cs)) >>= _ = _
      rw [if_pos hk, e2, pure_bind, pure_bind]
    · have e1 : clOf env ((n, k) :: r) cs = clOf env r cs := by
        show (if (k == NameKind.free) = true then _ else _) = _
        rw [if_neg hk]
      rw [e1, ← closure_list r cs hr]
      show (if (k == NameKind.free) = true then (do let c ← cellOf env n; pure (ForInStep.yield ((n, c) :: cs))) else pure (ForInStep.yield cs)) >>= _ = _
      rw [if_neg hk, pure_bind]
theorem closureFor_of {scope : Scope} {env : Env} (h : ∀ x ∈ scope.names, x.2 = .free → ∃ c, env.cells.lookup x.1 = some c) : closureFor scope env = pure (clOf env scope.names []) := by
  unfold closureFor
  have e := closure_list (env := env) scope.names [] h
  first
    | exact e
    | (refine Eq.trans ?_ e; rfl)
    | (rw [bind_pure]; exact e)
    | simpa using e
theorem clOf_sub {env : Env} {x : Str} {c : Addr} : ∀ {l : List (Str × NameKind)} {cs : List (Str × Addr)}, (∀ y d, cs.lookup y = some d → env.cells.lookup y = some d) → (clOf env l cs).lookup x = some c → env.cells.lookup x = some c
  | [], cs, h, e => h x c e
  | (n, k) :: r, cs, h, e => by
    unfold clOf at e
    by_cases hk : (k == NameKind.free) = true
    · rw [if_pos hk] at e
      cases q : env.cells.lookup n with
      | none => rw [q] at e; exact clOf_sub h e
      | some d =>
        rw [q] at e
        refine clOf_sub (fun y z hy => ?_) e
        rw [List.lookup_cons] at hy
        cases hyn : y == n with
        | true =>
          rw [hyn] at hy
          have : y = n := by simpa using hyn
          subst this
          rw [q]; exact hy
        | false => rw [hyn] at hy; exact h y z hy
    · rw [if_neg hk] at e; exact clOf_sub h e
theorem clOf_keeps {env : Env} {x : Str} {c : Addr} (hx : env.cells.lookup x = some c) : ∀ {l : List (Str × NameKind)} {cs : List (Str × Addr)}, cs.lookup x = some c → (clOf env l cs).lookup x = some c
  | [], _, h => h
  | (n, k) :: r, cs, h => by
    unfold clOf
    by_cases hk : (k == NameKind.free) = true
    · rw [if_pos hk]
      cases q : env.cells.lookup n with
      | none => exact clOf_keeps hx h
      | some d =>
        refine clOf_keeps hx ?_
        rw [List.lookup_cons]
        cases hxn : x == n with
        | true =>
          have : x = n := by simpa using hxn
          subst this
          rw [← q, hx]
        | false => exact h
    · rw [if_neg hk]; exact clOf_keeps hx h
theorem clOf_has {env : Env} {x : Str} {c : Addr} (hx : env.cells.lookup x = some c) : ∀ {l : List (Str × NameKind)} {cs : List (Str × Addr)}, (x, NameKind.free) ∈ l → (clOf env l cs).lookup x = some c
  | [], _, h => nomatch h
  | (n, k) :: r, cs, h => by
    unfold clOf
    rcases List.mem_cons.mp h with e | h
    · cases e
      rw [if_pos (show (NameKind.free == NameKind.free) = true by decide), hx]
      exact clOf_keeps hx (by rw [List.lookup_cons]; simp)
    · by_cases hk : (k == NameKind.free) = true
      · rw [if_pos hk]
        cases q : env.cells.lookup n with
        | none => exact clOf_has hx h
        | some d => exact clOf_has hx h
      · rw [if_neg hk]; exact clOf_has hx h
theorem cellsFrom_out {x : Str} : ∀ {l : List (Str × NameKind)} {n : Nat} {acc : List (Str × Addr)}, (∀ y ∈ l, y.2 = .cell → y.1 ≠ x) → (cellsFrom n l acc).lookup x = acc.lookup x
  | [], _, _, _ => rfl
  | (y, k) :: r, n, acc, h => by
    have hr : ∀ z ∈ r, z.2 = .cell → z.1 ≠ x := fun z hz => h z (List.mem_cons_of_mem _ hz)
    unfold cellsFrom
    split
    · rename_i hk
      rw [cellsFrom_out hr, List.lookup_cons]
      have : (x == y) = false := by
        have := h (y, k) List.mem_cons_self (by simpa using hk)
        exact beq_eq_false_iff_ne.mpr (fun z => this z.symm)
      rw [this]
    · exact cellsFrom_out hr
theorem cellsFrom_or {x : Str} {c : Addr} : ∀ {l : List (Str × NameKind)} {n : Nat} {acc : List (Str × Addr)}, (cellsFrom n l acc).lookup x = some c → acc.lookup x = some c ∨ (n ≤ c ∧ (x, NameKind.cell) ∈ l)
  | [], _, _, h => .inl h
  | (y, k) :: r, n, acc, h => by
    unfold cellsFrom at h
    split at h
    · rename_i hk
      have hk' : k = .cell := by simpa using hk
      rcases cellsFrom_or h with z | ⟨z1, z2⟩
      · rw [List.lookup_cons] at z
        cases hx : x == y with
        | true =>
          rw [hx] at z
          have e : n = c := Option.some.inj z
          have e2 : x = y := by simpa using hx
          subst e2; subst hk'
          exact .inr ⟨Nat.le_of_eq e, List.mem_cons_self⟩
        | false => rw [hx] at z; exact .inl z
      · exact .inr ⟨Nat.le_trans (Nat.le_succ _) z1, List.mem_cons_of_mem _ z2⟩
    · rcases cellsFrom_or h with z | ⟨z1, z2⟩
      · exact .inl z
      · exact .inr ⟨z1, List.mem_cons_of_mem _ z2⟩
theorem cellsFrom_inj : ∀ {l : List (Str × NameKind)} {n : Nat} {acc : List (Str × Addr)}, (∀ x y c, acc.lookup x = some c → acc.lookup y = some c → x = y) → (∀ z d, acc.lookup z = some d → d < n) → ∀ x y c, (cellsFrom n l acc).lookup x = some c → (cellsFrom n l acc).lookup y = some c → x = y
  | [], _, _, p, _ => p
  | (w, k) :: r, n, acc, p, lt => by
    unfold cellsFrom
    split
    · refine cellsFrom_inj (l := r) (n := n + 1) (acc := (w, n) :: acc) (fun x y c h1 h2 => ?_) (fun z d h => ?_)
      · rw [List.lookup_cons] at h1 h2
        cases hx : x == w with
        | true =>
          rw [hx] at h1
          have e1 : n = c := Option.some.inj h1
          cases hy : y == w with
          | true => exact (by simpa using hx : x = w).trans (by simpa using hy : y = w).symm
          | false =>
            rw [hy] at h2
            have := lt y c h2
            rw [← e1] at this
            exact absurd this (Nat.lt_irrefl _)
        | false =>
          rw [hx] at h1
          cases hy : y == w with
          | true =>
            rw [hy] at h2
            have e2 : n = c := Option.some.inj h2
            have := lt x c h1
            rw [← e2] at this
            exact absurd this (Nat.lt_irrefl _)
          | false => rw [hy] at h2; exact p x y c h1 h2
      · rw [List.lookup_cons] at h
        cases hz : z == w with
        | true =>
          rw [hz] at h
          have e : n = d := Option.some.inj h
          rw [← e]; exact Nat.lt_succ_self _
        | false =>
          rw [hz] at h
          exact Nat.lt_succ_of_lt (lt z d h)
    · exact cellsFrom_inj p lt
theorem cellsFrom_cell {x : Str} {c : Addr} : ∀ {l : List (Str × NameKind)} {h : Heap} {acc : List (Str × Addr)}, (∀ y d, acc.lookup y = some d → ∃ v, h.IsCell d v) → (cellsFrom h.objs.size l acc).lookup x = some c → ∃ v, (pushCells h l).IsCell c v
  | [], _, _, hA, e => hA x c e
  | (y, k) :: r, h, acc, hA, e => by
    unfold cellsFrom at e
    unfold pushCells
    split at e
    · rename_i hk
      rw [if_pos hk]
      have hs : (h.push { cls := .type "cell", data := .cell none } : Heap).objs.size = h.objs.size + 1 := Heap.size_push ..
      rw [← hs] at e
      refine cellsFrom_cell (fun z d hz => ?_) e
      rw [List.lookup_cons] at hz
      cases hzy : z == y with
      | true =>
        rw [hzy] at hz
        have e : h.objs.size = d := Option.some.inj hz
        subst e
        exact ⟨none, _, Heap.get?_push_size _ rfl, rfl⟩
      | false =>
        rw [hzy] at hz
        obtain ⟨v, o, ho, hd⟩ := hA z d hz
        exact ⟨v, o, Heap.get?_push_of_some _ ho, hd⟩
    · rename_i hk
      rw [if_neg hk]
      exact cellsFrom_cell hA e
theorem wpAny_newEnv_block {M : Model} {A : Around} {E : Value → Shared → Prop} {s : Shared} {scope : Scope} {globals : Addr} {cl : List (Str × Addr)} {qual : Str} {outer : Env} {Q : Env → Shared → Prop}
    (h : Q (newEnv scope s.heap.objs.size globals (cellsFrom (s.heap.objs.size + 1) scope.names cl) qual none .none (some outer) builtinsNs) { s with heap := pushCells (s.heap.push { cls := .type "dict", data := .dict #[] }) scope.names }) :
    wpAny M A (newFunctionEnv scope globals cl [] qual none .none (some outer)) Q E s := by
  simp only [newFunctionEnv, Option.isSome_some, if_true]
  refine wpAny_bind (wpAny_alloc ?_)
  refine wpAny_bind (wpAny_layCells _ (fun name kind cells => by cases hkc : kind == NameKind.cell <;> simp [hkc]) _ _ _ _ ?_)
  rw [show ({ s with heap := s.heap.push { cls := .type "dict", data := .dict #[] } } : Shared).heap.objs.size = s.heap.objs.size + 1 from Heap.size_push ..]
  rw [List.forIn_nil]
  exact wpAny_bind (wpAny_pure (wpAny_pure h))
theorem clOf_none {env : Env} {x : Str} : ∀ {l : List (Str × NameKind)} {cs : List (Str × Addr)}, (∀ y ∈ l, y.2 = .free → y.1 ≠ x) → (clOf env l cs).lookup x = cs.lookup x
  | [], _, _ => rfl
  | (n, k) :: r, cs, h => by
    have hr : ∀ z ∈ r, z.2 = .free → z.1 ≠ x := fun z hz => h z (List.mem_cons_of_mem _ hz)
    unfold clOf
    by_cases hk : (k == NameKind.free) = true
    · rw [if_pos hk]
      have nx : (x == n) = false := beq_eq_false_iff_ne.mpr fun z => h (n, k) List.mem_cons_self (by simpa using hk) z.symm
      cases q : env.cells.lookup n with
      | none => exact clOf_none hr
      | some d =>
        rw [show (clOf env r ((n, d) :: cs)).lookup x = ((n, d) :: cs).lookup x from clOf_none hr, List.lookup_cons, nx]
    · rw [if_neg hk]; exact clOf_none hr
def Cx.block (X : Cx) (scope : Scope) (C : Addr) (s₀ : Shared) (H₀ : Hp) (ex : List Addr) (N : List Str) : Cx where
  prog := X.prog
  w := X.w
  K := X.K
  mg := X.mg
  base := X.base
  A := X.A
  N := N
  s₀ := s₀
  H₀ := H₀
  env := compEnvC scope (cellsFrom (C + 1) scope.names (clOf X.env scope.names [])) C X.env
  outer := X.stack
  stack := X.stack
  ex := ex
  fn := fun x => scope.names.lookup x == some .cell
  calm := X.calm
  pn := []
  xe := fun _ _ => False
structure BlkSc (X : Cx) (scope : Scope) : Prop where
  kind : scope.kind = .function
  apart : ∀ y ∈ scope.names, ∀ z ∈ scope.names, y.2 = .cell → z.2 = .free → y.1 ≠ z.1
  owns : ∀ y ∈ scope.names, y.2 = .cell → scope.names.lookup y.1 = some .cell
  free : ∀ y ∈ scope.names, y.2 = .free → X.env.kindOf y.1 = some .cell ∨ X.env.kindOf y.1 = some .free
  locs : ∀ y ∈ scope.names, y.2 = .local → scope.names.lookup y.1 = some .local
theorem relabel_kind {scope : Scope} {env : Env} {x : Str} {k : NameKind} : ∀ {l : List (Str × NameKind)}, 
    (l.map fun (n, k) => if (k == NameKind.free && env.scope.kind == .function && env.kindOf n == some .cell) then (n, NameKind.cell) else (n, k)).lookup x = some k →
    k = .cell ∨ k = .free → ∃ k', (x, k') ∈ l ∧ (k' = .cell ∨ k' = .free)
  | [], h, _ => by simp at h
  | (n, j) :: r, h, hk => by
    have h : List.lookup x ((if (j == NameKind.free && env.scope.kind == .function && env.kindOf n == some .cell) = true then (n, NameKind.cell) else (n, j)) :: (r.map fun (n, k) => if (k == NameKind.free && env.scope.kind == .function && env.kindOf n == some .cell) then (n, NameKind.cell) else (n, k))) = some k := h
    by_cases hc : (j == NameKind.free && env.scope.kind == .function && env.kindOf n == some .cell) = true
    · rw [if_pos hc, List.lookup_cons] at h
      have hj : j = .free := by
        simp only [Bool.and_eq_true] at hc
        simpa using hc.1.1
      cases hx : x == n with
      | true =>
        have : x = n := by simpa using hx
        subst this
        exact ⟨j, List.mem_cons_self, .inr hj⟩
      | false =>
        rw [hx] at h
        obtain ⟨k', m, q⟩ := relabel_kind (scope := scope) h hk
        exact ⟨k', List.mem_cons_of_mem _ m, q⟩
    · rw [if_neg hc, List.lookup_cons] at h
      cases hx : x == n with
      | true =>
        rw [hx] at h
        have e : j = k := Option.some.inj h
        have : x = n := by simpa using hx
        subst this
        exact ⟨j, List.mem_cons_self, by rw [e]; exact hk⟩
      | false =>
        rw [hx] at h
        obtain ⟨k', m, q⟩ := relabel_kind (scope := scope) h hk
        exact ⟨k', List.mem_cons_of_mem _ m, q⟩
inductive Draws (X : Cx) (scope : Scope) : List Str → List (Option Nat) → Prop
  | nil : Draws X scope [] []
  | own {x : Str} {N : List Str} {ix : List (Option Nat)} : Draws X scope N ix → Draws X scope (x :: N) (Option.none :: ix)
  | tk {x : Str} {N : List Str} {ix : List (Option Nat)} {i : Nat} (hN : X.N[i]? = some x) (hv : Vis X.env.scope x) (hk : (relabel scope X.env).names.lookup x = some .cell ∨ (relabel scope X.env).names.lookup x = some .free) (hf : (x, NameKind.free) ∈ scope.names) :
      Draws X scope N ix → Draws X scope (x :: N) (some i :: ix)
def blkSt (σ : St) (ix : List (Option Nat)) : St := ix.map fun o => o.bind fun i => (σ[i]?).join
theorem Draws.len {X : Cx} {scope : Scope} {N : List Str} {ix : List (Option Nat)} (D : Draws X scope N ix) : ix.length = N.length := by
  induction D with
  | nil => rfl
  | own _ ih => simp [ih]
  | tk _ _ _ _ _ ih => simp [ih]
theorem Draws.get {X : Cx} {scope : Scope} {N : List Str} {ix : List (Option Nat)} {σ : St} (D : Draws X scope N ix) : ∀ (j : Nat) (x : Str) (v : V), N[j]? = some x → (blkSt σ ix)[j]? = some (some v) →
    ∃ (i : Nat), X.N[i]? = some x ∧ σ[i]? = some (some v) ∧ Vis X.env.scope x ∧ ((relabel scope X.env).names.lookup x = some .cell ∨ (relabel scope X.env).names.lookup x = some .free) ∧ (x, NameKind.free) ∈ scope.names := by
  induction D with
  | nil => intro j x v h; simp at h
  | own d ih =>
    intro j x v h1 h2
    cases j with
    | zero => simp [blkSt] at h2
    | succ j => exact ih j x v (by simpa using h1) (by simpa [blkSt] using h2)
  | @tk y N ix i hN hv hk hf d ih =>
    intro j x v h1 h2
    cases j with
    | zero =>
      have e : y = x := by simpa using h1
      subst e
      refine ⟨i, hN, ?_, hv, hk, hf⟩
      have h2 : ((σ[i]?).join) = some v := by simpa [blkSt] using h2
      cases q : σ[i]? with
      | none => rw [q] at h2; cases h2
      | some o => rw [q] at h2; exact congrArg some h2
    | succ j => exact ih j x v (by simpa using h1) (by simpa [blkSt] using h2)
section
variable {X : Cx} {pins : List (Addr × Obj)} {σ : St} {H : Hp} {s : Shared} {scope : Scope} {N : List Str} {ix : List (Option Nat)} {fp : List Addr}
theorem Inv.nostk (I : Inv X pins σ H s) {b : Addr} (h1 : b ≠ X.env.locals) (h2 : b ∉ X.fs) : b ∉ frs X.stack := fun z => (List.mem_cons.mp (I.stkSub b z)).elim h1 h2
theorem Inv.blockStart {h' : Heap} {tk : Nat} {m : Str → Option Value} (I : Inv X pins σ H s) (B : BlkSc X scope) (D : Draws X scope N ix) (hfp : ∀ b ∈ fp, FpOk X pins H b) (hfo : ∀ b ∈ fp, ∃ o, s.heap.get? b = some o)
    (hns : h'.Ns s.heap.objs.size m) (hk : ∀ b o, s.heap.get? b = some o → h'.get? b = some o) (hcl : ∀ x c, (cellsFrom (s.heap.objs.size + 1) scope.names (clOf X.env scope.names [])).lookup x = some c → ∃ v, h'.IsCell c v) :
    Inv (X.block scope s.heap.objs.size s H fp N) (X.pn ++ pins) (blkSt σ ix) H { s with heap := h', toks := tk } := by
  have sub : ∀ {x : Str} {c : Addr}, (clOf X.env scope.names []).lookup x = some c → X.env.cells.lookup x = some c := fun {x c} e => clOf_sub (fun y d z => by simp at z) e
  have old : ∀ {x : Str} {c : Addr}, (clOf X.env scope.names []).lookup x = some c → c < s.heap.objs.size := fun {x c} e => by
    obtain ⟨v, o, ho, _⟩ := I.cell x c (sub e)
    exact Heap.lt_size ho
  have two : ∀ {x : Str} {c : Addr}, (cellsFrom (s.heap.objs.size + 1) scope.names (clOf X.env scope.names [])).lookup x = some c → X.env.cells.lookup x = some c ∨ s.heap.objs.size < c := fun {x c} e => by
    rcases cellsFrom_or e with z | ⟨z, _⟩
    · exact .inl (sub z)
    · exact .inr z
  have own : ∀ {x : Str}, (x, NameKind.free) ∈ scope.names → (cellsFrom (s.heap.objs.size + 1) scope.names (clOf X.env scope.names [])).lookup x = (clOf X.env scope.names []).lookup x := fun {x} hx => cellsFrom_out fun y hy e => B.apart y hy _ hx e rfl
  have okB : (X.block scope s.heap.objs.size s H fp N).Ok := by
    refine ⟨I.ok.mod, B.kind, I.ok.glob, I.ok.blt, Nat.le_refl _, cellsFrom_inj (fun x y c h1 h2 => I.ok.inj x y c (sub h1) (sub h2)) (fun z d h => Nat.lt_succ_of_lt (old h)), fun x hx => ?_, (fun x c z e => ?_), I.ok.hd, I.ok.frames, .inl rfl, fun b hb => ⟨?_, fun x c e => ?_⟩,
      I.bs, Nat.le_trans I.ok.bsz I.sz, fun b o e hb => ?_, fun b hb => I.nostk (hfp b hb).2.1 (hfp b hb).2.2.1, I.stack, I.stkFree⟩
    · have hx' : (relabel scope X.env).names.lookup x = some .cell ∨ (relabel scope X.env).names.lookup x = some .free := hx
      have key : ∃ k', (x, k') ∈ scope.names ∧ (k' = .cell ∨ k' = .free) := by
        rcases hx' with e | e
        · exact relabel_kind (scope := scope) e (.inl rfl)
        · exact relabel_kind (scope := scope) e (.inr rfl)
      obtain ⟨k', m1, q⟩ := key
      rcases q with q | q
      · subst q
        exact Option.isSome_iff_exists.mp (PySem.W.cellsFrom_some _ _ _ (.inl (B.owns _ m1 rfl)))
      · subst q
        obtain ⟨c, hc⟩ := I.ok.has x (B.free _ m1 rfl)
        exact ⟨c, (own m1).trans (clOf_has hc m1)⟩
    · rcases cellsFrom_or e with q | ⟨q, _⟩
      · have z : scope.names.lookup x = some .cell := by
          have z : (scope.names.lookup x == some NameKind.cell) = true := z
          simpa using z
        have hm := PySem.mem_of_lookup z
        have : (x, NameKind.free) ∈ scope.names ∨ True := .inr trivial
        exact absurd q (by
          rw [clOf_none (fun y hy e1 e2 => B.apart _ hm y hy rfl e1 e2.symm)]
          intro h; cases h)
      · exact Nat.le_of_lt q
    · obtain ⟨o, e⟩ := hfo b hb
      exact Nat.ne_of_lt (Heap.lt_size e)
    · rcases two e with z | z
      · exact (hfp b hb).2.2.2.2.1 x c z
      · obtain ⟨o, e⟩ := hfo b hb
        exact Nat.ne_of_gt (Nat.lt_trans (Heap.lt_size e) z)
    · rcases (hfp b hb).2.2.2.1 with z | z
      · exact I.ok.noex b o e z
      · exact absurd (Nat.lt_of_lt_of_le (Heap.lt_size (I.ok.bs b o e).1) z) (Nat.lt_irrefl _)
  refine ⟨okB, rfl, I.bare, Un.kept hk, ⟨m, hns, fun j x v h1 h2 h3 => ?_⟩, fun x c e => ?_, I.hok.fresh (Nat.le_refl _), fun x c e => (two e).elim (fun z => I.freeC x c z) (fun z => I.hok.fresh (Nat.le_of_lt z)), fun p hp => ?_, I.hok.kept hk, ?_⟩
  · obtain ⟨i, e1, e2, vis, kd, fr⟩ := D.get j x v h1 h2
    obtain ⟨m0, hn0, hl⟩ := I.loc
    obtain ⟨u, r, l⟩ := hl i x v e1 e2 vis
    refine ⟨u, r, ?_⟩
    rcases l with ⟨k, _⟩ | ⟨_, c, hc, o, ho, hd⟩
    · rcases B.free _ fr rfl with z | z
      · have z : X.env.kindOf x = some .cell := z
        rw [k] at z; cases z
      · have z : X.env.kindOf x = some .free := z
        rw [k] at z; cases z
    · exact .inr ⟨kd, c, (own fr).trans (clOf_has hc fr), o, hk c o ho, hd⟩
  · exact hcl x c e
  · have hp' : p ∈ X.pn ++ pins := by simpa [Cx.block] using hp
    obtain ⟨e, n, ne, nf, d⟩ := I.pin p hp'
    exact ⟨hk _ _ e, n, Nat.ne_of_lt (Heap.lt_size e), I.nostk ne nf, d⟩
  · show (blkSt σ ix).length = N.length
    unfold blkSt
    rw [List.length_map]
    exact D.len
end
def PTs (X : Cx) (ifs : List Expr) (t : TT) : Prop :=
  ∀ (pins : List (Addr × Obj)) (s : Shared) (σ : St) (H : Hp) (Q : Bool → Hp → Prop), Inv X pins σ H s → t σ H Q →
    wpAny (model X.prog X.w) X.A (forIn ifs true fun c r => if r = true then do let ok ← isTrue c X.env (eval c X.env); pure (ForInStep.yield ok) else pure (ForInStep.yield r)) (TP X pins σ Q) X.xe s
def tTrue : TT := fun _ H Q => Q true H
theorem pts_nil {X : Cx} : PTs X [] tTrue := fun _ _ _ H _ I h => wpAny_tests_nil ⟨H, I, h⟩
theorem pts_one {X : Cx} {c : Expr} {t : TT} (h : PT X c t) : PTs X [c] t := fun pins s σ H Q I hw => wpAny_tests_one (h pins s σ H Q I hw)
theorem comp_loop {prog : Program} {w : World} {A : Around} {R : Result → Shared → Prop} {s : Shared} {elt target iter : Expr} {ifs : List Expr} {scope : Scope} {pos : Pos} {it acc : Value} {env : Env} (I : Nat → Shared → Prop)
    (turn : ∀ n s, I n s → wpAny (model prog w) A (pyNext it) (fun r s₁ => match r with
      | none => R (.ok .next) s₁
      | some v => wpAny (model prog w) A (letOwnedTupleGo target it v) (fun _ s₁' => wpAny (model prog w) A (assign target env v) (fun _ s₂ =>
          wpAny (model prog w) A (forIn ifs true fun c r => if r = true then do let ok ← isTrue c env (eval c env); pure (ForInStep.yield ok) else pure (ForInStep.yield r)) (fun ok s₃ =>
            if ok = true then wpAny (model prog w) A (eval elt env) (fun x s₄ =>
              wpAny (model prog w) A (call (.builtin "list.append") [acc, x]) (fun _ s₅ => ∃ m, m < n ∧ I m s₅) (fun _ _ => False) s₄) (fun _ _ => False) s₃
            else ∃ m, m < n ∧ I m s₃) (fun _ _ => False) s₂) (fun _ _ => False) s₁') (fun _ _ => False) s₁) (fun _ _ => False) s)
    (n : Nat) (h : I n s) :
    codeAny (model prog w) A (.compLoop (.ListComp elt [⟨target, iter, ifs, 0⟩] scope pos) 0 it acc env) R s := by
  refine codeAny_loop rfl I (fun n s hI => ?_) n h
  show wpAny _ A ((compTurn (.ListComp elt [⟨target, iter, ifs, 0⟩] scope pos) 0 it acc env).onRaise (fun x => do noteFrame x env; theTreesLotGoes x)) _ _ s
  refine wpAny_noted ?_
  rw [compTurn_list]
  refine wpAny_bind (wpAny_standAt (wpAny_bind (wpAny_mono (turn n s hI) (fun r s₁ h₁ => ?_) fun _ _ h' => h'.elim)))
  cases r with
  | none => exact wpAny_pure h₁
  | some v =>
    refine wpAny_bind (wpAny_mono h₁ (fun _ s₁' h₁' => ?_) fun _ _ h' => h'.elim)
    refine wpAny_bind (wpAny_mono h₁' (fun _ s₂ h₂ => wpAny_bind (wpAny_mono h₂ (fun ok s₃ h₃ => ?_) fun _ _ h' => h'.elim)) fun _ _ h' => h'.elim)
    cases ok with
    | false => exact wpAny_pure ⟨rfl, h₃⟩
    | true =>
      exact wpAny_bind (wpAny_bind (wpAny_mono h₃ (fun x s₄ h₄ => wpAny_bind (wpAny_mono h₄ (fun _ s₅ h₅ => wpAny_pure (wpAny_pure ⟨rfl, h₅⟩)) fun _ _ h' => h'.elim)) fun _ _ h' => h'.elim))
def tComp (wi : TI) (ix : List (Option Nat)) (g : TG) (tt : TT) (te : TE) : TE := fun σ H Q => wi σ H fun J H1 => ∀ D, H1 D = none → ∃ W : Nat → Nat → List V → St → Hp → Prop,
  (∃ m, W 0 m [] (blkSt σ ix) (upd H1 D (.lst []))) ∧ ∀ i m ys τ H2, W i m ys τ H2 →
    (J.stop i H2 ∧ Q (.ref D) H2) ∨ (J.go i H2 ∧ ∃ N : List V → St → Hp → Prop, (∀ ys' τ' H', N ys' τ' H' → ∃ m', m' < m ∧ W (i + 1) m' ys' τ' H') ∧ ∀ x H3, J.yld i H2 x H3 → g x τ H3 fun τ' H4 => tt τ' H4 fun b H5 =>
      if b = true then te τ' H5 fun v H6 => H6 D = some (.lst ys) ∧ ys.length < sizeLine ∧ N (ys ++ [v]) τ' (upd H6 D (.lst (ys ++ [v])))
      else N ys τ' H5)
theorem block_loop {Y : Cx} {tg elt iter : Expr} {ifs : List Expr} {scope : Scope} {pos : Pos} {g : TG} {tt : TT} {te : TE} {J : It} {fp : List Addr} {it D : Addr} {tn : Nat → Heap → Prop} {P : List (Addr × Obj)} {W : Nat → Nat → List V → St → Hp → Prop} {m0 : Nat}
    {R : Result → Shared → Prop} {QD : Hp → Prop} {s4 : Shared} {τ0 : St} {H4 : Hp}
    (hc : Y.calm = true) (hx : ∀ e s, Y.xe e s → False) (hg : PG Y tg g) (ht : PTs Y ifs tt) (he : PE Y elt te) (T : Turn Y.prog Y.w Y.K tg J fp it tn)
    (stat : ∀ {H' : Hp}, (∀ b ∈ fp, H' b = none) → ∀ b ∈ fp, FpOk Y P H' b)
    (turn : ∀ i m ys τ H2, W i m ys τ H2 → (J.stop i H2 ∧ QD H2) ∨ (J.go i H2 ∧ ∃ N : List V → St → Hp → Prop, (∀ ys' τ' H', N ys' τ' H' → ∃ m', m' < m ∧ W (i + 1) m' ys' τ' H') ∧ ∀ x H3, J.yld i H2 x H3 → g x τ H3 fun τ' H4 => tt τ' H4 fun b H5 =>
      if b = true then te τ' H5 fun v H6 => H6 D = some (.lst ys) ∧ ys.length < sizeLine ∧ N (ys ++ [v]) τ' (upd H6 D (.lst (ys ++ [v])))
      else N ys τ' H5))
    (fin : ∀ τ H' s', Inv Y P τ H' s' → QD H' → R (.ok .next) s')
    (I0 : Inv Y P τ0 H4 s4) (t0 : tn 0 s4.heap) (n0 : ∀ b ∈ fp, H4 b = none) (w0 : W 0 m0 [] τ0 H4) :
    codeAny (model Y.prog Y.w) Y.A (.compLoop (.ListComp elt [⟨tg, iter, ifs, 0⟩] scope pos) 0 (.ref it) (.ref D) Y.env) R s4 := by
  have nx : ∀ {α : Type} {t : Sem α} {Q : α → Shared → Prop} {s : Shared}, wpAny (model Y.prog Y.w) Y.A t Q Y.xe s → wpAny (model Y.prog Y.w) Y.A t Q (fun _ _ => False) s := fun h => wpAny_mono h (fun _ _ q => q) hx
  refine comp_loop (fun n s' => ∃ i ys τ H', Inv Y P τ H' s' ∧ tn i s'.heap ∧ (∀ b ∈ fp, H' b = none) ∧ W i n ys τ H') ?_ m0 ⟨0, [], τ0, H4, I0, t0, n0, w0⟩
  rintro n s5 ⟨i, ys, τ, H5, I5, st5, fr5, w5⟩
  rcases turn i n ys τ H5 w5 with ⟨stop, q⟩ | ⟨go, N, hN, step⟩
  · refine thn (T.done Y rfl rfl rfl hc i P s5 τ H5 _ I5 (stat fr5) st5 stop) fun r s6 ⟨hr, I6⟩ => ?_
    subst hr
    exact fin τ H5 s6 I6 q
  · refine thn (T.item Y rfl rfl rfl hc i P s5 τ H5 _ I5 (stat fr5) st5 go) fun r s6 ⟨u, hr, h6⟩ => ?_
    subst hr
    refine thn h6 fun _ s7 ⟨x, H7, I7, r7, y7, st7, fr7⟩ => ?_
    have I7' := I7.pinned (stat fr7) (T.obj _ _ st7)
    refine nx (thn (hg _ s7 τ H7 x u _ I7' r7 (step x H7 y7)) fun _ s8 ⟨τ8, H8, I8, q8⟩ => ?_)
    refine nx (thn (ht _ s8 τ8 H8 _ I8 q8) fun ok s9 ⟨H9, I9, q9⟩ => ?_)
    have again : ∀ {ys' : List V} {H' : Hp} {s' : Shared}, Inv Y (P ++ pinsAt fp s7.heap) τ8 H' s' → (∃ m', m' < n ∧ W (i + 1) m' ys' τ8 H') → ∃ m, m < n ∧ ∃ i ys τ H', Inv Y P τ H' s' ∧ tn i s'.heap ∧ (∀ b ∈ fp, H' b = none) ∧ W i m ys τ H' := fun {ys' H' s'} I' ⟨m', hm, w'⟩ => by
      refine ⟨m', hm, i + 1, ys', τ8, H', I'.unpinned, T.keep _ _ _ st7 fun b hb o e => (I'.pin (b, o) (List.mem_append_right _ (List.mem_append_right _ (mem_pinsAt hb e)))).1, fun b hb => ?_, w'⟩
      obtain ⟨o, e, d⟩ := T.obj _ _ st7 b hb
      exact (I'.pin (b, o) (List.mem_append_right _ (List.mem_append_right _ (mem_pinsAt hb e)))).2.1
    cases ok with
    | false =>
      rw [if_neg Bool.false_ne_true] at q9 ⊢
      exact again I9 (hN _ _ _ q9)
    | true =>
      rw [if_pos rfl] at q9 ⊢
      refine nx (thn (he _ s9 τ8 H9 _ I9 q9) fun y s10 ⟨v, H10, I10, r10, hD, hz, w10⟩ => ?_)
      refine nx (thn (mt_append (X := Y) _ s10 τ8 H10 (.ref D) [v] (.ref D) [y] (fun _ H' => H' = upd H10 D (.lst (ys ++ [v]))) I10 rfl (.cons r10 .nil) ⟨D, ys, v, rfl, rfl, hD, hz, rfl⟩) fun _ s11 ⟨z, H11, I11, _, e11⟩ => ?_)
      subst e11
      exact again I11 (hN _ _ _ w10)
theorem run_comp {X : Cx} {elt tg iter : Expr} {ifs : List Expr} {scope : Scope} {pos p1 : Pos} {N : List Str} {ix : List (Option Nat)} {wi : TI} {g : TG} {tt : TT} {te : TE} {pins : List (Addr × Obj)} {s : Shared} {σ : St} {H : Hp} {Q : VK} {use : Option (Value → Sem Unit)}
    {Z : Value → Shared → Prop}
    (hc : X.calm = true) (B : BlkSc X scope) (Dr : Draws X scope N ix) (hi : PI X tg iter wi)
    (hg : ∀ C s₀ H₀ ex, PG (X.block scope C s₀ H₀ ex N) tg g) (ht : ∀ C s₀ H₀ ex, PTs (X.block scope C s₀ H₀ ex N) ifs tt) (he : ∀ C s₀ H₀ ex, PE (X.block scope C s₀ H₀ ex N) elt te)
    (hs : ∀ x, foldedSetIterable iter X.env x = pure x)
    (I : Inv X pins σ H s) (h : tComp wi ix g tt te σ H Q)
    (fin : ∀ (D C : Addr) (H' : Hp) (s' : Shared) (m : Str → Option Value), Inv X pins σ H' s' → Q (.ref D) H' → s'.heap.Ns C m → (∀ h', Heap.SameBut C s'.heap h' → Inv X pins σ H' { s' with heap := h' }) → C ≠ X.env.locals → (∀ x c, X.env.cells.lookup x = some c → c ≠ C) → H' C = none →
      (∀ p ∈ X.pn ++ pins, p.1 ≠ C) → X.s₀.heap.objs.size ≤ C → compPost (model X.prog X.w) X.A X.xe use Z (.ref D) C (.ok .next) s') :
    wpAny (model X.prog X.w) X.A (comprehension (.ListComp elt [⟨tg, iter, ifs, 0⟩] scope pos) scope X.env p1 (newList []) false (eval iter X.env) use) Z X.xe s := by
  have hfree : ∀ x ∈ scope.names, x.2 = .free → ∃ c, X.env.cells.lookup x.1 = some c := fun x hx e => I.ok.has _ (B.free x hx e)
  refine wpAny_comprehension_free (use := use) rfl hs (closureFor_of hfree) B.kind B.locs ?_
  refine thn (hi pins s σ H _ I h) fun v s1 h1 => thn h1 fun itv s2 h2 => ?_
  obtain ⟨it, fp, tn, J, H2, e, I2, T, st2, f2, R⟩ := h2
  subst e
  have hDf : H2 s2.heap.objs.size = none := I2.hok.fresh (Nat.le_refl _)
  obtain ⟨W, ⟨m0, w0⟩, turn⟩ := R _ hDf
  refine wpAny_newObj_type ?_ (by show (0 : Nat) ≤ sizeLine; exact Nat.zero_le _)
  have I3 : Inv X pins σ (upd H2 s2.heap.objs.size (.lst [])) { s2 with heap := s2.heap.push { cls := .type "list", data := .seq ([] : List Value).toArray } } := I2.lnew (t' := s2.toks) (ys := []) (its := []) .nil (Nat.zero_le _)
  generalize hD : s2.heap.objs.size = D at *
  have fpo : ∀ b ∈ fp, ∃ o, s2.heap.get? b = some o := fun b hb => let ⟨o, q, _⟩ := T.obj _ _ st2 b hb; ⟨o, q⟩
  have fpD : ∀ b ∈ fp, b ≠ D := fun b hb => by
    obtain ⟨o, q⟩ := fpo b hb
    rw [← hD]; exact Nat.ne_of_lt (Heap.lt_size q)
  have f3 : ∀ b ∈ fp, FpOk X pins (upd H2 D (.lst [])) b := fun b hb => ⟨by rw [upd_ne (fpD b hb)]; exact (f2 b hb).1, (f2 b hb).2⟩
  generalize hs3 : ({ s2 with heap := s2.heap.push { cls := .type "list", data := .seq ([] : List Value).toArray } } : Shared) = s3 at I3 ⊢
  have k23 : ∀ b o, s2.heap.get? b = some o → s3.heap.get? b = some o := fun b o q => by rw [← hs3]; exact Heap.get?_push_of_some _ q
  have fpo3 : ∀ b ∈ fp, ∃ o, s3.heap.get? b = some o := fun b hb => let ⟨o, q⟩ := fpo b hb; ⟨o, k23 b o q⟩
  have st3 : tn 0 s3.heap := T.keep _ _ _ st2 fun b hb o q => k23 b o q
  refine wpAny_newEnv_block ?_
  have k34 : ∀ b o, s3.heap.get? b = some o → (pushCells (s3.heap.push { cls := .type "dict", data := .dict #[] }) scope.names).get? b = some o := fun b o q => pushCells_keeps _ _ b o (Heap.get?_push_of_some _ q)
  have hns4 : (pushCells (s3.heap.push { cls := .type "dict", data := .dict #[] }) scope.names).Ns s3.heap.objs.size (fun _ => none) := (Heap.Ns.new s3.heap (.type "dict")).keeps (pushCells_keeps _ _)
  have hcl4 : ∀ x c, (cellsFrom (s3.heap.objs.size + 1) scope.names (clOf X.env scope.names [])).lookup x = some c → ∃ v, (pushCells (s3.heap.push { cls := .type "dict", data := .dict #[] }) scope.names).IsCell c v := fun x c e => by
    refine cellsFrom_cell (h := s3.heap.push { cls := .type "dict", data := .dict #[] }) (acc := clOf X.env scope.names []) (fun y d hy => ?_) (by rw [Heap.size_push]; exact e)
    obtain ⟨v, o, ho, hd⟩ := I3.cell y d (clOf_sub (fun y d z => by simp at z) hy)
    exact ⟨v, o, Heap.get?_push_of_some _ ho, hd⟩
  have IB := I3.blockStart (tk := s3.toks) B Dr f3 fpo3 hns4 k34 hcl4
  generalize hh4 : pushCells (s3.heap.push { cls := .type "dict", data := .dict #[] }) scope.names = h4 at *
  generalize hC : s3.heap.objs.size = C at *
  have hCX : X.s₀.heap.objs.size ≤ C := by rw [← hC]; exact I3.sz
  have CL : C ≠ X.env.locals := by rw [← hC]; exact Nat.ne_of_gt I3.lt
  have Cc : ∀ x c, X.env.cells.lookup x = some c → c ≠ C := fun x c q => by
    obtain ⟨v, o, ho, _⟩ := I3.cell x c q
    rw [← hC]; exact Nat.ne_of_lt (Heap.lt_size ho)
  have Cp : ∀ p ∈ X.pn ++ pins, p.1 ≠ C := fun p hp => by
    rw [← hC]; exact Nat.ne_of_lt (Heap.lt_size (I3.pin p hp).1)
  have fpC : ∀ b ∈ fp, b ≠ C := fun b hb => by
    obtain ⟨o, q⟩ := fpo3 b hb
    rw [← hC]; exact Nat.ne_of_lt (Heap.lt_size q)
  have stat : ∀ {H' : Hp}, (∀ b ∈ fp, H' b = none) → ∀ b ∈ fp, FpOk (X.block scope C s3 (upd H2 D (.lst [])) fp N) (X.pn ++ pins) H' b := fun {H'} hn b hb => by
    obtain ⟨_, q1, q2, q3, q4, q5⟩ := f2 b hb
    exact ⟨hn b hb, fpC b hb, I3.nostk q1 q2, .inl hb, fun x c e => (cellsFrom_or e).elim (fun z => q4 x c (clOf_sub (fun y d z => by simp at z) z)) (fun z => by obtain ⟨o, q⟩ := fpo3 b hb; have := Heap.lt_size q; rw [hC] at this; exact Nat.ne_of_gt (Nat.lt_of_lt_of_le (Nat.lt_succ_of_lt this) z.1)), fun p hp => q5 p (by simpa [Cx.block] using hp)⟩
  have st4 : tn 0 h4 := T.keep _ _ _ st3 fun b hb o q => k34 b o q
  have n4 : ∀ b ∈ fp, (upd H2 D (.lst [])) b = none := fun b hb => (f3 b hb).1
  have loop := block_loop (Y := X.block scope C s3 (upd H2 D (.lst [])) fp N) (iter := iter) (pos := pos) (scope := scope) (D := D) (R := compPost (model X.prog X.w) X.A X.xe use Z (.ref D) C) hc (fun _ _ z => z) (hg C s3 _ fp) (ht C s3 _ fp) (he C s3 _ fp) T stat turn
    (fun τ H' s' I' q => by
      have I5 : Inv X pins σ H' s' := I3.call' (ch := fp) I'.os I'.base I'.hok I'.bare fun b hb => by
        obtain ⟨_, q1, q2, q3, q4, q5⟩ := f2 b hb
        exact ⟨q3, q1, q4, q5⟩
      obtain ⟨m, hn, _⟩ := I'.loc
      have hC0 : H' C = none := I'.free
      exact fin D C H' s' m I5 q hn (fun h'' hs'' => I5.turned (t' := s'.toks) (fun b o hb e => hs''.extBut b o hb e) hC0 CL (.inr hCX) Cc Cp) CL Cc hC0 Cp hCX) IB st4 n4 w0
  exact codeAny_compStart_list loop (T.self _ 0 _ _ _ st4 loop)
theorem pe_comp {X : Cx} {elt tg iter : Expr} {ifs : List Expr} {scope : Scope} {pos : Pos} {N : List Str} {ix : List (Option Nat)} {wi : TI} {g : TG} {tt : TT} {te : TE} (hc : X.calm = true) (B : BlkSc X scope) (Dr : Draws X scope N ix) (hi : PI X tg iter wi)
    (hg : ∀ C s₀ H₀ ex, PG (X.block scope C s₀ H₀ ex N) tg g) (ht : ∀ C s₀ H₀ ex, PTs (X.block scope C s₀ H₀ ex N) ifs tt) (he : ∀ C s₀ H₀ ex, PE (X.block scope C s₀ H₀ ex N) elt te)
    (hs : ∀ x, foldedSetIterable iter X.env x = pure x := by intro _; rfl) : PE X (.ListComp elt [⟨tg, iter, ifs, 0⟩] scope pos) (tComp wi ix g tt te) := by
  intro pins s σ H Q I h
  rw [eval_ListComp]
  exact run_comp (use := none) hc B Dr hi hg ht he hs I h fun D C H' s' m I' q hn k _ _ _ _ _ => ⟨m, hn, fun h' hs' => ⟨.ref D, H', k h' hs', rfl, q⟩⟩
theorem ps_comp {X : Cx} {elt tg iter : Expr} {ifs : List Expr} {scope : Scope} {pos spos py : Pos} {N : List Str} {ix : List (Option Nat)} {wi : TI} {g : TG} {tt : TT} {te : TE} {i : Nat} {y : Str} (hc : X.calm = true) (B : BlkSc X scope) (Dr : Draws X scope N ix) (hi : PI X tg iter wi)
    (hg : ∀ C s₀ H₀ ex, PG (X.block scope C s₀ H₀ ex N) tg g) (ht : ∀ C s₀ H₀ ex, PTs (X.block scope C s₀ H₀ ex N) ifs tt) (he : ∀ C s₀ H₀ ex, PE (X.block scope C s₀ H₀ ex N) elt te)
    (hN : X.N.Nodup) (hy : X.N[i]? = some y) (hl : X.env.scope.names.lookup y = some .local)
    (hsw : swapsWith (.ListComp elt [⟨tg, iter, ifs, 0⟩] scope pos) (some (.Name y py)) spos.line X.env = pure true := by rfl)
    (hs : ∀ x, foldedSetIterable iter X.env x = pure x := by intro _; rfl) : PS X (.Assign [.Name y py] (.ListComp elt [⟨tg, iter, ifs, 0⟩] scope pos) spos) (tAsg (tComp wi ix g tt te) (gName i)) := by
  intro pins s σ H Dn I h
  rw [exec_Assign_Name_used _ _ _ _ hsw]
  refine wpAny_bind (wpAny_standAt (wpAny_bind ?_))
  show wpAny _ X.A (do let _ ← comprehension (.ListComp elt [⟨tg, iter, ifs, 0⟩] scope pos) scope X.env _ (newList []) false (eval iter X.env) (some (assign (.Name y py) X.env))) _ _ s
  refine wpAny_bind (thn (run_comp (use := some (assign (.Name y py) X.env)) (Z := fun _ s' => SP X pins Dn .next s') hc B Dr hi hg ht he hs I h fun D C H' s' m I' q hn k CL Cc C0 Cp CX => ?_) fun _ s' hq => wpAny_pure (wpAny_pure hq))
  show wpAny _ _ (assign (.Name y py) X.env (.ref D)) _ _ s'
  refine wpAny_assign_Name (store_ok2 I' hN hy (.inl hl) (v := .ref D) rfl (fun s'' I'' ⟨a, sb, ha⟩ => ?_) (.inr hl))
  have aC : C ≠ a := by
    rcases ha with z | z
    · rw [z]; exact CL
    · exact (Cc _ _ z).symm
  exact ⟨m, hn.sameBut sb aC, fun h' hs' => ⟨_, H', I''.turned (t' := s''.toks) (fun b o hb e => hs'.extBut b o hb e) C0 CL (.inr CX) Cc Cp, q⟩⟩
theorem comp_by {J : It} {ix : List (Option Nat)} {g : TG} {tt : TT} {te : TE} {Q : VK} {σ : St} {H1 : Hp} {D : Addr} (xs : List V) (Pv : Nat → List V → St → Hp → Prop) (h0 : Pv 0 [] (blkSt σ ix) (upd H1 D (.lst [])))
    (hJ : ∀ i ys τ H, Pv i ys τ H → (∀ x, xs[i]? = some x → J.go i H ∧ ∀ y H', J.yld i H y H' → H' = H ∧ y = x) ∧ (i = xs.length → J.stop i H))
    (hs : ∀ i x ys τ H, xs[i]? = some x → Pv i ys τ H → g x τ H fun τ' H4 => tt τ' H4 fun b H5 => if b = true then te τ' H5 fun v H6 => H6 D = some (.lst ys) ∧ ys.length < sizeLine ∧ Pv (i + 1) (ys ++ [v]) τ' (upd H6 D (.lst (ys ++ [v]))) else Pv (i + 1) ys τ' H5)
    (hd : ∀ ys τ H, Pv xs.length ys τ H → Q (.ref D) H) :
    ∃ W : Nat → Nat → List V → St → Hp → Prop, (∃ m, W 0 m [] (blkSt σ ix) (upd H1 D (.lst []))) ∧ ∀ i m ys τ H2, W i m ys τ H2 →
      (J.stop i H2 ∧ Q (.ref D) H2) ∨ (J.go i H2 ∧ ∃ N : List V → St → Hp → Prop, (∀ ys' τ' H', N ys' τ' H' → ∃ m', m' < m ∧ W (i + 1) m' ys' τ' H') ∧ ∀ x H3, J.yld i H2 x H3 → g x τ H3 fun τ' H4 => tt τ' H4 fun b H5 =>
        if b = true then te τ' H5 fun v H6 => H6 D = some (.lst ys) ∧ ys.length < sizeLine ∧ N (ys ++ [v]) τ' (upd H6 D (.lst (ys ++ [v])))
        else N ys τ' H5) := by
  refine ⟨fun i m ys τ H => m = xs.length - i ∧ i ≤ xs.length ∧ Pv i ys τ H, ⟨xs.length, by simp, Nat.zero_le _, h0⟩, ?_⟩
  rintro i m ys τ H ⟨rfl, hi, p⟩
  obtain ⟨j1, j2⟩ := hJ i ys τ H p
  by_cases hlt : i < xs.length
  · have hx : xs[i]? = some xs[i] := by simp [hlt]
    obtain ⟨go, yl⟩ := j1 _ hx
    refine .inr ⟨go, Pv (i + 1), fun ys' τ' H' p' => ⟨xs.length - (i + 1), by omega, rfl, hlt, p'⟩, fun y H' yd => ?_⟩
    obtain ⟨e1, e2⟩ := yl y H' yd
    subst e1 e2
    exact hs i _ ys τ _ hx p
  · have e : i = xs.length := by omega
    subst e
    exact .inl ⟨j2 rfl, hd ys τ H p⟩
def blkOk (scope sc : Scope) : Bool := (scope.kind == .function) && (scope.names.all (fun y => scope.names.all fun z => y.2 != .cell || z.2 != .free || y.1 != z.1) && scope.names.all (fun y => y.2 != .cell || scope.names.lookup y.1 == some .cell)) && scope.names.all (fun y => y.2 != .free || sc.names.lookup y.1 == some .cell || sc.names.lookup y.1 == some .free) && scope.names.all (fun y => y.2 != .local || scope.names.lookup y.1 == some .local)
theorem blk_mk {X : Cx} {scope sc : Scope} (hsc : X.env.scope = sc) (h : blkOk scope sc = true) : BlkSc X scope := by
  unfold blkOk at h
  simp only [Bool.and_eq_true, List.all_eq_true, Bool.or_eq_true] at h
  obtain ⟨⟨⟨h1, h2, h5⟩, h3⟩, h4⟩ := h
  refine ⟨by simpa using h1, fun y hy z hz e1 e2 => ?_, fun y hy e => ?_, fun y hy e => ?_, fun y hy e => ?_⟩
  · rcases h2 y hy z hz with (q | q) | q
    · rw [e1] at q; simp at q
    · rw [e2] at q; simp at q
    · simpa using q
  · rcases h5 y hy with q | q
    · rw [e] at q; simp at q
    · simpa using q
  · have q := h3 y hy
    show X.env.scope.names.lookup y.1 = some .cell ∨ X.env.scope.names.lookup y.1 = some .free
    rw [hsc]
    rcases q with (q | q) | q
    · rw [e] at q; simp at q
    · exact .inl (by simpa using q)
    · exact .inr (by simpa using q)
  · have q := h4 y hy
    rcases q with q | q
    · rw [e] at q; simp at q
    · simpa using q
end L2
set_option Elab.async false
set_option linter.all false
set_option maxRecDepth 100000
set_option maxHeartbeats 4000000
namespace L2
open PySem PySem.Spec PyProof.Rows
def Its (z : Str) : It := ⟨fun i _ => i < z.cps.size, fun i H x H' => H' = H ∧ ∃ c, z.cps[i]? = some c ∧ x = .str ⟨#[c]⟩, fun i _ => z.cps.size ≤ i⟩
theorem turn_str {P : Program} {w : World} {K : PySem.W.Frag} {tg : Expr} (it : Addr) (z : Str) (t : Tok) (ty : String) (hty : ty = "str_ascii_iterator" ∨ ty = "str_iterator") : Turn P w K tg (Its z) [it] it (fun i h => h.IsStrIter it ty z t i) where
  mem := by simp
  obj := fun i h st b hb => by
    have e : b = it := by simpa using hb
    subst e
    obtain ⟨o, e, c, d⟩ := st
    exact ⟨o, e, fun v z => by rw [d] at z; cases z⟩
  keep := fun i h h' st k => by
    obtain ⟨o, e, c, d⟩ := st
    exact ⟨o, k it (by simp) o e, c, d⟩
  item := by
    intro X hP hw hK hc i pins s σ H E I hf st hg
    subst hP hw hK
    obtain ⟨f0, f1, f2, f3, f4, f5⟩ := hf it (by simp)
    have hlt : i < z.cps.size := hg
    have hx : z.cps[i]? = some z.cps[i] := by simp [hlt]
    have fin : ∀ h' : Heap, h'.IsStrIter it ty z t (i + 1) → Heap.SameBut it s.heap h' → ∃ u, some (Value.str ⟨#[z.cps[i]]⟩ s.toks) = some u ∧
        wpAny (model X.prog X.w) X.A (letOwnedTupleGo tg (.ref it) u) (fun _ s2 => ∃ x H', Inv X pins σ H' s2 ∧ RelV x u ∧ (Its z).yld i H x H' ∧ s2.heap.IsStrIter it ty z t (i + 1) ∧ ∀ b ∈ [it], H' b = none) E { s with heap := h', toks := s.toks + 1 } := fun h' st' sb => by
      have I1 : Inv X pins σ H { s with heap := h', toks := s.toks + 1 } := I.turned (t' := s.toks + 1) (fun b o hb e => (sb.2 b hb).trans e) f0 f1 f3 f4 f5
      obtain ⟨o, e, c, d⟩ := id st'
      exact ⟨_, rfl, go_of (s := { s with heap := h', toks := s.toks + 1 }) e c d (by rcases hty with rfl | rfl <;> decide) ⟨.str ⟨#[z.cps[i]]⟩, H, I1, ⟨_, rfl⟩, ⟨rfl, _, hx, rfl⟩, st', fun b hb => (hf b hb).1⟩⟩
    rcases hty with rfl | rfl
    · exact wpAny_pyNext_ascii_item st hx fin
    · exact wpAny_pyNext_wide_item st hx fin
  done := by
    intro X hP hw hK hc i pins s σ H E I hf st hg
    subst hP hw hK
    obtain ⟨f0, f1, f2, f3, f4, f5⟩ := hf it (by simp)
    have hle : z.cps.size ≤ i := hg
    have hx : z.cps[i]? = none := by simp [hle]
    have fin : ∀ h' : Heap, Heap.ExtBut it s.heap h' → (none : Option Value) = none ∧ Inv X pins σ H { s with heap := h' } := fun h' eb => ⟨rfl, I.turned (t' := s.toks) (fun b o hb e => eb b o hb e) f0 f1 f3 f4 f5⟩
    rcases hty with rfl | rfl
    · exact wpAny_pyNext_ascii_end (I.ok.hd hc) st hx fin
    · exact wpAny_pyNext_wide_end (I.ok.hd hc) st hx fin
  self := fun _ _ _ _ _ st h => by
    rcases hty with rfl | rfl
    · exact wpAny_pyIter_striter_ascii st h
    · exact wpAny_pyIter_striter_wide st h
def iStr (tl : TE) : TI := fun σ H R => tl σ H fun x H1 => ∃ z, x = .str z ∧ R (Its z) H1
theorem pi_str {X : Cx} {tg l : Expr} {tl : TE} (hl : PE X l tl) : PI X tg l (iStr tl) := by
  intro pins s σ H R I h
  refine thn (hl pins s σ H _ I h) fun v s1 ⟨x, H1, I1, r1, q1⟩ => ?_
  obtain ⟨z, e, q⟩ := q1
  subst e
  obtain ⟨t, rfl⟩ := r1
  have fin : ∀ (ty : String), (ty = "str_ascii_iterator" ∨ ty = "str_iterator") → PIE X pins σ tg R (.ref s1.heap.objs.size) { s1 with heap := s1.heap.push { cls := .type ty, data := .fields #[.str z t, .int 0 0] } } := fun ty hty =>
    ⟨s1.heap.objs.size, [s1.heap.objs.size], _, _, H1, rfl, I1.kept (t' := s1.toks) fun b o e => Heap.get?_push_of_some _ e, turn_str _ z t ty hty, ⟨_, Heap.get?_push_size _ rfl, rfl, rfl⟩, fun b hb => by
      have e : b = s1.heap.objs.size := by simpa using hb
      subst e
      exact I1.fpOk (Nat.le_refl _) (I1.hok.fresh (Nat.le_refl _)), q⟩
  cases ha : z.cps.all (· < 128)
  · exact wpAny_pyIter_wide ha (fin _ (.inr rfl))
  · exact wpAny_pyIter_ascii ha (fin _ (.inl rfl))
theorem bls_get {bs : List Bool} {its : List Value} (r : Vals (bs.map V.bl) its) {i : Nat} {v : Value} (h : its[i]? = some v) : v = .bool (bs.getD i false) ∧ i < bs.length := by
  have hl := r.length
  rw [List.length_map] at hl
  have hi : i < its.length := (List.getElem?_eq_some_iff.mp h).1
  have hb : i < bs.length := by omega
  have e : (bs.map V.bl)[i]? = some (V.bl bs[i]) := by simp [hb]
  obtain ⟨u, hu, ru⟩ := r.get e
  rw [h] at hu
  cases hu
  refine ⟨?_, hb⟩
  have : v = .bool bs[i] := ru
  rw [this, List.getD_eq_getElem?_getD]
  simp [hb]
theorem all_range (bs : List Bool) : (List.range bs.length).all (fun i => bs.getD i false) = bs.all id := by
  rw [Bool.eq_iff_iff]
  simp only [List.all_eq_true, List.mem_range]
  constructor
  · intro h x hx
    obtain ⟨i, hi, rfl⟩ := List.mem_iff_getElem.mp hx
    have := h i hi
    simpa [List.getD_eq_getElem?_getD, hi] using this
  · intro h i hi
    have := h bs[i] (List.getElem_mem hi)
    simpa [List.getD_eq_getElem?_getD, hi] using this
theorem call_all (X : Cx) (hc : X.calm = true) : CallR X (.builtin "all") (fun xs H Q => ∃ (p : Addr) (bs : List Bool), xs = [.ref p] ∧ SqL X.K H p (bs.map V.bl) ∧ Q (.bl (bs.all id)) H) := by
  intro pins s σ H xs us Q I rv h
  obtain ⟨p, bs, rfl, hq, q⟩ := h
  obtain ⟨u, rfl, ru⟩ := rv.one
  cases ru
  obtain ⟨its, r, pl, hz⟩ := I.list hq
  have hl := r.length
  rw [List.length_map] at hl
  refine call_all_walk (wpAny_pyIter_list pl.isList ?_)
  have hp : p < s.heap.objs.size := by obtain ⟨o, n, e, _⟩ := pl; exact Heap.lt_size e
  have I1 : Inv X pins σ H { s with heap := s.heap.push { cls := .type "list_iterator", data := .fields #[.ref p, .int 0 0] } } := I.kept (t' := s.toks) fun b o e => Heap.get?_push_of_some _ e
  refine ⟨s.heap.objs.size, _, _, _, _, _, fun i => bs.getD i false, rfl, Walks.list (A := X.A.in1) (show X.A.in1.handled = none from I.ok.hd hc) s.heap.objs.size p (Nat.ne_of_lt hp) its.toArray, ⟨⟨_, Heap.get?_push_size _ rfl, rfl, rfl⟩, pl.isList.at fun o e => Heap.get?_push_of_some _ e⟩, ?_, fun h' tk hk => ?_⟩
  · intro i v s' E' Q' hv hq'
    obtain ⟨rfl, _⟩ := bls_get r (by simpa using hv)
    exact wpAny_truthy_bool hq'
  · have e : (List.range its.toArray.size).all (fun i => bs.getD i false) = bs.all id := by
      rw [List.size_toArray, ← hl]; exact all_range bs
    refine ⟨.bl (bs.all id), H, ?_, by rw [e]; rfl, q⟩
    obtain ⟨f0, f1, f2, f3, f4, f5⟩ := I.fpOk (b := s.heap.objs.size) (Nat.le_refl _) (I.hok.fresh (Nat.le_refl _))
    exact I1.turned (t' := tk) (fun b o hb e => hk b o (by simpa using hb) e) f0 f1 f3 f4 f5
theorem call_isT {X : Cx} : CallR X (.builtin "isinstance") (fun xs H Q => ∃ x n t b, xs = [x, .ty n] ∧ TyOf X.K H x t ∧ PySem.W.kitOne X.K t (.type n) = some b ∧ Q (.bl b) H) := by
  intro pins s σ H xs us Q I rv h
  obtain ⟨x, n, t, b, rfl, ty, e, q⟩ := h
  obtain ⟨u, c, rfl, rx, rc⟩ := rv.two
  cases (show c = Value.type n from rc)
  exact isinst_ok I rx ty e fun tk => ⟨.bl b, H, I.tok tk, rfl, q⟩
theorem op_le_str {X : Cx} : OpR X (compareOp .LtE) (fun x y H Q => ∃ i j, x = .str i ∧ y = .str j ∧ Q (.bl (!(decide (j.cps.toList < i.cps.toList)))) H) := by
  intro pins s σ H x y v u Q I rx ry h
  obtain ⟨i, j, rfl, rfl, q⟩ := h
  obtain ⟨t, rfl⟩ := rx
  obtain ⟨t', rfl⟩ := ry
  exact PySem.P.le_str ⟨.bl _, H, I, rfl, q⟩
theorem op_mul_str {X : Cx} : OpR X (binaryOp .Mult) (fun x y H Q => ∃ i n, x = .str i ∧ y = .int n ∧ MulOk i n ∧ Q (.str (Txt.mul i n)) H) := by
  intro pins s σ H x y v u Q I rx ry h
  obtain ⟨i, n, rfl, rfl, ok, q⟩ := h
  obtain ⟨t, rfl⟩ := rx
  obtain ⟨t', rfl⟩ := ry
  exact SB.mul ok fun t' k => ⟨.str _, H, I.tok _, ⟨_, rfl⟩, q⟩
theorem vals_strsFrom : ∀ (k : Nat) (ts : List Str), Vals (ts.map V.str) (strsFrom k ts)
  | _, [] => .nil
  | k, t :: ts => .cons ⟨k, rfl⟩ (vals_strsFrom (k + 1) ts)
def rSplit : V → List V → Hp → VK → Prop := fun x vs H Q => ∃ z sep, x = .str z ∧ vs = [.str sep] ∧ 1 ≤ sep.length ∧ z.length ≤ 1000000 ∧ ∀ l, H l = none → Q (.ref l) (upd H l (.lst ((Txt.split z sep).map V.str)))
theorem mt_split {X : Cx} : MtR X "str.split" rSplit := by
  intro pins s σ H x vs v us Q I rx rv h
  obtain ⟨z, sep, rfl, rfl, h1, hz, q⟩ := h
  obtain ⟨t, rfl⟩ := rx
  obtain ⟨u, rfl, ru⟩ := rv.one
  obtain ⟨t', rfl⟩ := ru
  have hs : sizeLine = 16777216 := sizeLine_eq
  have hle := PyProof.Rows.split_le z sep
  have hy : (sep.length == 0) = false := by simp; omega
  have key : ∀ {its : List Value} {tk : Nat}, Vals ((Txt.split z sep).map V.str) its → EP X pins σ Q (.ref s.heap.objs.size) { s with heap := s.heap.push { cls := .type "list", data := .seq its.toArray }, toks := tk } := fun {its tk} r =>
    ⟨.ref s.heap.objs.size, _, I.lnew (t' := tk) r (by rw [List.length_map, hs]; omega), rfl, q _ (I.hok.fresh (Nat.le_refl _))⟩
  cases e1 : (decide (z.length < sep.length) || decide (Builtin.Str.strKind z < Builtin.Str.strKind sep))
  · cases hf : (Builtin.Str.occurrences z sep 0 z.length (z.length + 1)).isEmpty
    · have e : Txt.split z sep = Builtin.Str.partsBetween z (Builtin.Str.occurrences z sep 0 z.length (z.length + 1)) sep.length := (if_neg (ne_true_of_eq_false e1)).trans (if_neg (ne_true_of_eq_false hf))
      refine call_meets F.slot_str_split (typeIs_str _ _ _) F.entry_str_split (F.args_str_split_2 _ _) (meets_str_split_sep z sep t t' e1 hy hf (by omega) (by rw [← e, hs]; omega)) ?_
      rw [← e]
      exact key (vals_strsFrom _ _)
    · have e : Txt.split z sep = [z] := (if_neg (ne_true_of_eq_false e1)).trans (if_pos hf)
      refine call_meets F.slot_str_split (typeIs_str _ _ _) F.entry_str_split (F.args_str_split_2 _ _) (meets_str_split_not_found z sep t t' e1 hy hf) ?_
      rw [e] at key
      exact key (its := [.str z t]) (tk := s.toks) (.cons ⟨t, rfl⟩ .nil)
  · have e : Txt.split z sep = [z] := if_pos e1
    refine call_meets F.slot_str_split (typeIs_str _ _ _) F.entry_str_split (F.args_str_split_2 _ _) (meets_str_split_cannot_occur z sep t t' e1) ?_
    rw [e] at key
    exact key (its := [.str z t]) (tk := s.toks) (.cons ⟨t, rfl⟩ .nil)
inductive Alike (K : PySem.W.Frag) (H : Hp) : Nat → V → V → Prop
  | flat {n : Nat} {x : V} (fx : flatV x = true) : Alike K H n x x
  | same {n : Nat} {a : Addr} : Alike K H n (.ref a) (.ref a)
  | lists {n : Nat} {a b : Addr} {xs ys : List V} (hx : SqL K H a xs) (hy : SqL K H b ys) (hl : xs.length = ys.length) (he : ∀ (i : Nat) (x y : V), xs[i]? = some x → ys[i]? = some y → Alike K H n x y) : Alike K H (n + 1) (.ref a) (.ref b)
  | tups {n : Nat} {a b : Addr} {xs ys : List V} (hx : SqT K H a xs) (hy : SqT K H b ys) (hl : xs.length = ys.length) (he : ∀ (i : Nat) (x y : V), xs[i]? = some x → ys[i]? = some y → Alike K H n x y) : Alike K H (n + 1) (.ref a) (.ref b)
theorem eqV_refl {x : V} (h : flatV x = true) : eqV x x = true := by
  cases x <;> simp [eqV] <;> simp [flatV] at h
section
variable {X : Cx} {pins : List (Addr × Obj)} {σ : St} {H : Hp} {s : Shared}
theorem all_true (n : Nat) : (List.range n).all (fun _ => true) = true := by simp
theorem alike_at (I : Inv X pins σ H s) {n : Nat} {x y : V} (h : Alike X.K H n x y) : ∀ {u v : Value} {A : Around}, RelV x u → RelV y v → A.units + n < cLine → SeqAt.EqAt A s u v true := by
  induction h with
  | flat fx =>
    intro u v A ru rv _
    have q := eqAt_V (A := A) (s := s) ru rv fx fx
    rwa [eqV_refl fx] at q
  | same =>
    intro u v A ru rv _
    cases ru
    cases rv
    exact SeqAt.EqAt.same _
  | @lists n a b xs ys hx hy hl he ih =>
    intro u v A ru rv hu
    cases ru
    cases rv
    by_cases ab : a = b
    · subst ab; exact SeqAt.EqAt.same _
    · obtain ⟨its, r, pl, hz⟩ := I.list hx
      obtain ⟨its2, r2, pl2, hz2⟩ := I.list hy
      have e1 := r.length
      have e2 := r2.length
      have q := SeqAt.RcAt.lists (A := A) (s := s) (e := fun _ => true) pl.isList pl2.isList (by rw [List.size_toArray, List.size_toArray]; omega) (by omega) (fun j h1 h2 => by
        rw [List.size_toArray] at h1 h2
        have hjx : xs[j]? = some (xs[j]'(by omega)) := by simp
        have hjy : ys[j]? = some (ys[j]'(by omega)) := by simp
        obtain ⟨u1, q1, ru1⟩ := r.get hjx
        obtain ⟨v1, q2, rv1⟩ := r2.get hjy
        have e3 : its.toArray[j] = u1 := by
          have : its[j]? = some its[j] := by simp
          rw [this] at q1; simpa using q1
        have e4 : its2.toArray[j] = v1 := by
          have : its2[j]? = some its2[j] := by simp
          rw [this] at q2; simpa using q2
        rw [e3, e4]
        exact ih j _ _ hjx hjy ru1 rv1 (by show A.units + 1 + n < cLine; omega))
      rw [all_true] at q
      exact SeqAt.EqAt.of_refs ab q
  | @tups n a b xs ys hx hy hl he ih =>
    intro u v A ru rv hu
    cases ru
    cases rv
    by_cases ab : a = b
    · subst ab; exact SeqAt.EqAt.same _
    · obtain ⟨its, r, pl, hz⟩ := I.tuple hx
      obtain ⟨its2, r2, pl2, hz2⟩ := I.tuple hy
      have e1 := r.length
      have e2 := r2.length
      have q := SeqAt.RcAt.tuples (A := A) (s := s) (e := fun _ => true) (show s.heap.IsTuple a its.toArray from pl) (show s.heap.IsTuple b its2.toArray from pl2) (by omega) (fun j h1 h2 => by
        rw [List.size_toArray] at h1 h2
        have hjx : xs[j]? = some (xs[j]'(by omega)) := by simp
        have hjy : ys[j]? = some (ys[j]'(by omega)) := by simp
        obtain ⟨u1, q1, ru1⟩ := r.get hjx
        obtain ⟨v1, q2, rv1⟩ := r2.get hjy
        have e3 : its.toArray[j] = u1 := by
          have : its[j]? = some its[j] := by simp
          rw [this] at q1; simpa using q1
        have e4 : its2.toArray[j] = v1 := by
          have : its2[j]? = some its2[j] := by simp
          rw [this] at q2; simpa using q2
        rw [e3, e4]
        exact ih j _ _ hjx hjy ru1 rv1 (by show A.units + 1 + n < cLine; omega))
      rw [all_true, Bool.true_and, List.size_toArray, List.size_toArray, ← e1, ← e2, hl, beq_self_eq_true] at q
      exact SeqAt.EqAt.of_refs ab q
theorem alike_items (I : Inv X pins σ H s) {n : Nat} {xs ys : List V} {its its2 : List Value} {A : Around} (r : Vals xs its) (r2 : Vals ys its2) (he : ∀ (i : Nat) (x y : V), xs[i]? = some x → ys[i]? = some y → Alike X.K H n x y) (hu : A.units + n < cLine) :
    ∀ j (h1 : j < its.toArray.size) (h2 : j < its2.toArray.size), SeqAt.EqAt A s its.toArray[j] its2.toArray[j] true := fun j h1 h2 => by
  have e1 := r.length
  have e2 := r2.length
  rw [List.size_toArray] at h1 h2
  have hjx : xs[j]? = some (xs[j]'(by omega)) := by simp
  have hjy : ys[j]? = some (ys[j]'(by omega)) := by simp
  obtain ⟨u1, q1, ru1⟩ := r.get hjx
  obtain ⟨v1, q2, rv1⟩ := r2.get hjy
  have e3 : its.toArray[j] = u1 := by
    have : its[j]? = some its[j] := by simp
    rw [this] at q1; simpa using q1
  have e4 : its2.toArray[j] = v1 := by
    have : its2[j]? = some its2[j] := by simp
    rw [this] at q2; simpa using q2
  rw [e3, e4]
  exact alike_at I (he j _ _ hjx hjy) ru1 rv1 hu
end
def rAlike (K : PySem.W.Frag) (n : Nat) (b : Bool) : R2 := fun x y H Q => ∃ a c xs ys, x = .ref a ∧ y = .ref c ∧ SqL K H a xs ∧ SqL K H c ys ∧ xs.length = ys.length ∧ (∀ (i : Nat) (x y : V), xs[i]? = some x → ys[i]? = some y → Alike K H n x y) ∧ Q (.bl b) H
def rUnlen (K : PySem.W.Frag) (b : Bool) : R2 := fun x y H Q => ∃ a c xs ys, x = .ref a ∧ y = .ref c ∧ SqL K H a xs ∧ SqL K H c ys ∧ xs.length ≠ ys.length ∧ Q (.bl b) H
section
variable {X : Cx}
theorem op_eqA {n : Nat} (hu : X.A.units + 1 + n < cLine) : OpR X (compareOp .Eq) (rAlike X.K n true) := by
  intro pins s σ H x y v u Q I rx ry h
  obtain ⟨a, c, xs, ys, rfl, rfl, hx, hy, hl, he, q⟩ := h
  cases rx
  cases ry
  obtain ⟨its, r, pl, hz⟩ := I.list hx
  obtain ⟨its2, r2, pl2, hz2⟩ := I.list hy
  have e1 := r.length
  have e2 := r2.length
  refine SeqAt.eq_listAt (e := fun _ => true) pl.isList pl2.isList (by rw [List.size_toArray, List.size_toArray]; omega) (by omega) (alike_items I r r2 he (by show X.A.units + 1 + n < cLine; omega)) ?_
  rw [all_true]
  exact ⟨.bl true, H, I, rfl, q⟩
theorem op_neA {n : Nat} (hu : X.A.units + 1 + n < cLine) : OpR X (compareOp .NotEq) (rAlike X.K n false) := by
  intro pins s σ H x y v u Q I rx ry h
  obtain ⟨a, c, xs, ys, rfl, rfl, hx, hy, hl, he, q⟩ := h
  cases rx
  cases ry
  obtain ⟨its, r, pl, hz⟩ := I.list hx
  obtain ⟨its2, r2, pl2, hz2⟩ := I.list hy
  have e1 := r.length
  have e2 := r2.length
  refine SeqAt.RcNeAt.lists (e := fun _ => true) pl.isList pl2.isList (by rw [List.size_toArray, List.size_toArray]; omega) (by omega) (alike_items I r r2 he (by show X.A.units + 1 + n < cLine; omega)) X.prog X.w X.xe _ ?_
  rw [all_true]
  exact ⟨.bl false, H, I, rfl, q⟩
theorem op_eqU (hu : X.A.units < cLine) : OpR X (compareOp .Eq) (rUnlen X.K false) := by
  intro pins s σ H x y v u Q I rx ry h
  obtain ⟨a, c, xs, ys, rfl, rfl, hx, hy, hl, q⟩ := h
  cases rx
  cases ry
  obtain ⟨its, r, pl, hz⟩ := I.list hx
  obtain ⟨its2, r2, pl2, hz2⟩ := I.list hy
  have e1 := r.length
  have e2 := r2.length
  exact SeqAt.eq_list_lengthsAt pl.isList pl2.isList (by rw [List.size_toArray, List.size_toArray]; simp; omega) hu ⟨.bl false, H, I, rfl, q⟩
theorem OpR.either {f : Value → Value → Sem Value} {r r' : R2} (h : OpR X f r) (h' : OpR X f r') : OpR X f (fun x y H Q => r x y H Q ∨ r' x y H Q) := by
  intro pins s σ H x y v u Q I rx ry q
  rcases q with q | q
  · exact h pins s σ H x y v u Q I rx ry q
  · exact h' pins s σ H x y v u Q I rx ry q
end
end L2
set_option Elab.async false
set_option linter.all false
namespace SM
open PySem PySem.StrLaws PySem.Builtin PySem.Builtin.Str
end SM
set_option Elab.async false
set_option linter.all false
set_option maxRecDepth 100000
set_option maxHeartbeats 4000000
namespace L2
open PySem PySem.Spec PyProof.Rows
structure Cal (P : Program) (w : World) (K : PySem.W.Frag) (mg : Str → Option Value) (base : Heap) (x : Str) (k : Nat) (ps : List Str) (sp : Sp) : Prop where
  to : ∃ (f : Addr) (fd : FuncData), mg x = some (.ref f) ∧ PySem.W.keepIn K (.ref f) = true ∧ Binds K fd ps [] ∧ FnOk P w K mg base CX0 k f fd ps sp
theorem pe_callC {X : Cx} {x : Str} {k : Nat} {ps : List Str} {sp : Sp} {e : Expr} {es : List Expr} {p pos : Pos} {t : TA} (C : Cal X.prog X.w X.K X.mg X.base x k ps sp) (hr : Room k X.A) (hg : Gl X x) (ha : PA X (e :: es) t)
    (hdb : (x == ("__debug__" : Str)) = false := by decide) (he : starEach (e :: es) X.env = (false, eval e X.env) :: starEach es X.env := by rfl) (hpl : (backTo pos (starEach es X.env)).any (·.1) = false := by rfl) :
    PE X (.Call (.Name x p) (e :: es) [] pos) (tCall sp [] E0 t) := by
  obtain ⟨f, fd, h1, h2, h3, h4⟩ := C.to
  exact pe_call h4 hr hg h1 h2 h3 .nil pass0 ha hdb he hpl
theorem bo_max : bootBuiltins "max" = some (.builtin "max") := by decide +kernel
theorem bo_all : bootBuiltins "all" = some (.builtin "all") := by decide +kernel
theorem bo_isinstance : bootBuiltins "isinstance" = some (.builtin "isinstance") := by decide +kernel
theorem bo_len : bootBuiltins "len" = some (.builtin "len") := by decide +kernel
theorem bo_int : bootBuiltins "int" = some (.type "int") := by decide +kernel
theorem bo_str : bootBuiltins "str" = some (.type "str") := by decide +kernel
theorem bo_tuple : bootBuiltins "tuple" = some (.type "tuple") := by decide +kernel
def Fre (H : Hp) (l : Addr) : Prop := H l = none
def Kp (M : List Addr) (H H' : Hp) : Prop := ∀ b o, H b = some o → b ∉ M → H' b = some o
theorem Kp.refl {M : List Addr} {H : Hp} : Kp M H H := fun _ _ h _ => h
theorem Kp.trans {M : List Addr} {H H1 H2 : Hp} (a : Kp M H H1) (b : Kp M H1 H2) : Kp M H H2 := fun c o h n => b c o (a c o h n) n
theorem Kp.weak {M M' : List Addr} {H H' : Hp} (k : Kp M H H') (s : ∀ b, b ∈ M → b ∈ M') : Kp M' H H' := fun b o h n => k b o h fun z => n (s b z)
theorem Kp.of0 {M : List Addr} {H H' : Hp} (k : Kp [] H H') : Kp M H H' := fun b o h _ => k b o h (by simp)
theorem Kp.new {M : List Addr} {H H' : Hp} {l : Addr} {o : HO} (k : Kp M H H') (f : Fre H l) : Kp M H (upd H' l o) := fun b u h n => by
  rw [upd_ne (ne_of_none h f)]; exact k b u h n
theorem Kp.put {M : List Addr} {H H' : Hp} {l : Addr} {o : HO} (k : Kp M H H') (f : l ∈ M) : Kp M H (upd H' l o) := fun b u h n => by
  rw [upd_ne (by intro e; subst e; exact n f)]; exact k b u h n
theorem Kp.fre {M : List Addr} {H H' : Hp} {l : Addr} (k : Kp M H H') (f : Fre H' l) (n : l ∉ M) : Fre H l := by
  unfold Fre
  cases q : H l with
  | none => rfl
  | some o =>
    have := k l o q n
    unfold Fre at f
    rw [f] at this; cases this
theorem Kp.at0 {H H' : Hp} (k : Kp [] H H') : Same H H' := fun b o h => k b o h (by simp)
theorem Kp.seq {K : PySem.W.Frag} {H H' : Hp} {a : Addr} {xs : List V} (e : Kp [] H H') (h : SqL K H a xs) : SqL K H' a xs := e.at0.seq h
theorem ne_fre {H : Hp} {a b : Addr} {o : HO} (f : Fre H b) (h : H a = some o) : a ≠ b := ne_of_none h f
theorem nm1 {a b : Addr} (h : a ≠ b) : a ∉ [b] := by simpa using h
theorem nm2 {a b c : Addr} (h : a ≠ b) (h' : a ≠ c) : a ∉ [b, c] := by simp; exact ⟨h, h'⟩
theorem atI_at {α : Type} {xs : List α} {i : Int} {v : α} (h0 : 0 ≤ i) (h : xs[i.toNat]? = some v) : atI xs i = some v := by
  have hl : i.toNat < xs.length := (List.getElem?_eq_some_iff.mp h).1
  unfold atI ixN
  rw [if_pos h0, if_pos (by omega)]
  exact h
theorem atI_natc {α : Type} {xs : List α} {n : Nat} {v : α} (h : xs[n]? = some v) : atI xs (n : Int) = some v := atI_at (by omega) (by simpa using h)
end L2
namespace L2
open PySem PySem.Spec PyProof.Rows
theorem hu2 {A : Around} {k n : Nat} (hr : Room k A) (h : n ≤ 60 := by decide) : A.units + 1 + n < cLine := by
  have := hr.units
  omega
theorem hu0 {A : Around} {k : Nat} (hr : Room k A) : A.units < cLine := by
  have := hr.units
  omega
theorem op_eqL {X : Cx} {k : Nat} (hr : Room k X.A) : OpR X (compareOp .Eq) (fun x y H Q => rAlike X.K 8 true x y H Q ∨ rUnlen X.K false x y H Q) := (op_eqA (hu2 hr)).either (op_eqU (hu0 hr))
theorem kit_same {K : PySem.W.Frag} {t : Value} (h : (t == t) = true := by rfl) : PySem.W.kitOne K t t = some true := by
  unfold PySem.W.kitOne; rw [if_pos h]
theorem mulok0 (x : Str) : MulOk x 0 := ⟨by decide, fun h => absurd (by decide) h, fun h => absurd (by decide) h⟩
theorem mulok1 (x : Str) : MulOk x 1 := ⟨by decide, fun _ h => by simp at h, fun _ h => by simp at h⟩
theorem mul0 (x : Str) : Txt.mul x 0 = Str.empty := by unfold Txt.mul; rw [if_pos (by decide)]
theorem mul1 (x : Str) : Txt.mul x 1 = x := by unfold Txt.mul; rw [if_neg (by decide), if_pos (by simp)]
theorem app_empty (x : Str) : x ++ Str.empty = x := Str.append_right_empty (by rfl)
theorem empty_app (x : Str) : Str.empty ++ x = x := Str.append_left_empty (by rfl)
theorem app_assoc (x y z : Str) : x ++ y ++ z = x ++ (y ++ z) := by
  apply Str.ext'
  simp [Str.cps_append, Array.append_assoc]
theorem join_nil (sep : Str) : Txt.join sep [] = Str.empty := rfl
theorem join_one (sep x : Str) : Txt.join sep [x] = x := rfl
theorem join_more (sep : Str) (xs : List Str) (x : Str) (h : xs ≠ []) : Txt.join sep (xs ++ [x]) = Txt.join sep xs ++ sep ++ x := by
  obtain ⟨y, r, rfl⟩ := List.exists_cons_of_ne_nil h
  apply Str.ext'
  show (((y :: r) ++ [x]).drop 1).foldl _ _ = _
  simp only [List.cons_append, List.drop_succ_cons, List.drop_zero, List.foldl_append, List.foldl_cons, List.foldl_nil, List.headD_cons]
  show _ ++ sep.cps ++ x.cps = (Txt.join sep (y :: r) ++ sep ++ x).cps
  rw [Str.cps_append, Str.cps_append]
  rfl
theorem join_len (sep : Str) (xs : List Str) : (Txt.join sep xs).length ≤ (xs.map (·.length)).sum + xs.length * sep.length := by
  show (Builtin.Str.glued sep xs).length ≤ _
  rw [StrLaws.glued_eq_join]; exact StrLaws.join_length_le sep xs
theorem sum_le {α : Type} (f : α → Nat) (m : Nat) : ∀ {xs : List α}, (∀ x ∈ xs, f x ≤ m) → (xs.map f).sum ≤ xs.length * m
  | [], _ => by simp
  | x :: r, h => by
    have h1 := h x List.mem_cons_self
    have h2 := sum_le f m (xs := r) fun y hy => h y (List.mem_cons_of_mem _ hy)
    simp only [List.map_cons, List.sum_cons, List.length_cons]
    rw [Nat.succ_mul]
    omega
end L2
namespace L2
open PySem PySem.Spec PyProof.Rows
theorem if_mid {tb : TS} {D : Ends} {σ : St} {H : Hp} {b : Bool} (Mid : St → Hp → Prop) (h1 : ∀ N : St → Hp → Prop, (∀ σ H, Mid σ H → N σ H) → if b = true then tb { D with nx := N } σ H else N σ H) (h2 : ∀ σ H, Mid σ H → D.nx σ H) :
    if b = true then tb D σ H else tNext D σ H := h1 D.nx h2
end L2
namespace L2
open PySem PySem.Spec PyProof.Rows
theorem comp_list {K : PySem.W.Frag} {a : Addr} {ix : List (Option Nat)} {g : TG} {tt : TT} {te : TE} {QD : Hp → Prop} {σ : St} {H1 : Hp} {D : Addr} (xs : List V) (Pv : Nat → List V → St → Hp → Prop) (h0 : Pv 0 [] (blkSt σ ix) (upd H1 D (.lst [])))
    (hl : ∀ i ys τ H, Pv i ys τ H → SqL K H a xs)
    (hs : ∀ i x ys τ H, xs[i]? = some x → Pv i ys τ H → g x τ H fun τ' H4 => tt τ' H4 fun b H5 => if b = true then te τ' H5 fun v H6 => H6 D = some (.lst ys) ∧ ys.length < sizeLine ∧ Pv (i + 1) (ys ++ [v]) τ' (upd H6 D (.lst (ys ++ [v]))) else Pv (i + 1) ys τ' H5)
    (hd : ∀ ys τ H, Pv xs.length ys τ H → QD H) :
    ∃ W : Nat → Nat → List V → St → Hp → Prop, (∃ m, W 0 m [] (blkSt σ ix) (upd H1 D (.lst []))) ∧ ∀ i m ys τ H2, W i m ys τ H2 →
      ((Itl K a).stop i H2 ∧ QD H2) ∨ ((Itl K a).go i H2 ∧ ∃ N : List V → St → Hp → Prop, (∀ ys' τ' H', N ys' τ' H' → ∃ m', m' < m ∧ W (i + 1) m' ys' τ' H') ∧ ∀ x H3, (Itl K a).yld i H2 x H3 → g x τ H3 fun τ' H4 => tt τ' H4 fun b H5 =>
        if b = true then te τ' H5 fun v H6 => H6 D = some (.lst ys) ∧ ys.length < sizeLine ∧ N (ys ++ [v]) τ' (upd H6 D (.lst (ys ++ [v])))
        else N ys τ' H5) := by
  refine comp_by (Q := fun _ H => QD H) xs Pv h0 (fun i ys τ H p => ⟨fun x hx => ⟨⟨xs, x, hl i ys τ H p, hx⟩, fun y H' yl => ?_⟩, fun e => ⟨xs, hl i ys τ H p, by omega⟩⟩) hs hd
  obtain ⟨e, z⟩ := yl
  subst e
  have := z xs (hl i ys τ _ p)
  rw [hx] at this
  exact ⟨rfl, (Option.some.inj this).symm⟩
theorem comp_str {z : Str} {ix : List (Option Nat)} {g : TG} {tt : TT} {te : TE} {QD : Hp → Prop} {σ : St} {H1 : Hp} {D : Addr} (Pv : Nat → List V → St → Hp → Prop) (h0 : Pv 0 [] (blkSt σ ix) (upd H1 D (.lst [])))
    (hs : ∀ i c ys τ H, z.cps.toList[i]? = some c → Pv i ys τ H → g (.str ⟨#[c]⟩) τ H fun τ' H4 => tt τ' H4 fun b H5 => if b = true then te τ' H5 fun v H6 => H6 D = some (.lst ys) ∧ ys.length < sizeLine ∧ Pv (i + 1) (ys ++ [v]) τ' (upd H6 D (.lst (ys ++ [v]))) else Pv (i + 1) ys τ' H5)
    (hd : ∀ ys τ H, Pv z.length ys τ H → QD H) :
    ∃ W : Nat → Nat → List V → St → Hp → Prop, (∃ m, W 0 m [] (blkSt σ ix) (upd H1 D (.lst []))) ∧ ∀ i m ys τ H2, W i m ys τ H2 →
      ((Its z).stop i H2 ∧ QD H2) ∨ ((Its z).go i H2 ∧ ∃ N : List V → St → Hp → Prop, (∀ ys' τ' H', N ys' τ' H' → ∃ m', m' < m ∧ W (i + 1) m' ys' τ' H') ∧ ∀ x H3, (Its z).yld i H2 x H3 → g x τ H3 fun τ' H4 => tt τ' H4 fun b H5 =>
        if b = true then te τ' H5 fun v H6 => H6 D = some (.lst ys) ∧ ys.length < sizeLine ∧ N (ys ++ [v]) τ' (upd H6 D (.lst (ys ++ [v])))
        else N ys τ' H5) := by
  refine ⟨fun i m ys τ H => m = z.length - i ∧ i ≤ z.length ∧ Pv i ys τ H, ⟨z.length, by simp, Nat.zero_le _, h0⟩, ?_⟩
  rintro i m ys τ H ⟨rfl, hi, p⟩
  by_cases hlt : i < z.length
  · refine .inr ⟨hlt, Pv (i + 1), fun ys' τ' H' p' => ⟨z.length - (i + 1), by omega, rfl, hlt, p'⟩, fun y H' yd => ?_⟩
    obtain ⟨e1, c, e2, e3⟩ := yd
    subst e1 e3
    exact hs i c ys τ _ (by simpa using e2) p
  · have e : i = z.length := by omega
    subst e
    exact .inl ⟨Nat.le_refl _, hd ys τ H p⟩
theorem comp_list0 {K : PySem.W.Frag} {a : Addr} {ix : List (Option Nat)} {g : TG} {te : TE} {QD : Hp → Prop} {σ : St} {H1 : Hp} {D : Addr} (xs : List V) (Pv : Nat → List V → St → Hp → Prop) (h0 : Pv 0 [] (blkSt σ ix) (upd H1 D (.lst [])))
    (hl : ∀ i ys τ H, Pv i ys τ H → SqL K H a xs)
    (hs : ∀ i x ys τ H, xs[i]? = some x → Pv i ys τ H → g x τ H fun τ' H4 => te τ' H4 fun v H6 => H6 D = some (.lst ys) ∧ ys.length < sizeLine ∧ Pv (i + 1) (ys ++ [v]) τ' (upd H6 D (.lst (ys ++ [v]))))
    (hd : ∀ ys τ H, Pv xs.length ys τ H → QD H) :
    ∃ W : Nat → Nat → List V → St → Hp → Prop, (∃ m, W 0 m [] (blkSt σ ix) (upd H1 D (.lst []))) ∧ ∀ i m ys τ H2, W i m ys τ H2 →
      ((Itl K a).stop i H2 ∧ QD H2) ∨ ((Itl K a).go i H2 ∧ ∃ N : List V → St → Hp → Prop, (∀ ys' τ' H', N ys' τ' H' → ∃ m', m' < m ∧ W (i + 1) m' ys' τ' H') ∧ ∀ x H3, (Itl K a).yld i H2 x H3 → g x τ H3 fun τ' H4 => tTrue τ' H4 fun b H5 =>
        if b = true then te τ' H5 fun v H6 => H6 D = some (.lst ys) ∧ ys.length < sizeLine ∧ N (ys ++ [v]) τ' (upd H6 D (.lst (ys ++ [v])))
        else N ys τ' H5) := comp_list (tt := tTrue) xs Pv h0 hl hs hd
theorem comp_str0 {z : Str} {ix : List (Option Nat)} {g : TG} {te : TE} {QD : Hp → Prop} {σ : St} {H1 : Hp} {D : Addr} (Pv : Nat → List V → St → Hp → Prop) (h0 : Pv 0 [] (blkSt σ ix) (upd H1 D (.lst [])))
    (hs : ∀ i c ys τ H, z.cps.toList[i]? = some c → Pv i ys τ H → g (.str ⟨#[c]⟩) τ H fun τ' H4 => te τ' H4 fun v H6 => H6 D = some (.lst ys) ∧ ys.length < sizeLine ∧ Pv (i + 1) (ys ++ [v]) τ' (upd H6 D (.lst (ys ++ [v]))))
    (hd : ∀ ys τ H, Pv z.length ys τ H → QD H) :
    ∃ W : Nat → Nat → List V → St → Hp → Prop, (∃ m, W 0 m [] (blkSt σ ix) (upd H1 D (.lst []))) ∧ ∀ i m ys τ H2, W i m ys τ H2 →
      ((Its z).stop i H2 ∧ QD H2) ∨ ((Its z).go i H2 ∧ ∃ N : List V → St → Hp → Prop, (∀ ys' τ' H', N ys' τ' H' → ∃ m', m' < m ∧ W (i + 1) m' ys' τ' H') ∧ ∀ x H3, (Its z).yld i H2 x H3 → g x τ H3 fun τ' H4 => tTrue τ' H4 fun b H5 =>
        if b = true then te τ' H5 fun v H6 => H6 D = some (.lst ys) ∧ ys.length < sizeLine ∧ N (ys ++ [v]) τ' (upd H6 D (.lst (ys ++ [v])))
        else N ys τ' H5) := comp_str (tt := tTrue) Pv h0 hs hd
end L2
namespace L2
open PySem PySem.Spec PyProof.Rows
section
variable {X : Cx} {K : PySem.W.Frag}
end
end L2
namespace L2
open PySem PySem.Spec PyProof.Rows
theorem Kp.drop {H H1 H2 : Hp} {p : Addr} (k1 : Kp [] H H1) (f : Fre H p) (k2 : Kp [p] H1 H2) : Kp [] H H2 := fun b o h _ => k2 b o (k1 b o h (by simp)) (nm1 (ne_fre f h))
theorem mem_cut {xs : List V} {lo hi : Option Int} {x : V} (h : x ∈ cutV xs lo hi) : x ∈ xs := List.mem_of_mem_drop (List.mem_of_mem_take h)
theorem len_cut {xs : List V} {lo hi : Option Int} : (cutV xs lo hi).length ≤ xs.length := by
  unfold cutV
  rw [List.length_take, List.length_drop]; omega
end L2
set_option Elab.async false
set_option linter.all false
set_option maxRecDepth 100000
set_option maxHeartbeats 4000000
namespace Tim
open PySem PyProof.Rows
section
variable {prog : Program} {w : World} {A : Around} {E : Value → Shared → Prop} {s : Shared} {kd : SortKind} {κ : KeyKind}
end
end Tim
set_option Elab.async false
set_option linter.all false
set_option maxRecDepth 100000
set_option maxHeartbeats 4000000
namespace Tim
open PySem PyProof.Rows
section
variable {κ : KeyKind}
section
variable {a b out : Array Keyed} {ia ib : Nat}
end
end
section
variable {prog : Program} {w : World} {A : Around} {E : Value → Shared → Prop} {s : Shared} {kd : SortKind} {κ : KeyKind} {a b : Array Keyed}
end
end Tim
set_option Elab.async false
set_option linter.all false
set_option maxRecDepth 100000
set_option maxHeartbeats 4000000
namespace Tim
open PySem PyProof.Rows
section
variable {κ : KeyKind}
section
variable {a b out : Array Keyed} {na nb : Nat}
end
end
section
variable {prog : Program} {w : World} {A : Around} {E : Value → Shared → Prop} {s : Shared} {kd : SortKind} {κ : KeyKind} {a b : Array Keyed}
end
end Tim
set_option Elab.async false
set_option linter.all false
set_option maxRecDepth 100000
set_option maxHeartbeats 4000000
namespace Tim
open PySem PyProof.Rows
section
variable {prog : Program} {w : World} {A : Around} {E : Value → Shared → Prop} {s : Shared} {kd : SortKind} {κ : KeyKind}
end
end Tim
set_option Elab.async false
set_option linter.all false
set_option maxRecDepth 100000
set_option maxHeartbeats 4000000
namespace Tim
open PySem PyProof.Rows
section
variable {prog : Program} {w : World} {A : Around} {E : Value → Shared → Prop} {s : Shared} {kd : SortKind} {κ : KeyKind}
end
end Tim
set_option Elab.async false
set_option linter.all false
set_option maxRecDepth 100000
set_option maxHeartbeats 4000000
namespace Tim
open PySem PyProof.Rows
section
variable {prog : Program} {w : World} {A : Around} {E : Value → Shared → Prop} {s : Shared} {kd : SortKind} {κ : KeyKind} {a₀ : Array Keyed}
end
end Tim
set_option Elab.async false
set_option linter.all false
set_option maxRecDepth 100000
set_option maxHeartbeats 4000000
namespace ST
open PySem PySem.SetTable
end ST
set_option Elab.async false
set_option linter.all false
set_option maxRecDepth 100000
set_option maxHeartbeats 4000000
namespace ST
open PySem PySem.SetTable
section
variable {t : SetTable} {hs : List Int}
end
end ST
set_option Elab.async false
set_option linter.all false
set_option maxRecDepth 100000
set_option maxHeartbeats 4000000
namespace ST
open PySem PySem.SetTable
end ST
set_option Elab.async false
set_option linter.all false
set_option maxRecDepth 100000
set_option maxHeartbeats 4000000
namespace ST
open PySem PySem.SetTable
section
variable {prog : Program} {w : World} {K : Type} [DecidableEq K] {knd : KeyKind prog w K} {A : Around} {E : Value → Shared → Prop} {s : Shared}
end
end ST
set_option Elab.async false
set_option linter.all false
set_option maxRecDepth 100000
set_option maxHeartbeats 4000000
namespace ST
open PySem PySem.SetTable
section
variable {prog : Program} {w : World} {K : Type} [DecidableEq K] {knd : KeyKind prog w K} {A : Around} {E : Value → Shared → Prop} {s : Shared}
section
variable {a : Addr} {xs : List (List K × Addr)} {o : Obj} {es : Array (Int × Value)} {ep : Nat} {t : SetTable}
end
end
end ST
set_option Elab.async false
set_option linter.all false
set_option maxRecDepth 100000
set_option maxHeartbeats 4000000
namespace ST
open PySem PySem.SetTable
section
variable {prog : Program} {w : World} {K : Type} [DecidableEq K] {knd : KeyKind prog w K} {A : Around} {E : Value → Shared → Prop} {s : Shared}
variable {a : Addr} {xs : List (List K × Addr)} {o : Obj} {es : Array (Int × Value)} {ep : Nat} {t : SetTable}
end
end ST
set_option Elab.async false
set_option linter.all false
set_option maxRecDepth 100000
set_option maxHeartbeats 4000000
namespace ST
open PySem PySem.SetTable PyProof.Rows
section
variable {prog : Program} {w : World} {K : Type} [DecidableEq K] {knd : KeyKind prog w K} {A : Around} {E : Value → Shared → Prop} {s : Shared}
variable {a : Addr} {xs : List (List K × Addr)} {o : Obj} {es : Array (Int × Value)} {ep : Nat} {t : SetTable}
end
section
variable {prog : Program} {w : World} {K : Type} [DecidableEq K] {knd : KeyKind prog w K} {A : Around} {R : Result → Shared → Prop} {I : Addr} {fp wr : List Addr} {G : Array GenState → Array GenState → Prop} {P : Nat → Value → Prop} {St : Nat → Shared → Prop}
end
section
variable {prog : Program} {w : World} {K : Type} [DecidableEq K] {knd : KeyKind prog w K} {A : Around} {E : Value → Shared → Prop} {s : Shared}
end
end ST
set_option Elab.async false
set_option linter.all false
set_option maxRecDepth 100000
set_option maxHeartbeats 4000000
namespace ST
open PySem PySem.SetTable PyProof.Rows
section
variable {prog : Program} {w : World} {K : Type} [DecidableEq K] {knd : KeyKind prog w K} {A : Around} {E : Value → Shared → Prop}
end
end ST
set_option Elab.async false
set_option linter.all false
set_option maxRecDepth 100000
set_option maxHeartbeats 4000000
namespace ST
open PySem PySem.SetTable PyProof.Rows
section
variable {prog : Program} {w : World} {K : Type} [DecidableEq K] {knd : KeyKind prog w K} {A : Around} {E : Value → Shared → Prop} {s : Shared}
variable {a I : Addr} {xs : List (List K × Addr)} {o oI : Obj} {es : Array (Int × Value)} {ep i : Nat} {t : SetTable} {ord : List Value} {first : Value}
end
end ST
set_option Elab.async false
set_option linter.all false
set_option maxRecDepth 100000
set_option maxHeartbeats 4000000
namespace ST
open PySem PySem.SetTable PyProof.Rows
section
variable {prog : Program} {w : World} {K : Type} [DecidableEq K] {knd : KeyKind prog w K} {A : Around} {E : Value → Shared → Prop} {s : Shared}
variable {a I : Addr} {xs : List (List K × Addr)} {o oI : Obj} {es : Array (Int × Value)} {ep i : Nat} {t : SetTable} {ord : List Value} {first : Value}
end
end ST
set_option Elab.async false
set_option linter.all false
set_option maxRecDepth 100000
set_option maxHeartbeats 4000000
namespace ST
open PySem PyProof.Rows PySem.W
section
variable {prog : Program} {w : World} {A : Around} {E : Value → Shared → Prop} {s : Shared}
end
end ST
set_option Elab.async false
set_option linter.all false
set_option maxRecDepth 100000
set_option maxHeartbeats 4000000
namespace ST
open PySem PyProof.Rows PySem.W
section
variable {prog : Program} {w : World} {A : Around} {E : Value → Shared → Prop} {s : Shared}
end
end ST
set_option Elab.async false
set_option linter.all false
set_option maxRecDepth 100000
set_option maxHeartbeats 4000000
namespace ST
open PySem PyProof.Rows PySem.W
section
variable {prog : Program} {w : World} {A : Around} {E : Value → Shared → Prop} {s : Shared}
end
section
variable {prog : Program} {w : World} {A : Around} {E : Value → Shared → Prop} {s : Shared}
end
end ST
set_option Elab.async false
set_option linter.all false
set_option maxRecDepth 100000
set_option maxHeartbeats 4000000
namespace L2
open PySem PySem.Spec PyProof.Rows
section
variable {X : Cx} {pins : List (Addr × Obj)} {σ : St} {H : Hp} {s : Shared}
end
end L2
set_option Elab.async false
set_option linter.all false
set_option maxRecDepth 100000
set_option maxHeartbeats 4000000
namespace ST
section
open PySem PyProof.Rows
variable {prog : Program} {w : World} {A : Around} {s : Shared}
end
end ST
namespace L2
open PySem PySem.Spec PyProof.Rows
section
variable {X : Cx} {pins : List (Addr × Obj)} {σ : St} {H : Hp} {s : Shared}
end
end L2
set_option Elab.async false
set_option linter.all false
set_option maxRecDepth 100000
set_option maxHeartbeats 4000000
namespace L2
open PySem PySem.Spec PyProof.Rows
section
variable {X : Cx}
end
end L2
set_option Elab.async false
set_option linter.all false
set_option maxRecDepth 100000
set_option maxHeartbeats 4000000
namespace L2
open PySem PySem.Spec PyProof.Rows
section
variable {X : Cx}
theorem op_neU (hu : X.A.units < cLine) : OpR X (compareOp .NotEq) (rUnlen X.K true) := by
  intro pins s σ H x y v u Q I rx ry h
  obtain ⟨a, c, xs, ys, rfl, rfl, hx, hy, hl, q⟩ := h
  cases rx
  cases ry
  obtain ⟨its, r, pl, hz⟩ := I.list hx
  obtain ⟨its2, r2, pl2, hz2⟩ := I.list hy
  have e1 := r.length
  have e2 := r2.length
  exact SeqAt.RcNeAt.lists_lengths pl.isList pl2.isList (by rw [List.size_toArray, List.size_toArray]; simp; omega) hu X.prog X.w X.xe _ ⟨.bl true, H, I, rfl, q⟩
end
end L2
namespace L2
open PySem PySem.Spec PyProof.Rows
theorem op_neAU {X : Cx} {k : Nat} (hr : Room k X.A) : OpR X (compareOp .NotEq) (fun x y H Q => rAlike X.K 8 false x y H Q ∨ rUnlen X.K true x y H Q) := (op_neA (hu2 hr)).either (op_neU (hu0 hr))
end L2
set_option Elab.async false
set_option linter.all false
set_option maxRecDepth 100000
set_option maxHeartbeats 4000000
namespace L2
open PySem PySem.Spec PyProof.Rows
section
variable {X : Cx}
end
end L2
set_option Elab.async false
set_option linter.all false
set_option maxRecDepth 100000
set_option maxHeartbeats 4000000
namespace L2
open PySem PySem.Spec PyProof.Rows
section
variable {P : Program} {w : World} {A : Around} {E : Value → Shared → Prop} {s : Shared}
end
end L2
set_option Elab.async false
set_option linter.all false
set_option maxRecDepth 100000
set_option maxHeartbeats 4000000
namespace L2
open PySem PySem.Spec PyProof.Rows
section
variable {X : Cx} {elts : List Expr} {kk : Nat} {tp : Pos}
open AutoSeq1 (wpAny_loadPart') in
section
variable {P : Program} {w : World} {A : Around} {E : Value → Shared → Prop} {s : Shared}
end
end
end L2
set_option Elab.async false
set_option linter.all false
set_option maxRecDepth 100000
set_option maxHeartbeats 4000000
namespace L2
open PySem PySem.Spec PyProof.Rows
section
variable {P : Program} {w : World} {A : Around} {E : Value → Shared → Prop} {s : Shared}
end
open AutoSeq1 (wpAny_loadPart')
section
variable {X : Cx} {pins : List (Addr × Obj)} {σ : St} {H : Hp} {s : Shared}
end
section
variable {X : Cx}
end
end L2
set_option Elab.async false
set_option linter.all false
set_option maxRecDepth 100000
set_option maxHeartbeats 4000000
namespace L2
open PySem PySem.Spec PyProof.Rows
section
variable {X : Cx} {pins : List (Addr × Obj)} {σ : St} {H : Hp} {s : Shared}
end
section
variable {X : Cx}
end
end L2
set_option Elab.async false
set_option linter.all false
set_option maxRecDepth 100000
set_option maxHeartbeats 4000000
namespace L2
open PySem PySem.Spec PyProof.Rows
theorem objok_get {P : Program} {w : World} {H : Hp} {h : Heap} {a : Addr} {o : HO} (x : ObjOk P w H h a o) : ∃ u, h.get? a = some u := by
  cases o with
  | lst xs => obtain ⟨_, _, _, _, e⟩ := x; exact ⟨_, e⟩
  | tup xs => obtain ⟨_, _, _, _, e, _⟩ := x; exact ⟨_, e⟩
  | dK kvs => obtain ⟨_, _, _, _, o, _, _, e, _⟩ := x; exact ⟨_, e⟩
  | dT kvs => obtain ⟨_, _, _, _, o, _, _, e, _⟩ := x; exact ⟨_, e⟩
  | set S n => obtain ⟨o, _, _, _, e, _⟩ := x; exact ⟨_, e⟩
  | ins C dx fs => obtain ⟨_, _, _, e, _⟩ := x; exact ⟨_, e⟩
  | own y => exact x
  | xd fs => obtain ⟨_, ⟨_, _, _, e, _⟩, _⟩ := x; exact ⟨_, e⟩
  | rng lo hi => obtain ⟨_, _, _, e⟩ := x; exact ⟨_, e⟩
  | frz ob u => obtain ⟨e, _⟩ := x; exact ⟨_, e⟩
  | tbl ps => exact ⟨_, show h.get? a = some _ from x⟩
  | met f y => exact ⟨_, show h.get? a = some _ from x⟩
  | ext φ => exact x.2.1
def part (h : Heap) (p : Addr → Bool) : Heap := ⟨h.objs.mapIdx fun i o => if p i then o else { o with data := .freed }, h.life⟩
theorem part_get (h : Heap) (p : Addr → Bool) (b : Addr) : (part h p).get? b = if p b then h.get? b else none := by
  unfold part Heap.get?
  simp only [Array.getElem?_mapIdx]
  cases h.objs[b]? with
  | none => simp
  | some o =>
    cases hp : p b with
    | true => simp [hp]
    | false => simp [hp]
def nfr (h : Heap) (l : List Env) : Heap := part h fun b => decide (b ∉ frs l)
theorem nfr_stays (h : Heap) (l : List Env) : (nfr h l).StaysIn h := fun b o e => by
  unfold nfr at e
  rw [part_get] at e
  split at e
  · exact e
  · cases e
theorem nfr_get {h : Heap} {l : List Env} {b : Addr} (hb : b ∉ frs l) : (nfr h l).get? b = h.get? b := by
  unfold nfr
  rw [part_get, if_pos (by simpa using hb)]
theorem nfr_no {h : Heap} {l : List Env} {b : Addr} (hb : b ∈ frs l) : (nfr h l).get? b = none := by
  unfold nfr
  rw [part_get, if_neg (by simpa using hb)]
theorem funs_any {h base B : Heap} : ∀ {l : List Env}, h.FunFrames base l → (∀ b ∈ frs l, B.get? b = none) → h.FunFrames B l
  | [], _, _ => trivial
  | env :: rest, ⟨m, ⟨L, o, e1, e2, e3, e4⟩, r⟩, n => ⟨m, ⟨L, o, e1, n L (by unfold frs; rw [List.filterMap_cons, e1]; exact List.mem_cons_self), e3, e4⟩, funs_any r fun b hb => n b (by
      unfold frs at hb ⊢
      rw [List.filterMap_cons, e1]; exact List.mem_cons_of_mem _ hb)⟩
def CX1 (P : Program) (w : World) : CXT := fun outer H s E e s' => ∃ (a C : Addr) (a0 : Value) (H' : Hp) (B : Heap), e = .ref a ∧ Heap.FlyingW B outer a (.ref C) a0 s'.heap ∧ s'.os = s.os ∧ AllBare s'.gens ∧ Un (frs outer) [] H H' s.heap s'.heap ∧ HOk P w H' s'.heap ∧
  H' a = none ∧ s.heap.get? a = none ∧ (∀ b o, (H' b ≠ none ∨ (s.heap.get? b ≠ none ∧ b ∉ frs outer)) → s'.heap.get? b = some o → B.get? b = some o) ∧ E (.ref C) none H'
section
variable {X : Cx} {pins : List (Addr × Obj)} {σ : St} {H : Hp} {s : Shared}
theorem leave_un {H' : Hp} {h h' B : Heap} {fs : List Addr} {H₀ : Hp} {h₀ : Heap} (u : Un fs [] H₀ H' h₀ h) (st : B.StaysIn h') (us : h.UpToSlots h') (hB : ∀ b o, (H' b ≠ none ∨ (h₀.get? b ≠ none ∧ b ∉ fs)) → h.get? b = some o → B.get? b = some o)
    (hf : ∀ b ∈ fs, ∀ o, h₀.get? b = some o → ∀ vs, o.data ≠ .fields vs) (hfn : ∀ b ∈ fs, H₀ b = none) : Un fs [] H₀ H' h₀ h' where
  keep := fun b o e n nf nx => st b o (hB b o (.inr ⟨by rw [e]; simp, nf⟩) (u.keep b o e n nf nx))
  slot := fun b o e n hb nx => by
    obtain ⟨sl, q⟩ := u.slot b o e n hb nx
    obtain ⟨sl', q'⟩ := us b _ q (hf b hb o e)
    exact ⟨sl', q'⟩
  free := u.free
  there := fun b o e nx => by
    by_cases hb : b ∈ fs
    · obtain ⟨sl, q⟩ := u.slot b o e (hfn b hb) hb nx
      obtain ⟨sl', q'⟩ := us b _ q (hf b hb o e)
      exact ⟨_, q'⟩
    · obtain ⟨o', q⟩ := u.there b o e nx
      exact ⟨o', st b o' (hB b o' (.inr ⟨by rw [e]; simp, hb⟩) q)⟩
  tups := u.tups
  frzs := u.frzs
  tbls := u.tbls
theorem hok_stays {P : Program} {w : World} {H' : Hp} {h h' B : Heap} (k : HOk P w H' h) (st : B.StaysIn h') (hB : ∀ b o, H' b ≠ none → h.get? b = some o → B.get? b = some o) : HOk P w H' h' := fun b u e =>
  (k b u e).stay (fun c v hc q => st c v (hB c v (by
    rcases hc with z | z
    · rw [z, e]; simp
    · rw [z]; simp) q)) (fun _ q => q) fun _ _ q => q
end
section
variable {P : Program} {w : World} {K : PySem.W.Frag} {mg : Str → Option Value} {base : Heap} {N : List Str} {qual : Str} {scope : Scope} {f : Addr} {cd : Value} {A : Around} {outer : List Env} {s : Shared} {H : Hp} {E E' : XK}
theorem made1 {pins : List (Addr × Obj)} {σ : St} {H1 : Hp} {s1 : Shared} {h' : Heap} {e C : Addr} {args : List Value} (I : Inv (cxOf (CX1 P w) P w K mg base N qual scope f cd A outer s H E) pins σ H1 s1) (hx : Heap.MadeExcOf s1.heap h' e (.ref C) args) (q : E (.ref C) none H1) :
    (cxOf (CX1 P w) P w K mg base N qual scope f cd A outer s H E).xe (.ref e) { s1 with heap := h' } := by
  have hfs : ∀ b ∈ frs (cxOf (CX1 P w) P w K mg base N qual scope f cd A outer s H E).stack, (nfr s1.heap (cxOf (CX1 P w) P w K mg base N qual scope f cd A outer s H E).stack).get? b = none := fun b hb => nfr_no hb
  refine wpAny_leaves_madeW (base := nfr s1.heap (cxOf (CX1 P w) P w K mg base N qual scope f cd A outer s H E).stack) I.ok.frames rfl (nfr_stays _ _) (funs_any I.stack hfs) hx fun h2 t fl tt nt us => ?_
  have st := fl.1
  have I2 : Inv (cxOf (CX1 P w) P w K mg base N qual scope f cd A outer s H E) pins σ H1 { s1 with heap := h', toks := s1.toks } := I.kept hx.keeps
  have old : ∀ b o, (H1 b ≠ none ∨ (s.heap.get? b ≠ none ∧ b ∉ frs outer)) → h'.get? b = some o → (nfr s1.heap (cxOf (CX1 P w) P w K mg base N qual scope f cd A outer s H E).stack).get? b = some o := fun b o hc eo => by
    have nst : b ∉ frs (cxOf (CX1 P w) P w K mg base N qual scope f cd A outer s H E).stack := fun z => by
      rcases hc with y | ⟨y1, y2⟩
      · exact y (I.stkFree b z)
      · rcases List.mem_cons.mp (I.stkSub b z) with y | y
        · cases q0 : s.heap.get? b with
          | none => exact y1 q0
          | some o0 => exact absurd (Nat.lt_of_lt_of_le (Heap.lt_size q0) (by rw [y]; exact I.ok.above)) (Nat.lt_irrefl _)
        · exact y2 y
    rw [nfr_get nst]
    have : ∃ o2, s1.heap.get? b = some o2 := by
      rcases hc with z | ⟨z1, z2⟩
      · cases q0 : H1 b with
        | none => exact absurd q0 z
        | some u => exact objok_get (I.hok b u q0)
      · cases q0 : s.heap.get? b with
        | none => exact absurd q0 z1
        | some o0 => exact I.base.there b o0 q0 (by exact fun z => nomatch z)
    obtain ⟨o2, e2⟩ := this
    have e3 := hx.keeps b o2 e2
    rw [eo] at e3; cases e3; exact e2
  refine ⟨e, C, .ref t, H1, _, rfl, fl, I.os, I.bare, leave_un I2.base st us old (fun b hb o eo => ?_) (fun b hb => I.ok.frf b hb), hok_stays I2.hok st fun b o z => old b o (.inl z), ?_, ?_, fun b o hc eo => ?_, q⟩
  · obtain ⟨_, o', e', d⟩ := I.ok.funs.mem hb
    have e' : s.heap.get? b = some o' := e'
    rw [eo] at e'; cases e'; exact d
  · cases q0 : H1 e with
    | none => rfl
    | some u =>
      obtain ⟨o2, e2⟩ := objok_get (I.hok e u q0)
      rw [hx.new] at e2; cases e2
  · cases q0 : s.heap.get? e with
    | none => rfl
    | some o0 =>
      obtain ⟨o1, e1⟩ := I.base.there e o0 q0 (by exact fun z => nomatch z)
      rw [hx.new] at e1; cases e1
  · have eo : h2.get? b = some o := eo
    have : ∃ o2, h'.get? b = some o2 := by
      rcases hc with z | ⟨z1, z2⟩
      · cases q0 : H1 b with
        | none => exact absurd q0 z
        | some u => exact objok_get (I2.hok b u q0)
      · cases q0 : s.heap.get? b with
        | none => exact absurd q0 z1
        | some o0 => exact I2.base.there b o0 q0 (by exact fun z => nomatch z)
    obtain ⟨o2, e2⟩ := this
    have e3 := old b o2 hc e2
    rw [st b o2 e3] at eo
    cases eo
    exact e3
end
end L2
set_option Elab.async false
set_option linter.all false
set_option maxRecDepth 100000
set_option maxHeartbeats 4000000
namespace L2
open PySem PySem.Spec PyProof.Rows
theorem xcls_at {K : PySem.W.Frag} {h : Heap} {C : Addr} {bmB : List Value} {newId : String} (X : K.In h) (q : PySem.W.excIn K C bmB newId = true) :
    ∃ (bm : List Value) (N : Addr) (nm qn : Str) (bs : List Value) (hdct : Bool) (sn : List Str) (sub : List Value) (ab : Bool) (col : Option Bool) (dd : Option Addr) (k0 k1 k2 k3 k5 : Option Value) (mN : Str → Option Value),
      h.get? C = some (excClassObj nm qn C N bs bm hdct sn sub ab col dd k0 k1 k2 k3 k5 newId) ∧ h.Ns N mN ∧ mN "__init__" = none ∧ OwnTail h bmB bm := by
  unfold PySem.W.excIn at q
  split at q
  case h_2 => cases q
  case h_1 dd cd sl ho =>
    split at q
    case h_2 => cases q
    case h_1 C1 bm k0 k1 k2 k3 n k5 hm hs =>
      simp only [Bool.and_eq_true, beq_iff_eq, Bool.not_eq_true'] at q
      obtain ⟨⟨⟨⟨⟨rfl, rfl⟩, nd⟩, tl⟩, ok⟩, ni⟩ := q
      cases cd
      dsimp only at hm nd ok ni
      subst hm nd
      cases sl
      dsimp only at hs
      subst hs
      exact ⟨_, _, _, _, _, _, _, _, _, _, _, _, _, _, _, _, _, X _ _ ho, .of_isNs (PySem.W.isNs_of_in X ok), PySem.W.nsMap_none_of_in X ok ni, PySem.W.tail_of_in X tl⟩
section
variable {X : Cx} {E : XK} {C : Addr}
def RaiseOk (X : Cx) (C : Addr) (E : XK) : Prop := ∀ (pins : List (Addr × Obj)) (σ : St) (H : Hp) (s : Shared) (h' : Heap) (e : Addr) (us : List Value), Inv X pins σ H s → Heap.MadeExcOf s.heap h' e (.ref C) us → E (.ref C) none H → X.xe (.ref e) { s with heap := h' }
def sRaise (E : XK) (C : Addr) (t : TA) : TS := fun _ σ H => t σ H fun vs H1 => vs.length ≤ sizeLine ∧ E (.ref C) none H1
abbrev bmVE : List Value := [.type "ValueError", .type "Exception", .type "BaseException", .type "object"]
theorem ps_raise {x : Str} {np cpos pos : Pos} {a : Expr} {es : List Expr} {t : TA} (hx : RaiseOk X C E) (hc : X.calm = true) (hg : Gl X x) (hm : X.mg x = some (.ref C)) (q : PySem.W.excIn X.K C bmVE "ValueError.__new__" = true) (ha : PA X (a :: es) t)
    (hd : (x == ("__debug__" : Str)) = false := by decide) (he : starEach (a :: es) X.env = (false, eval a X.env) :: starEach es X.env := by rfl) (hpl : (backTo cpos (starEach es X.env)).any (·.1) = false := by rfl) :
    PS X (.Raise (some (.Call (.Name x np) (a :: es) [] cpos)) none pos) (sRaise E C t) := by
  intro pins s σ H D I h
  obtain ⟨bm, N, nm, qn, bs, hdct, sn, sub, ab, col, dd, k0, k1, k2, k3, k5, mN, hC, hN, hni, T⟩ := xcls_at I.ok.mod.kin q
  refine wpAny_Raise_call_subU F.excBase_ValueError (B := "ValueError") (C := C) (nm := nm) (q := qn) (N := N) (bs := bs) (bm := bm) (hdct := hdct) (sn := sn) (sub := sub) (ab := ab) (col := col) (dd := dd) (k0 := k0) (k1 := k1) (k2 := k2) (k3 := k3) (k5 := k5) (mN := mN) (by decide +kernel) F.excBase_ValueError (T.hasType (by decide +kernel)) (I.ok.hd hc) ?_ hni (ld_glob I hg hm ?_ hd)
  · rw [he]
    show (false || (backTo cpos (starEach es X.env)).any (·.1)) = false
    rw [hpl]; rfl
  refine ⟨rfl, ?_⟩
  have ha' := ha cpos pins s σ H _ I h
  rw [he] at ha' ⊢
  refine Calls.evalArgs_plain (thn ha' fun us s1 ⟨vs, H1, I1, r1, z, q1⟩ => ?_)
  exact ⟨rfl, by rw [← r1.length]; exact z, I1.bk _ _ hC, hN.keeps I1.bk, T.keeps I1.bk, fun h' e mk => hx pins σ H1 s1 h' e us I1 mk q1⟩
end
end L2
set_option Elab.async false
set_option linter.all false
set_option maxRecDepth 100000
set_option maxHeartbeats 4000000
namespace L2
open PySem PySem.Spec PyProof.Rows
def mroK (K : PySem.W.Frag) (C : Addr) : List Value := match K.lookup C with
  | some ⟨_, _, .cls cd, _⟩ => cd.mro
  | _ => []
theorem mroK_at {K : PySem.W.Frag} {h : Heap} {C N : Addr} {nm qn : Str} {bs bm : List Value} {hdct : Bool} {sn : List Str} {sub : List Value} {ab : Bool} {col : Option Bool} {dd : Option Addr} {k0 k1 k2 k3 k5 : Option Value} {newId : String} (X : K.In h) (q : PySem.W.excIn K C bmVE newId = true)
    (hC : h.get? C = some (excClassObj nm qn C N bs bm hdct sn sub ab col dd k0 k1 k2 k3 k5 newId)) : mroK K C = .ref C :: bm := by
  unfold PySem.W.excIn at q
  split at q
  case h_2 => cases q
  case h_1 d1 cd sl ho =>
    have := X _ _ ho
    rw [hC] at this
    injection this with this
    unfold mroK
    rw [ho]
    have e : excClassObj nm qn C N bs bm hdct sn sub ab col dd k0 k1 k2 k3 k5 newId = ⟨.type "type", d1, .cls cd, sl⟩ := this
    unfold excClassObj at e
    injection e with _ _ e3 _
    injection e3 with e4
    rw [← e4]
section
variable {M : Model} {A : Around} {E : Value → Shared → Prop} {h : Heap} {g : Array GenState} {d : Drawn} {t : Nat} {os : OsState}
theorem match_own {C B NC NB e : Addr} {oe : Obj} {nm qn nm' qn' : Str} {bs bm bs' bm' : List Value} {hdct hdct' : Bool} {sn sn' : List Str} {sub sub' : List Value} {ab ab' : Bool} {col col' : Option Bool} {dd dd' : Option Addr} {k0 k1 k2 k3 k5 j0 j1 j2 j3 j5 : Option Value} {newId newId' : String} {Q : Bool → Shared → Prop} {r : Bool}
    (hC : h.get? C = some (excClassObj nm qn C NC bs bm hdct sn sub ab col dd k0 k1 k2 k3 k5 newId)) (hB : h.get? B = some (excClassObj nm' qn' B NB bs' bm' hdct' sn' sub' ab' col' dd' j0 j1 j2 j3 j5 newId')) (he : h.get? e = some oe) (hcls : oe.cls = .ref C)
    (base : (Value.ref B :: bm').contains (.type "BaseException") = true) (hr : (Value.ref C :: bm).contains (.ref B) = r) (q : Q r ⟨h, g, d, t, os⟩) : wpAny M A (excMatches (.ref e) (.ref B)) Q E ⟨h, g, d, t, os⟩ := by
  have f := tc_notTuple
  unfold excMatches
  repeat (first | (with_reducible refine wpAny_loadPart_at he ?_; rw [hcls]) | with_reducible refine wpAny_loadPart_at hB ?_ | (with_reducible refine wpAny_isSubtype_exc hB ?_; rw [base]) | (with_reducible refine wpAny_isSubtype_exc hC ?_; rw [hr]) | wp_step)
  cases r <;> (wp_walk; exact q)
end
abbrev Cx.tb (X : Cx) (pl : List (Addr × Obj)) (ξ : Value → Shared → Prop) : Cx := { X with pn := X.pn ++ pl, xe := ξ }
abbrev Cx.hnd (X : Cx) (a : Addr) : Cx := { X with A := X.A.mark (some (.ref a)), calm := false, xe := fun _ _ => False }
section
variable {X : Cx} {pins : List (Addr × Obj)} {σ : St} {H : Hp} {s : Shared}
theorem Inv.to_tb {ξ : Value → Shared → Prop} (I : Inv X pins σ H s) : Inv (X.tb pins ξ) [] σ H s :=
  ⟨⟨I.ok.mod, I.ok.kind, I.ok.glob, I.ok.blt, I.ok.above, I.ok.inj, I.ok.has, I.ok.cab, I.ok.hd, I.ok.frames, I.ok.stk, I.ok.exf, I.ok.bs, I.ok.bsz, I.ok.noex, I.ok.exfs, I.ok.funs, I.ok.frf⟩, I.os, I.bare, I.base, I.loc, I.cell, I.free, I.freeC, fun p hp => I.pin p (by simpa using hp), I.hok, I.len⟩
theorem Inv.of_tb {ξ : Value → Shared → Prop} {pl : List (Addr × Obj)} (I : Inv (X.tb pl ξ) pins σ H s) : Inv X pl σ H s :=
  ⟨⟨I.ok.mod, I.ok.kind, I.ok.glob, I.ok.blt, I.ok.above, I.ok.inj, I.ok.has, I.ok.cab, I.ok.hd, I.ok.frames, I.ok.stk, I.ok.exf, I.ok.bs, I.ok.bsz, I.ok.noex, I.ok.exfs, I.ok.funs, I.ok.frf⟩, I.os, I.bare, I.base, I.loc, I.cell, I.free, I.freeC, fun p hp => I.pin p (List.mem_append_left _ hp), I.hok, I.len⟩
theorem Inv.to_hnd {a : Addr} (I : Inv X pins σ H s) : Inv (X.hnd a) pins σ H s :=
  ⟨⟨I.ok.mod, I.ok.kind, I.ok.glob, I.ok.blt, I.ok.above, I.ok.inj, I.ok.has, I.ok.cab, (fun z => nomatch z), I.ok.frames, I.ok.stk, I.ok.exf, I.ok.bs, I.ok.bsz, I.ok.noex, I.ok.exfs, I.ok.funs, I.ok.frf⟩, I.os, I.bare, I.base, I.loc, I.cell, I.free, I.freeC, I.pin, I.hok, I.len⟩
theorem Inv.of_hnd {a : Addr} (I : Inv (X.hnd a) pins σ H s) (hd : X.calm = true → X.A.handled = none) : Inv X pins σ H s :=
  ⟨⟨I.ok.mod, I.ok.kind, I.ok.glob, I.ok.blt, I.ok.above, I.ok.inj, I.ok.has, I.ok.cab, hd, I.ok.frames, I.ok.stk, I.ok.exf, I.ok.bs, I.ok.bsz, I.ok.noex, I.ok.exfs, I.ok.funs, I.ok.frf⟩, I.os, I.bare, I.base, I.loc, I.cell, I.free, I.freeC, I.pin, I.hok, I.len⟩
theorem Inv.track {a : Addr} {o : HO} (I : Inv X pins σ H s) (n : H a = none) (n0 : X.s₀.heap.get? a = none) (hL : a ≠ X.env.locals) (hc : ∀ x c, X.env.cells.lookup x = some c → c ≠ a) (hp : ∀ p ∈ X.pn ++ pins, p.1 ≠ a) (ob : ObjOk X.prog X.w (upd H a o) s.heap a o) : Inv X pins σ (upd H a o) s := by
  refine ⟨I.ok, I.os, I.bare, ⟨I.base.keep, I.base.slot, fun b u e m hx => ?_, I.base.there, fun b xs e => ?_, fun b u v e => ?_, fun b ps e => ?_⟩, I.loc, I.cell, ?_, fun x c e => ?_, fun p q => ?_, fun b u e => ?_, I.len⟩
  · have : b ≠ a := fun z => by rw [z, n0] at e; cases e
    rw [upd_ne this]; exact I.base.free b u e m hx
  · have h1 := I.base.tups b xs e
    rw [upd_ne (ne_of_none h1 n)]; exact h1
  · have h1 := I.base.frzs b u v e
    rw [upd_ne (ne_of_none h1 n)]; exact h1
  · obtain ⟨more, h1⟩ := I.base.tbls b ps e
    exact ⟨more, by rw [upd_ne (ne_of_none h1 n)]; exact h1⟩
  · rw [upd_ne (Ne.symm hL)]; exact I.free
  · rw [upd_ne (hc x c e)]; exact I.freeC x c e
  · obtain ⟨p1, p2, p3⟩ := I.pin p q
    exact ⟨p1, by rw [upd_ne (hp p q)]; exact p2, p3⟩
  · by_cases hb : b = a
    · subst hb; rw [upd_same] at e; cases e; exact ob
    · rw [upd_ne hb] at e
      refine (I.hok b u e).stay (fun _ _ _ q => q) (fun c q => ?_) fun c xs q => ?_
      · rw [upd_ne (ne_of_none q n)]; exact q
      · rw [upd_ne (ne_of_none q n)]; exact q
end
end L2
set_option Elab.async false
set_option linter.all false
set_option maxRecDepth 100000
set_option maxHeartbeats 4000000
namespace L2
open PySem PySem.Spec PyProof.Rows
section
variable {X : Cx} {pins : List (Addr × Obj)} {σ : St} {H : Hp} {s : Shared}
theorem Inv.gone {i : Nat} {x : Str} {m : Str → Option Value} {u : Option Value} {h' : Heap} {tk : Nat} (I : Inv X pins σ H s) (hN : X.N.Nodup) (hi : X.N[i]? = some x)
    (hm : s.heap.Ns X.env.locals m ∧ ∀ (j : Nat) (y : Str) (v : V), X.N[j]? = some y → σ[j]? = some (some v) → Vis X.env.scope y → ∃ w, RelV v w ∧ Look X.env s.heap m y w) (hn : h'.Ns X.env.locals (fun y => if y = x then u else m y)) (hs : Heap.SameBut X.env.locals s.heap h') :
    Inv X pins (σ.set i none) H { s with heap := h', toks := tk } := by
  obtain ⟨_, hl⟩ := hm
  have old : ∀ b o, X.s₀.heap.get? b = some o → b ≠ X.env.locals := fun b o e => Nat.ne_of_lt (Nat.lt_of_lt_of_le (Heap.lt_size e) I.ok.above)
  have iσ : i < σ.length := by rw [I.len]; exact (List.getElem?_eq_some_iff.mp hi).1
  refine ⟨I.ok, I.os, I.bare, ⟨fun b o e n hb hx => (hs.2 b (old b o e)).trans (I.base.keep b o e n hb hx), fun b o e n hb hx => ?_, I.base.free, fun b o e hx => ?_, I.base.tups, I.base.frzs, I.base.tbls⟩, ⟨_, hn, fun j y v e1 e2 e3 => ?_⟩, fun y c e => ?_, I.free, I.freeC, fun p hp => ?_, fun b ob e => ?_, by simpa using I.len⟩
  · obtain ⟨sl, q⟩ := I.base.slot b o e n hb hx
    exact ⟨sl, (hs.2 b (old b o e)).trans q⟩
  · obtain ⟨o2, q⟩ := I.base.there b o e hx
    exact ⟨o2, (hs.2 b (old b o e)).trans q⟩
  · have ji : j ≠ i := fun z => by
      subst z
      rw [List.getElem?_set_self iσ] at e2
      cases e2
    rw [List.getElem?_set_ne (Ne.symm ji)] at e2
    obtain ⟨w, r, q⟩ := hl j y v e1 e2 e3
    have yx : y ≠ x := fun z => ji (nodup_ix hN e1 (z ▸ hi))
    refine ⟨w, r, ?_⟩
    rcases q with ⟨k, e⟩ | ⟨k, c, e, z⟩
    · exact .inl ⟨k, by simp [yx, e]⟩
    · exact .inr ⟨k, c, e, z.sameBut hs (I.cne y c e)⟩
  · obtain ⟨w, z⟩ := I.cell y c e
    exact ⟨w, z.sameBut hs (I.cne y c e)⟩
  · obtain ⟨p1, p2, p3, p4, p5⟩ := I.pin p hp
    exact ⟨(hs.2 p.1 p3).trans p1, p2, p3, p4, p5⟩
  · refine (I.hok b ob e).stay (fun c w hc q => (hs.2 c ?_).trans q) (fun _ q => q) fun _ _ q => q
    rintro rfl
    rcases hc with rfl | hc
    · rw [I.free] at e; cases e
    · rw [I.free] at hc; cases hc
theorem name_gone {M : Model} {A : Around} {E : Value → Shared → Prop} {i : Nat} {x : Str} {pos : Pos} {Q : Unit → Shared → Prop} (I : Inv X pins σ H s) (hN : X.N.Nodup) (hi : X.N[i]? = some x) (hk : X.env.kindOf x = some .local) (h : ∀ s', Inv X pins (σ.set i none) H s' → Q () s') :
    wpAny M A (do bindName X.env x .none; unbindBehindTheSuite X.env x pos) Q E s := by
  have hcls : (X.env.scope.kind == .class || (X.env.scope.kind == .module && X.env.locals != X.env.globals)) = false := by rw [I.ok.kind]; rfl
  refine wpAny_bind (wpAny_bindName (store_ok (v := .non) (u := .none) I hN hi (.inl hk) rfl (fun s1 I1 => ?_) (.inr hk)))
  unfold unbindBehindTheSuite
  refine wpAny_onRaise ?_
  obtain ⟨m, hn, hl⟩ := id I1.loc
  have iσ : i < σ.length := by rw [I.len]; exact (List.getElem?_eq_some_iff.mp hi).1
  obtain ⟨w, r, q⟩ := hl i x .non hi (by rw [List.getElem?_set_self iσ]) (.inl hk)
  have hv : m x = some w := by
    rcases q with ⟨_, e⟩ | ⟨z, _⟩
    · exact e
    · rw [hk] at z; rcases z with z | z <;> cases z
  refine wpAny_unbindName_local hk hn hv hcls fun h' u hn' hs => ?_
  have := Inv.gone (tk := s1.toks) I1 hN hi ⟨hn, hl⟩ hn' hs
  rw [List.set_set] at this
  exact h _ this
def excO (a C : Addr) : HO := .ext fun h => ∃ o, h.get? a = some o ∧ o.cls = .ref C
theorem excO_ok {P : Program} {w : World} {H : Hp} {h : Heap} {a C : Addr} (x : ∃ o, h.get? a = some o ∧ o.cls = .ref C) : ObjOk P w H h a (excO a C) := by
  obtain ⟨o, e, c⟩ := x
  exact ⟨⟨o, e, c⟩, ⟨o, e⟩, fun h1 h2 ⟨o1, e1, c1⟩ k => ⟨o1, k o1 e1, c1⟩⟩
end
def PassesAt (CX : CXT) (X : Cx) (E : St → XK) : Prop := ∀ (pins : List (Addr × Obj)) (σ : St) (H : Hp) (s : Shared) (e : Value) (s' : Shared), Inv X pins σ H s → CX X.stack H s (E σ) e s' → X.xe e s'
def hEnds (i : Nat) (D : Ends) : Ends := { nx := fun σ H => D.nx (σ.set i none) H, rt := D.rt, bk := fun σ H => D.bk (σ.set i none) H, ct := fun σ H => D.ct (σ.set i none) H }
def tTry (K : PySem.W.Frag) (Cb : Addr) (i : Nat) (tb : (St → XK) → TS) (th : TS) : TS := fun D σ H =>
  tb (fun σ' c _ H' => ∃ C, c = .ref C ∧ PySem.W.excIn K C bmVE "ValueError.__new__" = true ∧ (mroK K C).contains (.ref Cb) = true ∧ ∀ a, H' a = none → th (hEnds i D) (σ'.set i (some (.ref a))) (upd H' a (excO a C))) D σ H
section
variable {X : Cx}
theorem sp_tb {pl : List (Addr × Obj)} {ξ : Value → Shared → Prop} {D : Ends} {f : Flow} {s' : Shared} {pins : List (Addr × Obj)} (h : SP (X.tb pl ξ) pins D f s') : SP X pl D f s' := by
  cases f with
  | next => obtain ⟨σ', H', I, q⟩ := h; exact ⟨σ', H', I.of_tb, q⟩
  | brk => obtain ⟨σ', H', I, q⟩ := h; exact ⟨σ', H', I.of_tb, q⟩
  | cont => obtain ⟨σ', H', I, q⟩ := h; exact ⟨σ', H', I.of_tb, q⟩
  | ret u => obtain ⟨v, σ', H', I, r, q⟩ := h; exact ⟨v, σ', H', I.of_tb, r, q⟩
theorem pe_callX {CX : CXT} {k : Nat} {f : Addr} {fd : FuncData} {ps : List Str} {sp : Sp} {E : St → XK} {x : Str} {p pos : Pos} {e : Expr} {es : List Expr} {t : TA} (F : FnOk X.prog X.w X.K X.mg X.base CX k f fd ps sp) (hr : Room k X.A) (hg : Gl X x) (hm : X.mg x = some (.ref f)) (hk : PySem.W.keepIn X.K (.ref f) = true) (hb : Binds X.K fd ps []) (hx : PassesAt CX X E)
    (ha : PA X (e :: es) t) (hdb : (x == ("__debug__" : Str)) = false := by decide) (he : starEach (e :: es) X.env = (false, eval e X.env) :: starEach es X.env := by rfl) (hpl : (backTo pos (starEach es X.env)).any (·.1) = false := by rfl) :
    PE X (.Call (.Name x p) (e :: es) [] pos) (fun σ H Q => t σ H fun vs H1 => sp vs H1 Q (E σ)) := by
  intro pins s σ H Q I h
  refine wpAny_Call_Name_kw (ld_glob I hg hm ?_ hdb)
  refine PySem.W.callWith_K (h₀ := X.base) I.ok.mod.kin hk (thn (ha pos pins s σ H _ I h) fun us s1 ⟨vs, H1, I1, r, q⟩ => ⟨I1.kIn, ?_⟩) he hpl
  have hl : us.length = ps.length := by rw [← r.length]; exact F.len _ _ _ _ q
  have bd := hb s1 us I1.kIn (by rw [List.append_nil]; exact hl)
  rw [List.append_nil] at bd
  refine wpAny_call (codeAny_mono (F.run X.A X.stack s1 H1 ⟨us, []⟩ us vs Q (E σ) hr I1.env0 bd r q) fun rr s' hq => ?_)
  cases rr with
  | error x => exact hx pins σ H1 s1 x s' I1 hq
  | ok fl =>
    cases fl with
    | ret u => exact I1.after hq
    | next => exact hq.elim
    | brk => exact hq.elim
    | cont => exact hq.elim
end
section
variable {P : Program} {w : World} {K : PySem.W.Frag} {mg : Str → Option Value} {base : Heap}
theorem Fun.okX {x qual : Str} {st : Stmt} {f : Addr} {fd : FuncData} {N ps : List Str} {k : Nat} {sp : Sp} (F : Fun K x qual st f fd) (S : FnScope N ps (defScope st)) (len : ∀ vs H Q E, sp vs H Q E → vs.length = ps.length)
    (hbody : ∀ (cdv : Value) (A : Around) (outer : List Env) (s : Shared) (H : Hp) (vs : List V) (Q : VK) (E : XK), Room k (A.deeper (envOfC qual (defScope st) s.heap.objs.size f cdv)) → sp vs H Q E →
      ∃ t, PSs (cxOf (CX1 P w) P w K mg base N qual (defScope st) f cdv A outer s H E) (defBody st) t ∧ t { nx := fun _ H' => Q .non H', rt := Q } (start N vs) H) : FnOk P w K mg base (CX1 P w) (k + 1) f fd ps sp := by
  obtain ⟨oc, od, kV, doc, pm, an, cdv, ct, osl, rfl, lk, hcd⟩ := F.ex
  exact fn_of lk hcd S len fun A outer s H vs Q E hr hsp => hbody cdv A outer s H vs Q E hr hsp
theorem raise1 {N : List Str} {qual : Str} {scope : Scope} {f C : Addr} {cd : Value} {A : Around} {outer : List Env} {s : Shared} {H : Hp} {E : XK} : RaiseOk (cxOf (CX1 P w) P w K mg base N qual scope f cd A outer s H E) C E := fun _ _ _ _ _ _ _ I hx q => made1 I hx q
end
end L2
set_option Elab.async false
set_option linter.all false
set_option maxRecDepth 100000
set_option maxHeartbeats 4000000
namespace L2
open PySem PySem.Spec PyProof.Rows PySem.W PySem.Builtin PySem.Builtin.ObjectAttr PySem.Builtin.Getset_descriptor
section
variable {prog : Program} {w : World} {A : Around} {E : Value → Shared → Prop} {s : Shared} {K : PySem.W.Frag} {x C : Addr} {R : Result → Shared → Prop}
theorem exc_get {tp : Value} (X : K.In s.heap) (L0 : Looks (model prog w) s.heap (typeOf (.ref x)) (.ref C)) (hm : mroIn K C (.type "object") = some true) (h : R (.ok (.ret (.ref C))) s) :
    codeAny (model prog w) A (.call (.builtin "getset_descriptor.__get__") ⟨[.builtin "object.__class__", .ref x, tp], []⟩) R s := by
  obtain ⟨h0, g, d, t, os⟩ := s
  have L1 := looks_mroIn (M := model prog w) X hm
  refine codeAny_call_builtin KF.slot_gs.plain KF.entry_gs (KF.slot_gs.check _ _ _ _ _ _ _ _ KF.type_class (KF.args_gs _ _ _) ?_)
  unfold Builtin.«getset_descriptor.__get__» descrGet
  rw [dga_obj]
  refine wpAny_bind (wpAny_pure ?_)
  unfold descrGetter descrCheckInstance descrNameAndClass isInstance
  simp only [KF.owner_class]
  repeat lk
  refine ⟨Code.quiet_builtin _ (by decide +kernel), codeAny_builtin KF.entry_class ?_⟩
  unfold Builtin.«object.__class__» shownTypeOf
  repeat lk
  exact h
theorem exc_ga {tk : Tok} (X : K.In s.heap) (L0 : Looks (model prog w) s.heap (typeOf (.ref x)) (.ref C)) (hm : mroIn K C (.type "object") = some true) (hb : mroIn K C (.type "BaseException") = some true)
    (gc : findIn K (.ref C) "__class__" = some (some (.builtin "object.__class__"))) (hn : specialIn K (.builtin "object.__class__") "__get__" = some (some (.builtin "getset_descriptor.__get__"))) (htk : takesIn K (.builtin "object.__class__") = some true) (h : R (.ok (.ret (.ref C))) s) :
    codeAny (model prog w) A (.call (.builtin "BaseException.__getattribute__") ⟨[.ref x, .str "__class__" tk], []⟩) R s := by
  obtain ⟨h0, g, d, t, os⟩ := s
  have L1 := looks_mroIn (M := model prog w) X hb
  have L2 := looks_findIn (M := model prog w) X gc
  have L3 := looks_specialIn (M := model prog w) X hn
  have L4 := looks_takesIn (M := model prog w) X htk
  have hk : builtinKind "BaseException.__getattribute__" = some .slot := by decide +kernel
  have hsplit : splitId "BaseException.__getattribute__" = some ("BaseException", "__getattribute__") := by decide +kernel
  have ha := F.args_bexc_ga (.ref x) (.str "__class__" tk)
  refine codeAny_call_builtin (by decide +kernel) F.entry_bexc_ga ?_
  simp only [checkBuiltinCall, hk, hsplit]
  refine wpAny_bind ?_
  unfold isInstance
  refine (L0.andThen L1).at ?_
  simp only [Bool.not_true, Bool.false_eq_true, if_false]
  have go : wpAny (model prog w) A.in1 (Builtin.«object.__getattribute__» ⟨[.ref x, .str "__class__" tk], []⟩) (fun fin s' => match fin with
      | .done f => R (.ok f) s'
      | .again c' => c'.quiet = true ∧ codeAny (model prog w) A c' R s') (fun e s' => R (.error e) s') ⟨h0, g, d, t, os⟩ := by
    unfold Builtin.«object.__getattribute__»
    repeat lk
    show wpAny _ _ (run (.call (.builtin "getset_descriptor.__get__") ⟨[.builtin "object.__class__", .ref x, .ref C], []⟩)) _ _ _
    exact wpAny_run (exc_get X L0 hm (wpAny_pure (wpAny_pure h)))
  unfold argsOk at ha
  cases hs : Manifest.signature? "BaseException.__getattribute__" with
  | none => exact wpAny_pure go
  | some sig =>
    rw [hs] at ha
    simp only at ha ⊢
    rw [ha]
    exact wpAny_pure go
theorem exc_class {Q : Option Value → Shared → Prop} (X : K.In s.heap) (L0 : Looks (model prog w) s.heap (typeOf (.ref x)) (.ref C)) (hm : mroIn K C (.type "object") = some true) (hb : mroIn K C (.type "BaseException") = some true) (ga : findIn K (.ref C) "__getattribute__" = some (some (.builtin "BaseException.__getattribute__"))) (gn : findIn K (.ref C) "__getattr__" = some none)
    (gc : findIn K (.ref C) "__class__" = some (some (.builtin "object.__class__"))) (hn : specialIn K (.builtin "object.__class__") "__get__" = some (some (.builtin "getset_descriptor.__get__"))) (htk : takesIn K (.builtin "object.__class__") = some true) (h : Q (some (.ref C)) { s with toks := s.toks + 1 }) :
    wpAny (model prog w) A (getAttr? (.ref x) "__class__") Q E s := by
  obtain ⟨h0, g, d, t, os⟩ := s
  have L1 := looks_findIn (M := model prog w) X ga
  have L2 := looks_findIn (M := model prog w) X gn
  have f3 := F.excAttr_ValueError.ga.bind (.ref x)
  unfold getAttr? getAttrBy? getAttrBy
  refine wpAny_bind (wpAny_mkText (wpAny_bind (wpAny_attempt (wpAny_holding (wpAny_bind (L0.at (wpAny_bind (L1.at ?_))))))))
  show wpAny _ _ (getAttrByItsOwn _ _ _ _ _ _) _ _ _
  unfold getAttrByItsOwn
  unfold hookBefore
  refine wpAny_bind ?_
  rw [if_pos (show onTheHeap (Value.ref C) = true from rfl)]
  refine L2.at ?_
  refine wpAny_bind (wpAny_attempt (wpAny_holding ?_))
  unfold callGetattribute
  rw [if_neg (by simp)]
  unfold boundAndCalled
  rw [f3]
  refine wpAny_bind (wpAny_pure ?_)
  refine wpAny_call (exc_ga (s := ⟨h0, g, d, t + 1, os⟩) X L0 hm hb gc hn htk ?_)
  exact wpAny_pure (wpAny_pure h)
def excKit (K : PySem.W.Frag) (C : Addr) : Bool := (mroIn K C (.type "object") == some true) && (mroIn K C (.type "BaseException") == some true) && (findIn K (.ref C) "__getattribute__" == some (some (.builtin "BaseException.__getattribute__"))) && (findIn K (.ref C) "__getattr__" == some none) &&
  (findIn K (.ref C) "__class__" == some (some (.builtin "object.__class__"))) && (specialIn K (.builtin "object.__class__") "__get__" == some (some (.builtin "getset_descriptor.__get__"))) && (takesIn K (.builtin "object.__class__") == some true) && (clsIn K C).isSome
theorem kitx_exc (q : excKit K C = true) : KitX K (.ref x) (.ref C) (fun h => ∃ o, h.get? x = some o ∧ o.cls = .ref C) := by
  unfold excKit at q
  simp only [Bool.and_eq_true, beq_iff_eq] at q
  obtain ⟨⟨⟨⟨⟨⟨⟨hm, hb⟩, ga⟩, gn⟩, gc⟩, hn⟩, htk⟩, hc⟩ := q
  have ty : ∀ (M : Model) (h : Heap), (∃ o, h.get? x = some o ∧ o.cls = .ref C) → Looks M h (typeOf (.ref x)) (.ref C) := fun M h ⟨o, e1, e2⟩ => e2 ▸ (Looks.ld e1).andThen .now
  refine ⟨fun M h _ p => ty M h p, fun M h X _ => ?_, fun h tp dd its n sl X htp => ?_, fun X p k => exc_class X (ty _ _ p) hm hb ga gn gc hn htk k⟩
  · unfold clsIn at hc
    split at hc
    case h_1 c1 d1 cd1 sl1 ho =>
      intro A1 Q1 E1 s1 k q
      unfold isType loadHead
      exact wpAny_bind (wpAny_loadPart (k _ _ (X _ _ ho)) (wpAny_pure q))
    case h_2 => cases hc
  · refine Bool.eq_false_iff.mpr fun z => ?_
    have e : C = tp := Value.ref.inj (beq_iff_eq.mp z)
    subst e
    unfold clsIn at hc
    split at hc
    case h_1 c1 d1 cd1 sl1 ho =>
      have z := (X _ _ ho).symm.trans htp
      cases z
    case h_2 => cases hc
end
section
variable {X : Cx}
theorem excO_at {pins : List (Addr × Obj)} {σ : St} {H : Hp} {s : Shared} {a C : Addr} (I : Inv X pins σ H s) (e : H a = some (excO a C)) : ∃ o, s.heap.get? a = some o ∧ o.cls = .ref C := (I.hok a _ e).1
theorem call_isX : CallR X (.builtin "isinstance") (fun xs H Q => ∃ a C D b, xs = [.ref a, .ref D] ∧ H a = some (excO a C) ∧ excKit X.K C = true ∧ PySem.W.kitOne X.K (.ref C) (.ref D) = some b ∧ Q (.bl b) H) := by
  intro pins s σ H xs us Q I rv h
  obtain ⟨a, C, D, b, rfl, e, k, kb, q⟩ := h
  obtain ⟨u, v, rfl, ru, rw1⟩ := rv.two
  cases ru
  cases rw1
  exact PySem.W.kia_one (kitx_exc k) I.kIn (excO_at I e) kb (fun z => nomatch z) fun tk => ⟨.bl b, H, I.tok tk, rfl, q⟩
theorem call_isXB : CallR X (.builtin "isinstance") (fun xs H Q => ∃ a C n b, xs = [.ref a, .ty n] ∧ H a = some (excO a C) ∧ excKit X.K C = true ∧ PySem.W.kitOne X.K (.ref C) (.type n) = some b ∧ Q (.bl b) H) := by
  intro pins s σ H xs us Q I rv h
  obtain ⟨a, C, D, b, rfl, e, k, kb, q⟩ := h
  obtain ⟨u, v, rfl, ru, rw1⟩ := rv.two
  cases ru
  cases rw1
  exact PySem.W.kia_one (kitx_exc k) I.kIn (excO_at I e) kb (fun z => nomatch z) fun tk => ⟨.bl b, H, I.tok tk, rfl, q⟩
theorem refs_of : ∀ {Ds : List Addr} {its : List Value}, Vals (Ds.map V.ref) its → its = Ds.map Value.ref := by
  intro Ds
  induction Ds with
  | nil => intro its r; cases r; rfl
  | cons D Ds ih =>
    intro its r
    cases r with
    | cons r1 r2 =>
      cases r1
      rw [ih r2]
      rfl
theorem call_isXT : CallR X (.builtin "isinstance") (fun xs H Q => ∃ a C t b, ∃ Ds : List Addr, xs = [.ref a, .ref t] ∧ H a = some (excO a C) ∧ H t = some (.tup (Ds.map V.ref)) ∧ excKit X.K C = true ∧ PySem.W.kitAny X.K (.ref C) (Ds.map Value.ref) = some b ∧ Q (.bl b) H) := by
  intro pins s σ H xs us Q I rv h
  obtain ⟨a, C, t, b, Ds, rfl, e, et, k, kb, q⟩ := h
  obtain ⟨u, v, rfl, ru, rw1⟩ := rv.two
  cases ru
  cases rw1
  obtain ⟨_, its, r, o, ho, hc, n, hd⟩ := (show ObjOk X.prog X.w H s.heap t (.tup (Ds.map V.ref)) from I.hok t _ et)
  obtain ⟨c1, d1, dt, sl⟩ := o
  have hc : c1 = .type "tuple" := hc
  have hd : dt = .seq its.toArray n := hd
  subst hc hd
  have ei := refs_of r
  subst ei
  exact PySem.W.kia_tup (kitx_exc k) I.kIn (excO_at I e) ho kb (fun z => nomatch z) fun tk => ⟨.bl b, H, I.tok tk, rfl, q⟩
end
end L2
set_option Elab.async false
set_option linter.all false
set_option maxRecDepth 100000
set_option maxHeartbeats 4000000
namespace L2
open PySem PySem.Spec PyProof.Rows
def Flies (B : Heap) (l : List Env) (e : Addr) (cls a0 : Value) (h : Heap) : Prop := B.StaysIn h ∧ B.get? e = none ∧ h.FunFrames B l ∧ ∃ fl, h.TracedAtW B e cls a0 fl
theorem Flies.of {B h : Heap} {l : List Env} {e : Addr} {cls a0 : Value} (x : Heap.FlyingW B l e cls a0 h) : Flies B l e cls a0 h := ⟨x.1, x.2.1, x.2.2.1, .none, x.2.2.2.at⟩
section
variable {M : Model} {A : Around} {E : Value → Shared → Prop} {s : Shared} {B : Heap} {env : Env} {outer : List Env} {L e : Addr} {cls a0 : Value} {Q : Unit → Shared → Prop}
theorem unmark {fl : Value} {T : Addr} {oT : Obj} {ts : Array Value} (st : B.StaysIn s.heap) (hl : s.heap.FunFrames B (env :: outer)) (nT : B.get? T = none) (hT : s.heap.get? T = some oT) (dT : oT.data = .fields ts) :
    let h1 := s.heap.update T (Obj.mapFields (·.setIfInBounds 3 Value.none))
    B.StaysIn h1 ∧ h1.FunFrames B (env :: outer) ∧ s.heap.UpToSlots h1 := by
  intro h1
  have other : ∀ b, b ≠ T → h1.get? b = s.heap.get? b := fun b hb => Heap.get?_update_other _ _ (Ne.symm hb)
  have nrec : ∀ b o, s.heap.get? b = some o → (∀ vs, o.data ≠ .fields vs) → b ≠ T := fun b o q nf z => by rw [z, hT] at q; cases q; exact nf ts dT
  refine ⟨fun b o q => (other b fun z => by rw [z, nT] at q; cases q).trans (st b o q), hl.of_keeps fun b o q nf => ⟨o, (other b (nrec b o q nf)).trans q, rfl⟩, fun b o q nf => ⟨o.slots, (other b (nrec b o q nf)).trans q⟩⟩
theorem fly_leaves (hfr : A.frames = some (env :: outer)) (hf : env.frame = some L) (fl : Flies B (env :: outer) e cls a0 s.heap) (hQ : ∀ h', Heap.FlyingW B outer e cls a0 h' → s.heap.UpToSlots h' → Q () { s with heap := h' }) : wpAny M A (leaving env (.ref e)) Q E s := by
  obtain ⟨st, ne, hl, m, ht⟩ := fl
  by_cases hm : m = rawInt L
  · subst hm
    unfold leaving
    refine wpAny_bind (wpAny_noteFrame_againW hf ht (wpAny_landsW ⟨st, ne, hl, ht⟩ fun h' f us => ?_))
    obtain ⟨k1, k2, ⟨_, _, k3⟩, k4⟩ := f
    exact hQ h' ⟨k1, k2, k3, k4⟩ us
  · obtain ⟨oe, vs, T, oT, ts, he, ⟨hcls, h0⟩, hd, h1, nT, Te, hT, dT, h3⟩ := ht
    subst hcls
    unfold leaving noteFrame
    simp only [hf]
    refine wpAny_bind (wpAny_bind (wpAny_field he hd h1 ?_))
    rw [if_pos (show (Value.ref T != Value.none) = true from by simp)]
    refine wpAny_bind (wpAny_field hT dT h3 ?_)
    rw [if_neg (by simpa using hm)]
    refine wpAny_bind (wpAny_setField hT dT (Array.getElem?_eq_some_iff.mp h3).1 ?_)
    obtain ⟨s1, l1, u1⟩ := unmark (fl := m) st hl nT hT dT
    refine wpAny_newEntryW hfr l1 hf ((Heap.get?_update_other _ _ Te).trans he) s1 ne hd (Array.getElem?_eq_some_iff.mp h1).1 h0 fun h' lw => ?_
    obtain ⟨x1, ⟨_, _, x2⟩, x3, x4⟩ := lw
    exact hQ h' ⟨x1, ne, x2, x3⟩ (u1.trans x4)
theorem fly_looks (hfr : A.frames = some (env :: outer)) (hf : env.frame = some L) (fl : Flies B (env :: outer) e cls a0 s.heap) (hQ : ∀ h', Heap.HeldW B (env :: outer) e cls a0 L h' → s.heap.UpToSlots h' → Q () { s with heap := h' }) : wpAny M A (noteFrame (.ref e) env) Q E s := by
  obtain ⟨st, ne, hl, m, ht⟩ := fl
  by_cases hm : m = rawInt L
  · subst hm
    exact wpAny_noteFrame_againW hf ht (hQ s.heap ⟨st, ne, hl, ht⟩ (Heap.UpToSlots.refl _))
  · obtain ⟨oe, vs, T, oT, ts, he, ⟨hcls, h0⟩, hd, h1, nT, Te, hT, dT, h3⟩ := ht
    subst hcls
    unfold noteFrame
    simp only [hf]
    refine wpAny_bind (wpAny_field he hd h1 ?_)
    rw [if_pos (show (Value.ref T != Value.none) = true from by simp)]
    refine wpAny_bind (wpAny_field hT dT h3 ?_)
    rw [if_neg (by simpa using hm)]
    refine wpAny_bind (wpAny_setField hT dT (Array.getElem?_eq_some_iff.mp h3).1 ?_)
    obtain ⟨s1, l1, u1⟩ := unmark (fl := m) st hl nT hT dT
    refine wpAny_entryW hfr l1 hf ((Heap.get?_update_other _ _ Te).trans he) s1 ne hd (Array.getElem?_eq_some_iff.mp h1).1 h0 fun h' lw => ?_
    obtain ⟨x1, x2, x3, x4⟩ := lw
    exact hQ h' ⟨x1, ne, x2, x3⟩ (u1.trans x4)
end
end L2
set_option Elab.async false
set_option linter.all false
set_option maxRecDepth 100000
set_option maxHeartbeats 4000000
namespace L2
open PySem PySem.Spec PyProof.Rows
structure Flt (P : Program) (w : World) (stack : List Env) (ch : List Addr) (H : Hp) (s : Shared) (a C : Addr) (H' : Hp) (s' : Shared) : Prop where
  ex : ∃ (B : Heap) (a0 : Value), Flies B stack a (.ref C) a0 s'.heap ∧ ∀ b o, (H' b ≠ none ∨ (s.heap.get? b ≠ none ∧ b ∉ frs stack ∧ b ∉ ch)) → s'.heap.get? b = some o → B.get? b = some o
  os : s'.os = s.os
  bare : AllBare s'.gens
  un : Un (frs stack) ch H H' s.heap s'.heap
  hok : HOk P w H' s'.heap
  na : H' a = none
  ng : s.heap.get? a = none ∨ a ∈ ch
def ChOk (X : Cx) (pins : List (Addr × Obj)) (ch : List Addr) : Prop := ∀ b ∈ ch, (b ∈ X.ex ∨ X.s₀.heap.objs.size ≤ b) ∧ b ≠ X.env.locals ∧ (∀ x c, X.env.cells.lookup x = some c → c ≠ b) ∧ ∀ p ∈ X.pn ++ pins, p.1 ≠ b
def PassesFl (X : Cx) (E : St → XK) : Prop := ∀ (pins : List (Addr × Obj)) (σ : St) (H : Hp) (s : Shared) (ch : List Addr) (a C : Addr) (H' : Hp) (s' : Shared), Inv X pins σ H s → ChOk X pins ch → Flt X.prog X.w X.stack ch H s a C H' s' → E σ (.ref C) none H' → X.xe (.ref a) s'
theorem Inv.landC {X : Cx} {pins : List (Addr × Obj)} {σ : St} {H H' : Hp} {s s' : Shared} {h' B : Heap} {ch : List Addr} (I : Inv X pins σ H s) (hch : ChOk X pins ch) (os : s'.os = s.os) (bare : AllBare s'.gens) (un : Un (frs X.stack) ch H H' s.heap s'.heap) (hok : HOk X.prog X.w H' s'.heap)
    (hB : ∀ b o, (H' b ≠ none ∨ (s.heap.get? b ≠ none ∧ b ∉ frs X.stack ∧ b ∉ ch)) → s'.heap.get? b = some o → B.get? b = some o) (st : B.StaysIn h') (us : s'.heap.UpToSlots h') : Inv X pins σ H' { s' with heap := h' } := by
  have fr : ∀ b ∈ frs X.stack, b ∉ ch → ∀ o, s.heap.get? b = some o → ∃ sl, h'.get? b = some { o with slots := sl } := fun b hb nc o e => by
    obtain ⟨sl, q⟩ := un.slot b o e (I.stkFree b hb) hb nc
    obtain ⟨_, o1, e1, d1⟩ := I.stack.mem hb
    rw [e] at e1; cases e1
    obtain ⟨sl2, q2⟩ := us b _ q d1
    exact ⟨sl2, q2⟩
  have out : ∀ b o, b ∉ frs X.stack → b ∉ ch → s.heap.get? b = some o → H b = none → h'.get? b = some o := fun b o nb nc e n => st b o (hB b o (.inr ⟨by rw [e]; simp, nb, nc⟩) (un.keep b o e n nb nc))
  have J : Inv X pins σ H' { s with heap := h', gens := s'.gens, drawn := s'.drawn, toks := s'.toks } := by
    refine I.step (g' := s'.gens) (d' := s'.drawn) (t' := s'.toks) (ch := ch) hch (fun b o nL nf nc e n => ?_) (fun b o nL bf nc e n => ?_) (fun b o nc e n => un.free b o e n nc) (fun b o nc e => ?_) un.tups un.frzs un.tbls (fun m hm => ?_)
      (hok_stays hok st fun b o z => hB b o (.inl z)) bare
    · exact out b o (fun z => (List.mem_cons.mp (I.stkSub b z)).elim nL nf) nc e n
    · by_cases hb : b ∈ frs X.stack
      · exact fr b hb nc o e
      · exact ⟨o.slots, out b o hb nc e n⟩
    · by_cases hb : b ∈ frs X.stack
      · obtain ⟨sl, q⟩ := fr b hb nc o e
        exact ⟨_, q⟩
      · obtain ⟨o1, q⟩ := un.there b o e nc
        exact ⟨o1, st b o1 (hB b o1 (.inr ⟨by rw [e]; simp, hb, nc⟩) q)⟩
    · have nc : X.env.locals ∉ ch := fun z => (hch _ z).2.1 rfl
      obtain ⟨o, es, ep, ho, r⟩ := hm
      by_cases hb : X.env.locals ∈ frs X.stack
      · obtain ⟨sl, q⟩ := fr _ hb nc o ho
        exact ⟨_, es, ep, q, r⟩
      · exact ⟨o, es, ep, out _ o hb nc ho I.free, r⟩
  have e : ({ s' with heap := h' } : Shared) = { s with heap := h', gens := s'.gens, drawn := s'.drawn, toks := s'.toks } := by
    cases s'
    simp only at os
    subst os
    rfl
  rw [e]
  exact J
theorem PassesFl.at {X : Cx} {E : St → XK} (p : PassesFl X E) : PassesAt (CX1 X.prog X.w) X E := by
  intro pins σ H s e s' I h
  obtain ⟨a, C, a0, H', B, rfl, fl, os, bare, un, hok, na, ng, hB, q⟩ := h
  exact p pins σ H s [] a C H' s' I (fun b z => nomatch z) ⟨⟨B, a0, .of fl, fun b o z => hB b o (z.imp id fun y => ⟨y.1, y.2.1⟩)⟩, os, bare, un, hok, na, .inl ng⟩ q
section
variable {P : Program} {w : World} {K : PySem.W.Frag} {mg : Str → Option Value} {base : Heap} {N : List Str} {qual : Str} {scope : Scope} {f : Addr} {cd : Value} {A : Around} {outer : List Env} {s : Shared} {H : Hp} {E : XK} {E' : St → XK}
theorem passF (hE : ∀ σ c d H', E' σ c d H' → E c d H') : PassesFl (cxOf (CX1 P w) P w K mg base N qual scope f cd A outer s H E) E' := by
  intro pins σ H1 s1 ch a C H' s2 I hch h q
  obtain ⟨⟨B, a0, fl, hB⟩, os, bare, un, hok, na, ng⟩ := h
  have I2 : Inv (cxOf (CX1 P w) P w K mg base N qual scope f cd A outer s H E) pins σ H' s2 := I.call' os un hok bare hch
  refine fly_leaves I.ok.frames rfl fl fun h' fl' us => ?_
  have st := fl'.1
  have none0 : ∀ b : Addr, b ∉ (cxOf (CX1 P w) P w K mg base N qual scope f cd A outer s H E).ex := fun b z => nomatch z
  have oldB : ∀ b o, (H' b ≠ none ∨ (s.heap.get? b ≠ none ∧ b ∉ frs outer)) → s2.heap.get? b = some o → B.get? b = some o := fun b o hc e => by
    refine hB b o ?_ e
    rcases hc with z | ⟨z1, z2⟩
    · exact .inl z
    · cases q0 : s.heap.get? b with
      | none => exact absurd q0 z1
      | some o0 =>
        obtain ⟨o1, e1⟩ := I.base.there b o0 q0 (none0 b)
        refine .inr ⟨by rw [e1]; simp, fun z => ?_, fun z => ?_⟩
        · rcases List.mem_cons.mp (I.stkSub b z) with y | y
          · exact absurd (Nat.lt_of_lt_of_le (Heap.lt_size q0) (by rw [y]; exact I.ok.above)) (Nat.lt_irrefl _)
          · exact z2 y
        · rcases (hch b z).1 with y | y
          · exact none0 b y
          · exact absurd (Nat.lt_of_lt_of_le (Heap.lt_size q0) y) (Nat.lt_irrefl _)
  refine ⟨a, C, a0, H', B, rfl, fl', I2.os, bare, leave_un I2.base st us oldB (fun b hb o e => ?_) (fun b hb => I.ok.frf b hb), hok_stays hok st fun b o z => oldB b o (.inl z), na, ?_, fun b o hc e => ?_, hE _ _ _ _ q⟩
  · obtain ⟨_, o', e', d⟩ := I.ok.funs.mem hb
    have e' : s.heap.get? b = some o' := e'
    rw [e] at e'; cases e'; exact d
  · cases q0 : s.heap.get? a with
    | none => rfl
    | some o0 =>
      obtain ⟨o1, e1⟩ := I.base.there a o0 q0 (none0 a)
      rcases ng with ng | ng
      · rw [ng] at e1; cases e1
      · rcases (hch a ng).1 with y | y
        · exact absurd y (none0 a)
        · exact absurd (Nat.lt_of_lt_of_le (Heap.lt_size q0) y) (Nat.lt_irrefl _)
  · have e : h'.get? b = some o := e
    have : ∃ o2, s2.heap.get? b = some o2 := by
      rcases hc with z | ⟨z1, z2⟩
      · cases q0 : H' b with
        | none => exact absurd q0 z
        | some u => exact objok_get (hok b u q0)
      · cases q0 : s.heap.get? b with
        | none => exact absurd q0 z1
        | some o0 => exact I2.base.there b o0 q0 (none0 b)
    obtain ⟨o2, e2⟩ := this
    have e3 := oldB b o2 hc e2
    rw [st b o2 e3] at e
    cases e
    exact e3
end
section
variable {X : Cx}
theorem ps_tryF {body : List Stmt} {b₀ : Stmt} {suite : List Stmt} {cx n : Str} {np hpos pos : Pos} {i : Nat} {Cb : Addr} {tb : (St → XK) → TS} {th : TS} (hex : X.ex = []) (hstk : X.stack = X.env :: X.outer) (hfr : X.env.frame = some X.env.locals) (hc : X.calm = true) (hN : X.N.Nodup) (hi : X.N[i]? = some n) (hl : X.env.kindOf n = some .local)
    (hg : Gl X cx) (hm : X.mg cx = some (.ref Cb)) (qb : PySem.W.excIn X.K Cb bmVE "ValueError.__new__" = true) (hb : ∀ pl ξ E, PassesFl (X.tb pl ξ) E → PassesOwn (model X.prog X.w) X.A X.env ξ → PSs (X.tb pl ξ) body (tb E)) (hh : ∀ a, PSs (X.hnd a) (b₀ :: suite) th)
    (hd : (cx == ("__debug__" : Str)) = false := by decide) : PS X (.Try body [.ExceptHandler (some (.Name cx np)) (some n) (b₀ :: suite) hpos] [] [] pos) (tTry X.K Cb i tb th) := by
  intro pins s σ H D I h
  have hk : X.calm = true → X.A.handled = none := I.ok.hd
  refine wpAny_Try_except ?_
  refine wpAny_mono (hb pins _ _ ?_ ?_ [] s σ H D I.to_tb h) (fun f s1 q => ?_) fun e s1 q => q
  rotate_left
  · exact PassesOwn.looking
  · have q := sp_tb q
    cases f with
    | next => exact wpAny_execs_nil q
    | brk => exact q
    | cont => exact q
    | ret u => exact q
  intro pins' σ1 H1 s1 ch a C H' s2 I1 hch hx hE
  obtain ⟨⟨B, a0, fl, hB⟩, os, bare, un, hok, na, ng⟩ := hx
  obtain ⟨C1, ec, qc, sub, th1⟩ := hE
  cases ec
  have fl : Flies B (X.env :: X.outer) a (.ref C) a0 s2.heap := by rw [← hstk]; exact fl
  have frm : X.A.frames = some (X.env :: X.outer) := by rw [← hstk]; exact I.ok.frames
  refine fly_looks frm hfr fl fun h4 held us4 => ?_
  refine wpAny_landsW held fun h5 fl5 us5 => ?_
  have J5 : Inv X pins σ1 H' { s2 with heap := h5 } := (I1.landC hch os bare un hok hB fl5.1 (us4.trans us5)).of_tb
  obtain ⟨ob, hob, hobc⟩ := fl5.there
  refine wpAny_handleBy_cons (codeAny_handlers_test (ld_glob (X := X.hnd a) J5.to_hnd hg hm ?_ hd)) (by intro z; cases z)
  obtain ⟨bm, N, nm, qn, bs, hdct, sn, sub0, ab, col, dd, k0, k1, k2, k3, k5, mN, hC, _, _, T⟩ := xcls_at J5.kIn qc
  obtain ⟨bm2, N2, nm2, qn2, bs2, hdct2, sn2, sub2, ab2, col2, dd2, j0, j1, j2, j3, j5, mN2, hC2, _, _, T2⟩ := xcls_at J5.kIn qb
  have e1 := mroK_at J5.kIn qc hC
  refine match_own hC hC2 hob hobc (by rw [List.contains_cons, T2.hasType (X := "BaseException") (b := true) (by decide +kernel), Bool.or_true]) (r := true) (by rw [← e1]; exact sub) ?_
  refine codeAny_handlers_suite_as (lands_againW fl5 fun h6 fl6 us6 => ?_)
  have J6 : Inv X pins σ1 H' { s2 with heap := h6 } := (I1.landC hch os bare un hok hB fl6.1 ((us4.trans us5).trans us6)).of_tb
  have new : ∀ b o, s1.heap.get? b = some o → b ∉ ch → b ≠ a := fun b o e nc z => by
    subst z
    rcases ng with ng | ng
    · rw [ng] at e; cases e
    · exact nc ng
  have J7 : Inv X pins σ1 (upd H' a (excO a C)) { s2 with heap := h6 } := J6.track na (by
      cases q0 : X.s₀.heap.get? a with
      | none => rfl
      | some o0 =>
        obtain ⟨o1, e2⟩ := I1.base.there a o0 q0 (by show a ∉ X.ex; rw [hex]; simp)
        rcases ng with ng | ng
        · rw [ng] at e2; cases e2
        · rcases (hch a ng).1 with y | y
          · have y : a ∈ X.ex := y
            rw [hex] at y; cases y
          · exact absurd (Nat.lt_of_lt_of_le (Heap.lt_size q0) y) (Nat.lt_irrefl _))
    (by obtain ⟨m, ⟨o, _, _, ho, _⟩, _⟩ := I1.loc; exact Ne.symm (new _ o ho fun z => (hch _ z).2.1 rfl))
    (fun x c e => by obtain ⟨v, o, ho, _⟩ := I1.cell x c e; exact new _ o ho fun z => (hch _ z).2.2.1 x c e rfl)
    (fun p hp => new _ _ (I1.pin p (List.mem_append_left _ hp)).1 fun z => (hch _ z).2.2.2 p (List.mem_append_left _ hp) rfl) (excO_ok fl6.there)
  refine store_ok (v := .ref a) (u := .ref a) J7 hN hi (.inl hl) rfl (fun s7 I7 => ?_) (.inr hl)
  refine wpAny_mono (hh a pins s7 _ _ _ I7.to_hnd (th1 a na)) (fun f s8 q8 => ?_) fun _ _ z => z.elim
  cases f with
  | next => obtain ⟨σ8, H8, I8, q⟩ := q8; exact name_gone (I8.of_hnd hk) hN hi hl fun s9 I9 => ⟨_, H8, I9, q⟩
  | brk => obtain ⟨σ8, H8, I8, q⟩ := q8; exact name_gone (I8.of_hnd hk) hN hi hl fun s9 I9 => ⟨_, H8, I9, q⟩
  | cont => obtain ⟨σ8, H8, I8, q⟩ := q8; exact name_gone (I8.of_hnd hk) hN hi hl fun s9 I9 => ⟨_, H8, I9, q⟩
  | ret u => obtain ⟨v, σ8, H8, I8, r, q⟩ := q8; exact name_gone (I8.of_hnd hk) hN hi hl fun s9 I9 => ⟨v, _, H8, I9, r, q⟩
end
end L2
set_option Elab.async false
set_option linter.all false
set_option maxRecDepth 100000
set_option maxHeartbeats 4000000
namespace L2
open PySem PySem.Spec PyProof.Rows
theorem comp_loopX {prog : Program} {w : World} {A : Around} {R : Result → Shared → Prop} {s : Shared} {elt target iter : Expr} {ifs : List Expr} {scope : Scope} {pos : Pos} {it acc : Value} {env : Env} {Ex : Value → Shared → Prop} (hx : ∀ e s', Ex e s' → notedBy (model prog w) A env (fun x s'' => R (.error x) s'') e s') (I : Nat → Shared → Prop)
    (turn : ∀ n s, I n s → wpAny (model prog w) A (pyNext it) (fun r s₁ => match r with
      | none => R (.ok .next) s₁
      | some v => wpAny (model prog w) A (letOwnedTupleGo target it v) (fun _ s₁' => wpAny (model prog w) A (assign target env v) (fun _ s₂ =>
          wpAny (model prog w) A (forIn ifs true fun c r => if r = true then do let ok ← isTrue c env (eval c env); pure (ForInStep.yield ok) else pure (ForInStep.yield r)) (fun ok s₃ =>
            if ok = true then wpAny (model prog w) A (eval elt env) (fun x s₄ =>
              wpAny (model prog w) A (call (.builtin "list.append") [acc, x]) (fun _ s₅ => ∃ m, m < n ∧ I m s₅) Ex s₄) Ex s₃
            else ∃ m, m < n ∧ I m s₃) Ex s₂) Ex s₁') Ex s₁) Ex s)
    (n : Nat) (h : I n s) :
    codeAny (model prog w) A (.compLoop (.ListComp elt [⟨target, iter, ifs, 0⟩] scope pos) 0 it acc env) R s := by
  refine codeAny_loop rfl I (fun n s hI => ?_) n h
  show wpAny _ A ((compTurn (.ListComp elt [⟨target, iter, ifs, 0⟩] scope pos) 0 it acc env).onRaise (fun x => do noteFrame x env; theTreesLotGoes x)) _ _ s
  refine wpAny_noted ?_
  rw [compTurn_list]
  refine wpAny_bind (wpAny_standAt (wpAny_bind (wpAny_mono (turn n s hI) (fun r s₁ h₁ => ?_) hx)))
  cases r with
  | none => exact wpAny_pure h₁
  | some v =>
    refine wpAny_bind (wpAny_mono h₁ (fun _ s₁' h₁' => ?_) hx)
    refine wpAny_bind (wpAny_mono h₁' (fun _ s₂ h₂ => wpAny_bind (wpAny_mono h₂ (fun ok s₃ h₃ => ?_) hx)) hx)
    cases ok with
    | false => exact wpAny_pure ⟨rfl, h₃⟩
    | true =>
      exact wpAny_bind (wpAny_bind (wpAny_mono h₃ (fun x s₄ h₄ => wpAny_bind (wpAny_mono h₄ (fun _ s₅ h₅ => wpAny_pure (wpAny_pure ⟨rfl, h₅⟩)) hx)) hx))
theorem block_loopX {Y : Cx} {tg elt iter : Expr} {ifs : List Expr} {scope : Scope} {pos : Pos} {g : TG} {tt : TT} {te : TE} {J : It} {fp : List Addr} {it D : Addr} {tn : Nat → Heap → Prop} {P : List (Addr × Obj)} {W : Nat → Nat → List V → St → Hp → Prop} {m0 : Nat}
    {R : Result → Shared → Prop} {QD : Hp → Prop} {s4 : Shared} {τ0 : St} {H4 : Hp}
    (hc : Y.calm = true) (hx : ∀ e s', Y.xe e s' → notedBy (model Y.prog Y.w) Y.A Y.env (fun x s'' => R (.error x) s'') e s') (hg : PG Y tg g) (ht : PTs Y ifs tt) (he : PE Y elt te) (T : Turn Y.prog Y.w Y.K tg J fp it tn)
    (stat : ∀ {H' : Hp}, (∀ b ∈ fp, H' b = none) → ∀ b ∈ fp, FpOk Y P H' b)
    (turn : ∀ i m ys τ H2, W i m ys τ H2 → (J.stop i H2 ∧ QD H2) ∨ (J.go i H2 ∧ ∃ N : List V → St → Hp → Prop, (∀ ys' τ' H', N ys' τ' H' → ∃ m', m' < m ∧ W (i + 1) m' ys' τ' H') ∧ ∀ x H3, J.yld i H2 x H3 → g x τ H3 fun τ' H4 => tt τ' H4 fun b H5 =>
      if b = true then te τ' H5 fun v H6 => H6 D = some (.lst ys) ∧ ys.length < sizeLine ∧ N (ys ++ [v]) τ' (upd H6 D (.lst (ys ++ [v])))
      else N ys τ' H5))
    (fin : ∀ τ H' s', Inv Y P τ H' s' → QD H' → R (.ok .next) s')
    (I0 : Inv Y P τ0 H4 s4) (t0 : tn 0 s4.heap) (n0 : ∀ b ∈ fp, H4 b = none) (w0 : W 0 m0 [] τ0 H4) :
    codeAny (model Y.prog Y.w) Y.A (.compLoop (.ListComp elt [⟨tg, iter, ifs, 0⟩] scope pos) 0 (.ref it) (.ref D) Y.env) R s4 := by
  refine comp_loopX hx (fun n s' => ∃ i ys τ H', Inv Y P τ H' s' ∧ tn i s'.heap ∧ (∀ b ∈ fp, H' b = none) ∧ W i n ys τ H') ?_ m0 ⟨0, [], τ0, H4, I0, t0, n0, w0⟩
  rintro n s5 ⟨i, ys, τ, H5, I5, st5, fr5, w5⟩
  rcases turn i n ys τ H5 w5 with ⟨stop, q⟩ | ⟨go, N, hN, step⟩
  · refine thn (T.done Y rfl rfl rfl hc i P s5 τ H5 _ I5 (stat fr5) st5 stop) fun r s6 ⟨hr, I6⟩ => ?_
    subst hr
    exact fin τ H5 s6 I6 q
  · refine thn (T.item Y rfl rfl rfl hc i P s5 τ H5 _ I5 (stat fr5) st5 go) fun r s6 ⟨u, hr, h6⟩ => ?_
    subst hr
    refine thn h6 fun _ s7 ⟨x, H7, I7, r7, y7, st7, fr7⟩ => ?_
    have I7' := I7.pinned (stat fr7) (T.obj _ _ st7)
    refine thn (hg _ s7 τ H7 x u _ I7' r7 (step x H7 y7)) fun _ s8 ⟨τ8, H8, I8, q8⟩ => ?_
    refine thn (ht _ s8 τ8 H8 _ I8 q8) fun ok s9 ⟨H9, I9, q9⟩ => ?_
    have again : ∀ {ys' : List V} {H' : Hp} {s' : Shared}, Inv Y (P ++ pinsAt fp s7.heap) τ8 H' s' → (∃ m', m' < n ∧ W (i + 1) m' ys' τ8 H') → ∃ m, m < n ∧ ∃ i ys τ H', Inv Y P τ H' s' ∧ tn i s'.heap ∧ (∀ b ∈ fp, H' b = none) ∧ W i m ys τ H' := fun {ys' H' s'} I' ⟨m', hm, w'⟩ => by
      refine ⟨m', hm, i + 1, ys', τ8, H', I'.unpinned, T.keep _ _ _ st7 fun b hb o e => (I'.pin (b, o) (List.mem_append_right _ (List.mem_append_right _ (mem_pinsAt hb e)))).1, fun b hb => ?_, w'⟩
      obtain ⟨o, e, d⟩ := T.obj _ _ st7 b hb
      exact (I'.pin (b, o) (List.mem_append_right _ (List.mem_append_right _ (mem_pinsAt hb e)))).2.1
    cases ok with
    | false =>
      rw [if_neg Bool.false_ne_true] at q9 ⊢
      exact again I9 (hN _ _ _ q9)
    | true =>
      rw [if_pos rfl] at q9 ⊢
      refine thn (he _ s9 τ8 H9 _ I9 q9) fun y s10 ⟨v, H10, I10, r10, hD, hz, w10⟩ => ?_
      refine thn (mt_append (X := Y) _ s10 τ8 H10 (.ref D) [v] (.ref D) [y] (fun _ H' => H' = upd H10 D (.lst (ys ++ [v]))) I10 rfl (.cons r10 .nil) ⟨D, ys, v, rfl, rfl, hD, hz, rfl⟩) fun _ s11 ⟨z, H11, I11, _, e11⟩ => ?_
      subst e11
      exact again I11 (hN _ _ _ w10)
theorem note_eq {e : Value} {env env' : Env} (h : env.frame = env'.frame) : noteFrame e env = noteFrame e env' := by
  unfold noteFrame PySem.frameOf
  rw [h]
theorem fly_on {M : Model} {A : Around} {E : Value → Shared → Prop} {s : Shared} {α : Type} {B : Heap} {l : List Env} {e : Addr} {cls a0 : Value} {what : String} {cenv : Env} {Q : α → Shared → Prop} (fl : Flies B l e cls a0 s.heap)
    (h : ∀ h', Flies B l e cls a0 h' → (∀ b o, s.heap.get? b = some o → (∀ vs, o.data ≠ .fields vs) → h'.get? b = some o) → E (.ref e) { s with heap := h' }) : wpAny M A (PySem.passOn what (.ref e) cenv) Q E s := by
  obtain ⟨st, ne, hl, m, oe, vs, T, oT, ts, he, ⟨hcls, h0⟩, hd, h1, nT, Te, hT, dT, h3⟩ := fl
  unfold PySem.passOn
  refine wpAny_bind (wpAny_field he hd h1 ?_)
  rw [if_neg (by simp)]
  refine wpAny_bind ?_
  unfold setFlight
  refine wpAny_bind (wpAny_field he hd h1 ?_)
  rw [if_pos (show (Value.ref T != Value.none) = true from by simp)]
  have sz : 3 < ts.size := (Array.getElem?_eq_some_iff.mp h3).1
  refine wpAny_setField hT dT sz (wpAny_throw ?_)
  have other : ∀ b, b ≠ T → (s.heap.update T (Obj.mapFields (·.setIfInBounds 3 (cenv.frame.elim Value.none fun f => rawInt f)))).get? b = s.heap.get? b := fun b hb => Heap.get?_update_other _ _ (Ne.symm hb)
  have nrec : ∀ b o, s.heap.get? b = some o → (∀ vs, o.data ≠ .fields vs) → b ≠ T := fun b o q nf z => by rw [z, hT] at q; cases q; exact nf ts dT
  refine h _ ⟨fun b o q => (other b fun z => by rw [z, nT] at q; cases q).trans (st b o q), ne, hl.of_keeps fun b o q nf => ⟨o, (other b (nrec b o q nf)).trans q, rfl⟩, _, oe, vs, T, _, _, (other e (Ne.symm Te)).trans he, ⟨hcls, h0⟩, hd, h1, nT, Te, Heap.get?_update_self _ hT (Obj.isFreed_of_fields (Obj.data_mapFields dT _)), Obj.data_mapFields dT _, by simp [sz]; rfl⟩ fun b o q nf => (other b (nrec b o q nf)).trans q
end L2
set_option Elab.async false
set_option linter.all false
set_option maxRecDepth 100000
set_option maxHeartbeats 4000000
namespace L2
open PySem PySem.Spec PyProof.Rows
theorem funs_keep {h h' B B' : Heap} : ∀ {l : List Env}, h.FunFrames B l → (∀ b ∈ frs l, ∀ o, h.get? b = some o → h'.get? b = some o) → (∀ b ∈ frs l, B'.get? b = none) → h'.FunFrames B' l
  | [], _, _, _ => trivial
  | env :: rest, ⟨m, ⟨L, o, e1, e2, e3, e4⟩, r⟩, k, n => by
    have sub : ∀ b ∈ frs rest, b ∈ frs (env :: rest) := fun b hb => by
      unfold frs at hb ⊢
      rw [List.filterMap_cons, e1]; exact List.mem_cons_of_mem _ hb
    have hd : L ∈ frs (env :: rest) := by unfold frs; rw [List.filterMap_cons, e1]; exact List.mem_cons_self
    exact ⟨m, ⟨L, o, e1, n L hd, k L hd o e3, e4⟩, funs_keep r (fun b hb => k b (sub b hb)) fun b hb => n b (sub b hb)⟩
theorem un_far {H' : Hp} {h h' B : Heap} {fs ex : List Addr} {H₀ : Hp} {h₀ : Heap} (u : Un fs ex H₀ H' h₀ h) (st : B.StaysIn h') (us : ∀ b ∈ fs, ∀ o, h.get? b = some o → (∀ vs, o.data ≠ .fields vs) → ∃ sl, h'.get? b = some { o with slots := sl }) (hB : ∀ b o, (H' b ≠ none ∨ (h₀.get? b ≠ none ∧ b ∉ fs ∧ b ∉ ex)) → h.get? b = some o → B.get? b = some o)
    (hf : ∀ b ∈ fs, ∀ o, h₀.get? b = some o → ∀ vs, o.data ≠ .fields vs) (hfn : ∀ b ∈ fs, H₀ b = none) (hfx : ∀ b ∈ fs, b ∉ ex → True) : Un fs ex H₀ H' h₀ h' where
  keep := fun b o e n nf nx => st b o (hB b o (.inr ⟨by rw [e]; simp, nf, nx⟩) (u.keep b o e n nf nx))
  slot := fun b o e n hb nx => by
    obtain ⟨sl, q⟩ := u.slot b o e n hb nx
    obtain ⟨sl', q'⟩ := us b hb _ q (hf b hb o e)
    exact ⟨sl', q'⟩
  free := u.free
  there := fun b o e nx => by
    by_cases hb : b ∈ fs
    · obtain ⟨sl, q⟩ := u.slot b o e (hfn b hb) hb nx
      obtain ⟨sl', q'⟩ := us b hb _ q (hf b hb o e)
      exact ⟨_, q'⟩
    · obtain ⟨o', q⟩ := u.there b o e nx
      exact ⟨o', st b o' (hB b o' (.inr ⟨by rw [e]; simp, hb, nx⟩) q)⟩
  tups := u.tups
  frzs := u.frzs
  tbls := u.tbls
def blkXe (X : Cx) (scope : Scope) (C : Addr) (s₀ : Shared) (H₀ : Hp) (ex : List Addr) (N : List Str) (use : Option (Value → Sem Unit)) (Z : Value → Shared → Prop) (D : Addr) : Value → Shared → Prop :=
  notedBy (model X.prog X.w) X.A (X.block scope C s₀ H₀ ex N).env (fun x s'' => compPost (model X.prog X.w) X.A X.xe use Z (.ref D) C (.error x) s'')
theorem run_compX {X : Cx} {elt tg iter : Expr} {ifs : List Expr} {scope : Scope} {pos p1 : Pos} {N : List Str} {ix : List (Option Nat)} {wi : TI} {g : TG} {tt : TT} {te : TE} {pins : List (Addr × Obj)} {s : Shared} {σ : St} {H : Hp} {Q : VK} {use : Option (Value → Sem Unit)}
    {Z : Value → Shared → Prop}
    {E : XK} {e0 : Env} {rest : List Env} {L : Addr} (hX : PassesFl X fun _ => E) (hstk : X.stack = e0 :: rest) (he0 : X.env.frame = e0.frame) (hL : e0.frame = some L) (hc : X.calm = true) (B : BlkSc X scope) (Dr : Draws X scope N ix) (hi : PI X tg iter wi)
    (hg : ∀ C s₀ H₀ ex ξ, PG ((X.block scope C s₀ H₀ ex N).wish ξ) tg g) (ht : ∀ C s₀ H₀ ex ξ, PassesFl ((X.block scope C s₀ H₀ ex N).wish ξ) (fun _ => E) → PTs ((X.block scope C s₀ H₀ ex N).wish ξ) ifs tt) (he : ∀ C s₀ H₀ ex ξ, PassesFl ((X.block scope C s₀ H₀ ex N).wish ξ) (fun _ => E) → PE ((X.block scope C s₀ H₀ ex N).wish ξ) elt te)
    (hs : ∀ x, foldedSetIterable iter X.env x = pure x)
    (I : Inv X pins σ H s) (h : tComp wi ix g tt te σ H Q)
    (fin : ∀ (D C : Addr) (H' : Hp) (s' : Shared) (m : Str → Option Value), Inv X pins σ H' s' → Q (.ref D) H' → s'.heap.Ns C m → (∀ h', Heap.SameBut C s'.heap h' → Inv X pins σ H' { s' with heap := h' }) → C ≠ X.env.locals → (∀ x c, X.env.cells.lookup x = some c → c ≠ C) → H' C = none →
      (∀ p ∈ X.pn ++ pins, p.1 ≠ C) → X.s₀.heap.objs.size ≤ C → compPost (model X.prog X.w) X.A X.xe use Z (.ref D) C (.ok .next) s') :
    wpAny (model X.prog X.w) X.A (comprehension (.ListComp elt [⟨tg, iter, ifs, 0⟩] scope pos) scope X.env p1 (newList []) false (eval iter X.env) use) Z X.xe s := by
  have hfree : ∀ x ∈ scope.names, x.2 = .free → ∃ c, X.env.cells.lookup x.1 = some c := fun x hx e => I.ok.has _ (B.free x hx e)
  refine wpAny_comprehension_free (use := use) rfl hs (closureFor_of hfree) B.kind B.locs ?_
  refine thn (hi pins s σ H _ I h) fun v s1 h1 => thn h1 fun itv s2 h2 => ?_
  obtain ⟨it, fp, tn, J, H2, e, I2, T, st2, f2, R⟩ := h2
  subst e
  have hDf : H2 s2.heap.objs.size = none := I2.hok.fresh (Nat.le_refl _)
  obtain ⟨W, ⟨m0, w0⟩, turn⟩ := R _ hDf
  refine wpAny_newObj_type ?_ (by show (0 : Nat) ≤ sizeLine; exact Nat.zero_le _)
  have I3 : Inv X pins σ (upd H2 s2.heap.objs.size (.lst [])) { s2 with heap := s2.heap.push { cls := .type "list", data := .seq ([] : List Value).toArray } } := I2.lnew (t' := s2.toks) (ys := []) (its := []) .nil (Nat.zero_le _)
  generalize hD : s2.heap.objs.size = D at *
  have fpo : ∀ b ∈ fp, ∃ o, s2.heap.get? b = some o := fun b hb => let ⟨o, q, _⟩ := T.obj _ _ st2 b hb; ⟨o, q⟩
  have fpD : ∀ b ∈ fp, b ≠ D := fun b hb => by
    obtain ⟨o, q⟩ := fpo b hb
    rw [← hD]; exact Nat.ne_of_lt (Heap.lt_size q)
  have f3 : ∀ b ∈ fp, FpOk X pins (upd H2 D (.lst [])) b := fun b hb => ⟨by rw [upd_ne (fpD b hb)]; exact (f2 b hb).1, (f2 b hb).2⟩
  generalize hs3 : ({ s2 with heap := s2.heap.push { cls := .type "list", data := .seq ([] : List Value).toArray } } : Shared) = s3 at I3 ⊢
  have k23 : ∀ b o, s2.heap.get? b = some o → s3.heap.get? b = some o := fun b o q => by rw [← hs3]; exact Heap.get?_push_of_some _ q
  have fpo3 : ∀ b ∈ fp, ∃ o, s3.heap.get? b = some o := fun b hb => let ⟨o, q⟩ := fpo b hb; ⟨o, k23 b o q⟩
  have st3 : tn 0 s3.heap := T.keep _ _ _ st2 fun b hb o q => k23 b o q
  refine wpAny_newEnv_block ?_
  have k34 : ∀ b o, s3.heap.get? b = some o → (pushCells (s3.heap.push { cls := .type "dict", data := .dict #[] }) scope.names).get? b = some o := fun b o q => pushCells_keeps _ _ b o (Heap.get?_push_of_some _ q)
  have hns4 : (pushCells (s3.heap.push { cls := .type "dict", data := .dict #[] }) scope.names).Ns s3.heap.objs.size (fun _ => none) := (Heap.Ns.new s3.heap (.type "dict")).keeps (pushCells_keeps _ _)
  have hcl4 : ∀ x c, (cellsFrom (s3.heap.objs.size + 1) scope.names (clOf X.env scope.names [])).lookup x = some c → ∃ v, (pushCells (s3.heap.push { cls := .type "dict", data := .dict #[] }) scope.names).IsCell c v := fun x c e => by
    refine cellsFrom_cell (h := s3.heap.push { cls := .type "dict", data := .dict #[] }) (acc := clOf X.env scope.names []) (fun y d hy => ?_) (by rw [Heap.size_push]; exact e)
    obtain ⟨v, o, ho, hd⟩ := I3.cell y d (clOf_sub (fun y d z => by simp at z) hy)
    exact ⟨v, o, Heap.get?_push_of_some _ ho, hd⟩
  have IB := I3.blockStart (tk := s3.toks) B Dr f3 fpo3 hns4 k34 hcl4
  generalize hh4 : pushCells (s3.heap.push { cls := .type "dict", data := .dict #[] }) scope.names = h4 at *
  generalize hC : s3.heap.objs.size = C at *
  have hCX : X.s₀.heap.objs.size ≤ C := by rw [← hC]; exact I3.sz
  have CL : C ≠ X.env.locals := by rw [← hC]; exact Nat.ne_of_gt I3.lt
  have Cc : ∀ x c, X.env.cells.lookup x = some c → c ≠ C := fun x c q => by
    obtain ⟨v, o, ho, _⟩ := I3.cell x c q
    rw [← hC]; exact Nat.ne_of_lt (Heap.lt_size ho)
  have Cp : ∀ p ∈ X.pn ++ pins, p.1 ≠ C := fun p hp => by
    rw [← hC]; exact Nat.ne_of_lt (Heap.lt_size (I3.pin p hp).1)
  have fpC : ∀ b ∈ fp, b ≠ C := fun b hb => by
    obtain ⟨o, q⟩ := fpo3 b hb
    rw [← hC]; exact Nat.ne_of_lt (Heap.lt_size q)
  have stat : ∀ {H' : Hp}, (∀ b ∈ fp, H' b = none) → ∀ b ∈ fp, FpOk (X.block scope C s3 (upd H2 D (.lst [])) fp N) (X.pn ++ pins) H' b := fun {H'} hn b hb => by
    obtain ⟨_, q1, q2, q3, q4, q5⟩ := f2 b hb
    exact ⟨hn b hb, fpC b hb, I3.nostk q1 q2, .inl hb, fun x c e => (cellsFrom_or e).elim (fun z => q4 x c (clOf_sub (fun y d z => by simp at z) z)) (fun z => by obtain ⟨o, q⟩ := fpo3 b hb; have := Heap.lt_size q; rw [hC] at this; exact Nat.ne_of_gt (Nat.lt_of_lt_of_le (Nat.lt_succ_of_lt this) z.1)), fun p hp => q5 p (by simpa [Cx.block] using hp)⟩
  have st4 : tn 0 h4 := T.keep _ _ _ st3 fun b hb o q => k34 b o q
  have n4 : ∀ b ∈ fp, (upd H2 D (.lst [])) b = none := fun b hb => (f3 b hb).1
  have pass : PassesFl ((X.block scope C s3 (upd H2 D (.lst [])) fp N).wish (blkXe X scope C s3 (upd H2 D (.lst [])) fp N use Z D)) (fun _ => E) := by
    intro pY τ H1 s1 ch a Cc H' s' IY hch fl q
    obtain ⟨⟨B0, a0, flies, hB⟩, os, bare, un, hok, na, ng⟩ := fl
    have IY2 := IY.call' os un hok bare hch
    have flies : Flies B0 (e0 :: rest) a (.ref Cc) a0 s'.heap := by rw [← hstk]; exact flies
    show wpAny _ X.A (noteFrame (.ref a) _) _ _ s'
    rw [note_eq (env' := e0) (by exact he0)]
    refine fly_looks (by rw [← hstk]; exact I.ok.frames) hL flies fun h4' held us4 => ?_
    obtain ⟨m, ⟨oC, es, ep, hoC, rC⟩, _⟩ := id IY.loc
    have hoC : s1.heap.get? C = some oC := hoC
    have H1C : H1 C = none := IY.free
    have H'C : H' C = none := IY2.free
    have nC : C ∉ frs X.stack := fun z => by
      obtain ⟨_, o, ho, _⟩ := IY.ok.funs.mem z
      have ho : s3.heap.get? C = some o := ho
      exact absurd (Heap.lt_size ho) (by rw [hC]; exact Nat.lt_irrefl _)
    have cC : C ∉ ch := fun z => (hch C z).2.1 rfl
    have sC : s'.heap.get? C = some oC := un.keep C oC hoC H1C nC cC
    have bC : B0.get? C = some oC := hB C oC (.inr ⟨by rw [hoC]; simp, nC, cC⟩) sC
    have aC : a ≠ C := fun z => by
      rcases ng with y | y
      · rw [z, hoC] at y; cases y
      · exact (hch a y).2.1 z
    have hn4 : h4'.Ns C m := ⟨oC, es, ep, held.1 C oC bC, rC⟩
    suffices main : ∃ m, h4'.Ns C m ∧ ∀ h', Heap.SameBut C h4' h' → ∀ cenv : Env, cenv.locals = C → wpAny (model X.prog X.w) X.A (PySem.passOn "comprehension.variables-let-go" (.ref a) cenv : Sem Value) (fun _ _ => False) X.xe { s' with heap := h' } by
      cases use <;> exact main
    refine ⟨m, hn4, fun h' sb cenv _ => ?_⟩
    have pB : ∀ b, (part B0 fun b => decide (b ≠ C)).get? b = if b ≠ C then B0.get? b else none := fun b => by rw [part_get]; by_cases z : b = C <;> simp [z]
    have fC : ∀ b ∈ frs (e0 :: rest), b ≠ C := fun b hb z => by
      have := (held.2.2.1.mem hb).1
      rw [z, bC] at this; cases this
    have fl' : Flies (part B0 fun b => decide (b ≠ C)) (e0 :: rest) a (.ref Cc) a0 h' := by
      obtain ⟨oe, vs, T0, oT, ts, q1, q2, q3, q4, q5, q6, q7, q8, q9⟩ := held.2.2.2
      have TC : T0 ≠ C := fun z => by rw [z, bC] at q5; cases q5
      refine ⟨fun b o e => ?_, by rw [pB]; split <;> first | exact held.2.1 | rfl, funs_keep held.2.2.1 (fun b hb o e => (sb.2 b (fC b hb)).trans e) (fun b hb => by rw [pB]; split <;> first | exact (held.2.2.1.mem hb).1 | rfl), _, oe, vs, T0, oT, ts, (sb.2 a aC).trans q1, q2, q3, q4, by rw [pB]; split <;> first | exact q5 | rfl, q6, (sb.2 T0 TC).trans q7, q8, q9⟩
      rw [pB] at e
      split at e
      case isTrue z => exact (sb.2 b z).trans (held.1 b o e)
      case isFalse => cases e
    refine fly_on fl' fun h5 fl5 k5 => ?_
    have old : ∀ b o, (H' b ≠ none ∨ (s3.heap.get? b ≠ none ∧ b ∉ frs X.stack ∧ b ∉ fp)) → s'.heap.get? b = some o → (part B0 fun b => decide (b ≠ C)).get? b = some o := fun b o hc2 e => by
      rw [pB]
      rcases hc2 with z | ⟨z1, z2, z3⟩
      · rw [if_pos (fun y => z (by rw [y]; exact H'C))]
        exact hB b o (.inl z) e
      · cases q0 : s3.heap.get? b with
        | none => exact absurd q0 z1
        | some o3 =>
          have lt := Heap.lt_size q0
          rw [hC] at lt
          rw [if_pos (Nat.ne_of_lt lt)]
          obtain ⟨o1, e1⟩ := IY.base.there b o3 q0 z3
          refine hB b o (.inr ⟨by rw [e1]; simp, z2, fun y => ?_⟩) e
          rcases (hch b y).1 with w1 | w1
          · exact z3 w1
          · have w1 : s3.heap.objs.size ≤ b := w1
            rw [hC] at w1
            exact absurd (Nat.lt_of_lt_of_le lt w1) (Nat.lt_irrefl _)
    have fr5 : ∀ b ∈ frs X.stack, ∀ o, s'.heap.get? b = some o → (∀ vs, o.data ≠ .fields vs) → ∃ sl, h5.get? b = some { o with slots := sl } := fun b hb o e nf => by
      obtain ⟨sl, e4⟩ := us4 b o e nf
      have hb' : b ∈ frs (e0 :: rest) := by rw [← hstk]; exact hb
      exact ⟨sl, k5 b _ ((sb.2 b (fC b hb')).trans e4) nf⟩
    refine hX pins σ (upd H2 D (.lst [])) s3 fp a Cc H' { s' with heap := h5 } I3 (fun b hb => ?_) ⟨⟨_, a0, by rw [hstk]; exact fl5, fun b o hc2 e => ?_⟩, IY2.os, bare, un_far IY2.base fl5.1 fr5 old (fun b hb o e => ?_) (fun b hb => I3.stkFree b hb) (fun _ _ _ => trivial), hok_stays hok fl5.1 fun b o z => old b o (.inl z), na, ?_⟩ q
    · obtain ⟨_, q1, q2, q3, q4, q5⟩ := f2 b hb
      exact ⟨q3, q1, q4, q5⟩
    · have : ∃ o2, s'.heap.get? b = some o2 := by
        rcases hc2 with z | ⟨z1, z2, z3⟩
        · cases q0 : H' b with
          | none => exact absurd q0 z
          | some u => exact objok_get (hok b u q0)
        · cases q0 : s3.heap.get? b with
          | none => exact absurd q0 z1
          | some o3 => exact IY2.base.there b o3 q0 z3
      obtain ⟨o2, e2⟩ := this
      have e3 := old b o2 hc2 e2
      have e : h5.get? b = some o := e
      rw [fl5.1 b o2 e3] at e
      cases e
      exact e3
    · obtain ⟨_, o1, e1, d1⟩ := I3.stack.mem hb
      rw [e] at e1; cases e1; exact d1
    · by_cases af : a ∈ fp
      · exact .inr af
      · left
        cases q0 : s3.heap.get? a with
        | none => rfl
        | some o3 =>
          rcases ng with y | y
          · obtain ⟨o1, e1⟩ := IY.base.there a o3 q0 af
            rw [y] at e1; cases e1
          · rcases (hch a y).1 with w1 | w1
            · exact absurd w1 af
            · exact absurd (Nat.lt_of_lt_of_le (Heap.lt_size q0) w1) (Nat.lt_irrefl _)
  have loop := block_loopX (Y := (X.block scope C s3 (upd H2 D (.lst [])) fp N).wish (blkXe X scope C s3 (upd H2 D (.lst [])) fp N use Z D)) (iter := iter) (pos := pos) (scope := scope) (D := D) (R := compPost (model X.prog X.w) X.A X.xe use Z (.ref D) C) hc (fun _ _ z => z) (hg C s3 _ fp _) (ht C s3 _ fp _ pass) (he C s3 _ fp _ pass) T stat turn
    (fun τ H' s' I' q => by
      have I5 : Inv X pins σ H' s' := I3.call' (ch := fp) I'.os I'.base I'.hok I'.bare fun b hb => by
        obtain ⟨_, q1, q2, q3, q4, q5⟩ := f2 b hb
        exact ⟨q3, q1, q4, q5⟩
      obtain ⟨m, hn, _⟩ := I'.loc
      have hC0 : H' C = none := I'.free
      exact fin D C H' s' m I5 q hn (fun h'' hs'' => I5.turned (t' := s'.toks) (fun b o hb e => hs''.extBut b o hb e) hC0 CL (.inr hCX) Cc Cp) CL Cc hC0 Cp hCX) (IB.wish _) st4 n4 w0
  exact codeAny_compStart_list loop (T.self _ 0 _ _ _ st4 loop)
theorem pe_compX {X : Cx} {elt tg iter : Expr} {ifs : List Expr} {scope : Scope} {pos : Pos} {N : List Str} {ix : List (Option Nat)} {wi : TI} {g : TG} {tt : TT} {te : TE} {E : XK} {e0 : Env} {rest : List Env} {L : Addr} (hX : PassesFl X fun _ => E) (hstk : X.stack = e0 :: rest) (he0 : X.env.frame = e0.frame) (hL : e0.frame = some L) (hc : X.calm = true) (B : BlkSc X scope) (Dr : Draws X scope N ix) (hi : PI X tg iter wi)
    (hg : ∀ C s₀ H₀ ex ξ, PG ((X.block scope C s₀ H₀ ex N).wish ξ) tg g) (ht : ∀ C s₀ H₀ ex ξ, PassesFl ((X.block scope C s₀ H₀ ex N).wish ξ) (fun _ => E) → PTs ((X.block scope C s₀ H₀ ex N).wish ξ) ifs tt) (he : ∀ C s₀ H₀ ex ξ, PassesFl ((X.block scope C s₀ H₀ ex N).wish ξ) (fun _ => E) → PE ((X.block scope C s₀ H₀ ex N).wish ξ) elt te)
    (hs : ∀ x, foldedSetIterable iter X.env x = pure x := by intro _; rfl) : PE X (.ListComp elt [⟨tg, iter, ifs, 0⟩] scope pos) (tComp wi ix g tt te) := by
  intro pins s σ H Q I h
  rw [eval_ListComp]
  exact run_compX (use := none) hX hstk he0 hL hc B Dr hi hg ht he hs I h fun D C H' s' m I' q hn k _ _ _ _ _ => ⟨m, hn, fun h' hs' => ⟨.ref D, H', k h' hs', rfl, q⟩⟩
def tCallF (sp : Sp) (E : St → XK) (t : TA) : TE := fun σ H Q => t σ H fun vs H1 => sp vs H1 Q (E σ)
structure CalX (P : Program) (w : World) (K : PySem.W.Frag) (mg : Str → Option Value) (base : Heap) (x : Str) (k : Nat) (ps : List Str) (sp : Sp) : Prop where
  to : ∃ (f : Addr) (fd : FuncData), mg x = some (.ref f) ∧ PySem.W.keepIn K (.ref f) = true ∧ Binds K fd ps [] ∧ FnOk P w K mg base (CX1 P w) k f fd ps sp
theorem pe_callF {X : Cx} {x : Str} {k : Nat} {ps : List Str} {sp : Sp} {E : St → XK} {e : Expr} {es : List Expr} {p pos : Pos} {t : TA} (C : CalX X.prog X.w X.K X.mg X.base x k ps sp) (hr : Room k X.A) (hg : Gl X x) (hp : PassesFl X E) (ha : PA X (e :: es) t)
    (hdb : (x == ("__debug__" : Str)) = false := by decide) (he : starEach (e :: es) X.env = (false, eval e X.env) :: starEach es X.env := by rfl) (hpl : (backTo pos (starEach es X.env)).any (·.1) = false := by rfl) :
    PE X (.Call (.Name x p) (e :: es) [] pos) (tCallF sp E t) := by
  obtain ⟨f, fd, h1, h2, h3, h4⟩ := C.to
  exact pe_callX h4 hr hg h1 h2 h3 hp.at ha hdb he hpl
theorem call_isXK {X : Cx} {K : PySem.W.Frag} (hK : X.K = K := by rfl) : CallR X (.builtin "isinstance") (fun xs H Q => ∃ a C D b, xs = [.ref a, .ref D] ∧ H a = some (excO a C) ∧ excKit K C = true ∧ PySem.W.kitOne K (.ref C) (.ref D) = some b ∧ Q (.bl b) H) := by subst hK; exact call_isX
theorem call_isXBK {X : Cx} {K : PySem.W.Frag} (hK : X.K = K := by rfl) : CallR X (.builtin "isinstance") (fun xs H Q => ∃ a C n b, xs = [.ref a, .ty n] ∧ H a = some (excO a C) ∧ excKit K C = true ∧ PySem.W.kitOne K (.ref C) (.type n) = some b ∧ Q (.bl b) H) := by subst hK; exact call_isXB
theorem call_isXTK {X : Cx} {K : PySem.W.Frag} (hK : X.K = K := by rfl) : CallR X (.builtin "isinstance") (fun xs H Q => ∃ a C t b, ∃ Ds : List Addr, xs = [.ref a, .ref t] ∧ H a = some (excO a C) ∧ H t = some (.tup (Ds.map V.ref)) ∧ excKit K C = true ∧ PySem.W.kitAny K (.ref C) (Ds.map Value.ref) = some b ∧ Q (.bl b) H) := by subst hK; exact call_isXT
end L2
set_option Elab.async false
set_option linter.all false
set_option maxRecDepth 100000
set_option maxHeartbeats 4000000
namespace L2
open PySem PySem.Spec PyProof.Rows
section
variable {X : Cx}
theorem sl_str : SlR X (fun x lo hi H Q => ∃ z, x = .str z ∧ z.length ≤ sizeLine ∧ Q (.str (Txt.slice z lo hi)) H) := by
  intro pins s σ H x v vl vu lo hi sl Q I rx hs pl pu h
  obtain ⟨z, rfl, hz, q⟩ := h
  obtain ⟨t, rfl⟩ := rx
  refine ⟨"str", _, F.slot_str_getitem.lookup, typeIs_str _ _ _, ?_⟩
  cases pl with
  | none =>
    cases pu with
    | none => exact wpAny_getItem_str_slice (l := none) (u := none) (st := none) hs rfl (post_val_or_str ⟨Nat.le_trans (Txt.slice_le z _ _) hz, fun t' k => ⟨.str _, H, I.tok _, ⟨t', rfl⟩, q⟩⟩)
    | int j uj => exact wpAny_getItem_str_slice (l := none) (u := some (j, uj)) (st := none) hs rfl (post_val_or_str ⟨Nat.le_trans (Txt.slice_le z _ _) hz, fun t' k => ⟨.str _, H, I.tok _, ⟨t', rfl⟩, q⟩⟩)
  | int i ui =>
    cases pu with
    | none => exact wpAny_getItem_str_slice (l := some (i, ui)) (u := none) (st := none) hs rfl (post_val_or_str ⟨Nat.le_trans (Txt.slice_le z _ _) hz, fun t' k => ⟨.str _, H, I.tok _, ⟨t', rfl⟩, q⟩⟩)
    | int j uj => exact wpAny_getItem_str_slice (l := some (i, ui)) (u := some (j, uj)) (st := none) hs rfl (post_val_or_str ⟨Nat.le_trans (Txt.slice_le z _ _) hz, fun t' k => ⟨.str _, H, I.tok _, ⟨t', rfl⟩, q⟩⟩)
theorem slice_len (z : Str) (lo hi : Option Int) : (Txt.slice z lo hi).length ≤ z.length := Txt.slice_le z lo hi
theorem valsBack : ∀ {xs : List V} {us : List Value}, Vals xs us → ∀ u ∈ us, ∃ z, z ∈ xs ∧ RelV z u
  | _, _, .nil => fun u hu => by cases hu
  | y :: xs, u :: us, .cons r t => fun u' hu => by
    rcases List.mem_cons.mp hu with rfl | hu
    · exact ⟨y, List.mem_cons_self, r⟩
    · obtain ⟨z, hz, rz⟩ := valsBack t u' hu
      exact ⟨z, List.mem_cons_of_mem _ hz, rz⟩
theorem any_eqN : ∀ {xs : List V} {us : List Value}, Vals xs us → (∀ z ∈ xs, z = .non ∨ ∃ a, z = .ref a) → us.any (eqU .non) = xs.any fun z => decide (z = V.non)
  | _, _, .nil, _ => rfl
  | y :: xs, u :: us, .cons r t, f => by
    rw [List.any_cons, List.any_cons, any_eqN t fun z hz => f z (List.mem_cons_of_mem _ hz)]
    have e : eqU .non u = decide (y = V.non) := by
      rcases f y List.mem_cons_self with rfl | ⟨a, rfl⟩
      · cases r; rfl
      · cases r; rfl
    rw [e]
def rNoneIn (K : PySem.W.Frag) : R2 := fun x y H Q => ∃ p xs, x = .non ∧ y = .ref p ∧ SqL K H p xs ∧ (∀ z ∈ xs, z = .non ∨ ∃ a ys, z = .ref a ∧ SqL K H a ys) ∧ Q (.bl (xs.any fun z => decide (z = V.non))) H
theorem op_in_non {k : Nat} (hr : Room k X.A) : OpR X (compareOp .In) (rNoneIn X.K) := by
  intro pins s σ H x y v u Q I rx ry h
  obtain ⟨p, xs, rfl, rfl, hq, f, q⟩ := h
  cases rx
  cases ry
  obtain ⟨its, r, pl, hz⟩ := I.list hq
  refine SeqAt.in_listAt (eqU .non) pl.isList (fun w hw => ?_) ⟨.bl _, H, I, rfl, ?_⟩
  · obtain ⟨z, hz, rz⟩ := valsBack r w (by simpa using hw)
    rcases f z hz with rfl | ⟨a, ys, rfl, ha⟩
    · cases rz
      exact SeqAt.EqAt.same _
    · cases rz
      obtain ⟨its2, r2, pl2, hz2⟩ := I.list ha
      exact SeqAt.EqAt.list_none pl2.isList (by have := hu2 (n := 0) hr; show X.A.units + 1 < cLine; omega)
  · rw [show its.toArray.any (eqU .non) = its.any (eqU .non) by simp, any_eqN r fun z hz => by
      rcases f z hz with h | ⟨a, _, h, _⟩
      · exact .inl h
      · exact .inr ⟨a, h⟩]
    exact q
theorem op_neLN {k : Nat} (hr : Room k X.A) : OpR X (compareOp .NotEq) (fun x y H Q => rAlike X.K 8 false x y H Q ∨ rNe x y H Q) := (op_neA (hu2 hr)).either op_ne
end
theorem one_in (x : Str) (c : Nat) : (!(Builtin.Str.occurrences x ⟨#[c]⟩ 0 x.length 1).isEmpty) = decide (c ∈ x.cps.toList) := StrLaws.found_one x c
end L2
set_option Elab.async false
set_option linter.all false
set_option maxRecDepth 100000
set_option maxHeartbeats 4000000
local macro_rules | `(tactic| walk_at "lc") => `(tactic| first | exact Or.inl rfl | exact Or.inr rfl)
local macro_rules | `(tactic| walk_at "nm") => `(tactic| first | assumption | exact List.not_mem_nil | (refine L2.nm1 ?_; walk_at "ne") | (refine L2.nm2 ?_ ?_ <;> walk_at "ne") | (refine L2.nm3 ?_ ?_ ?_ <;> walk_at "ne"))
local macro_rules | `(tactic| walk_at "lk") => `(tactic| first | assumption | exact L2.upd_same | (refine (L2.upd_ne ?_).trans ?_; walk_at "ne"; walk_at "lk") | (refine L2.Kp.look (by assumption) ?_ ?_; walk_at "lk"; walk_at "nm"))
local macro_rules | `(tactic| walk_at "ne") => `(tactic| first | assumption | (refine Ne.symm ?_; assumption) | (refine L2.ne_fre (by assumption) ?_; walk_at "lk") | (refine Ne.symm (L2.ne_fre (by assumption) ?_); walk_at "lk"))
local macro_rules | `(tactic| walk_at "bd") => `(tactic| first | decide | omega | (dsimp only; first | decide | omega))
local macro_rules | `(tactic| walk_at "ml") => `(tactic| first | exact Or.inr ⟨by decide, by decide⟩ | exact Or.inl ⟨by omega, by omega⟩ | exact Or.inr ⟨by omega, by omega⟩)
local macro_rules | `(tactic| walk_at "ln") => `(tactic| first | decide | (have hsz := PySem.sizeLine_eq; simp only [List.length_cons, List.length_nil, List.length_map, List.length_append] at *; omega))
local macro_rules | `(tactic| walk_at "ix") => `(tactic| first | rfl | assumption | (refine L2.atI_natc ?_; assumption))
local macro_rules | `(tactic| walk_at "vs") => `(tactic| first | exact Or.inl rfl | exact Or.inr (Or.inl rfl) | exact Or.inr (Or.inr rfl))
local macro_rules | `(tactic| walk_at "vk") => `(tactic| first | exact Or.inl rfl | exact Or.inr rfl)
local macro_rules | `(tactic| walk_at "vf") => `(tactic| first | decide +kernel | (simp only [List.mem_cons]; decide))
namespace My
open PySem L2
def top (i : Nat) : Stmt := PySem.Challenge.pw_levelbench_k26_no_plan_texts.main.body.getD i (.Pass ⟨0, 0, 0, 0⟩)
structure Txt (K : PySem.W.Frag) (mg : Str → Option Value) : Prop where
  z_len : mg "len" = none
  z_max : mg "max" = none
  z_range : mg "range" = none
  z_int : mg "int" = none
  z_str : mg "str" = none
  z_list : mg "list" = none
  z_all : mg "all" = none
  z_tuple : mg "tuple" = none
  z_isinstance : mg "isinstance" = none
  c_LONGEST_NAME : ∃ t, mg "LONGEST_NAME" = some (.int 8 t)
  c_BETWEEN_TURNS : ∃ t, mg "BETWEEN_TURNS" = some (.str " / " t)
  c_EMPTY_TURN : ∃ t, mg "EMPTY_TURN" = some (.str "-" t)
section
variable {P : Program} {w : World} {K : PySem.W.Frag} {mg : Str → Option Value} {base : Heap}
def Purse (H : Hp) (p : Addr) : Prop := ∃ a b : Int, H p = some (.lst [.int a, .int b]) ∧ 0 ≤ a ∧ 0 ≤ b ∧ b < 2147483629
theorem Purse.kp {M : List Addr} {H H' : Hp} {p : Addr} (h : Purse H p) (k : Kp M H H') (n : p ∉ M) : Purse H' p := by
  obtain ⟨a, b, e, r⟩ := h
  exact ⟨a, b, k p _ e n, r⟩
def spTake : Sp := fun vs H Q _ => ∃ (p : Addr) (m : Int), vs = [.ref p, .int m] ∧ Purse H p ∧ 1 ≤ m ∧ m < 1073741824 ∧ ∀ (d : Int) (H' : Hp), 0 ≤ d → d < m → Purse H' p → Kp [p] H H' → Q (.int d) H'
abbrev s_take : Stmt := top 31
theorem sc_take : FnScope ["_law_purse_here", "_law_many", "_law_digit"] ["_law_purse_here", "_law_many"] (defScope s_take) := ⟨rfl, rfl, rfl, by decide +kernel, rfl, by decide +kernel, by decide +kernel⟩
theorem ok_take {f : Addr} {fd : FuncData} (F : Fun K "_law_take" "_law_take" s_take f fd) : FnOk P w K mg base CX0 1 f fd ["_law_purse_here", "_law_many"] spTake := by
  refine F.ok sc_take (fun vs H Q E h => ?_) (fun cdv A outer s H vs Q E hr h => ?_)
  · obtain ⟨p, m, rfl, _⟩ := h
    rfl
  · obtain ⟨p, m, rfl, ⟨a, b, hp, ha, hb, hb'⟩, hm, hm', k⟩ := h
    refine ⟨_, (pss_cons (ps_if (pt_cmpR op_gt (pe_ix ix_list (pv 0) pe_int (fun _ _ => rfl)) pe_int (nomark _))
        (pss_cons (ps_set (i := 2) sc_take.nd rfl (by walk_at "lc") (pe_op op_mod (pe_ix ix_list (pv 0) pe_int (fun _ _ => rfl)) (pv 1)))
        (pss_cons (ps_asg (pe_op op_fdiv (pe_ix ix_list (pv 0) pe_int (fun _ _ => rfl)) (pv 1)) (pg_sub (pv 0) pe_int set_list))
        (pss_one (ps_ret (pv 2)))))
        pss_nil)
      (pss_cons (ps_asg (pe_op op_mod (pe_op op_add (pe_op op_mul (pe_ix ix_list (pv 0) pe_int (fun _ _ => rfl)) pe_int) pe_int) pe_int) (pg_sub (pv 0) pe_int set_list))
      (pss_one (ps_ret (pe_op op_mod (pe_op op_fdiv (pe_op op_mod (pe_op op_mul (pe_ix ix_list (pv 0) pe_int (fun _ _ => rfl)) (pe_ix ix_list (pv 0) pe_int (fun _ _ => rfl))) pe_int) pe_int) (pv 1)))))), ?_⟩
    refine ⟨_, rfl, _, _, _, _, rfl, rfl, SqL.of (by walk_at "lk"), (by walk_at "ix"), _, _, rfl, rfl, _, rfl, ?_⟩
    refine ite2 (fun c => ?_) (fun c => ?_)
    · have c' : 0 < a := by simpa using c
      refine ⟨_, rfl, _, _, _, _, rfl, rfl, SqL.of (by walk_at "lk"), (by walk_at "ix"), _, rfl, _, _, rfl, rfl, (by walk_at "bd"), ?_⟩
      refine ⟨_, rfl, _, _, _, _, rfl, rfl, SqL.of (by walk_at "lk"), (by walk_at "ix"), _, rfl, _, _, rfl, rfl, ⟨by walk_at "bd", by walk_at "bd"⟩, _, rfl, _, _, _, _, rfl, rfl, (by walk_at "lk"), (by walk_at "ix"), ?_⟩
      refine ⟨_, rfl, ?_⟩
      refine k _ _ (Int.emod_nonneg _ (by omega)) (Int.emod_lt_of_pos _ (by omega)) ⟨a / m, b, upd_same, Int.ediv_nonneg ha (by omega), hb, hb'⟩ (Kp.put Kp.refl (by simp))
    · refine ⟨_, rfl, _, _, _, _, rfl, rfl, SqL.of (by walk_at "lk"), (by walk_at "ix"), _, _, rfl, rfl, (by walk_at "ml"), _, _, rfl, rfl, _, _, rfl, rfl, (by walk_at "bd"), _, rfl, _, _, _, _, rfl, rfl, (by walk_at "lk"), (by walk_at "ix"), ?_⟩
      have h1 := Int.emod_nonneg (b * 39373 + 7919) (show (2147483629 : Int) ≠ 0 by decide)
      have h2 := Int.emod_lt_of_pos (b * 39373 + 7919) (show (0 : Int) < 2147483629 by decide)
      refine ⟨_, rfl, _, _, _, _, rfl, rfl, SqL.of (by walk_at "lk"), (by walk_at "ix"), _, rfl, _, _, _, _, rfl, rfl, SqL.of (by walk_at "lk"), (by walk_at "ix"), _, _, rfl, rfl, (by walk_at "ml"), _, _, rfl, rfl, (by walk_at "bd"), _, _, rfl, rfl, ⟨by walk_at "bd", by walk_at "bd"⟩, _, rfl, _, _, rfl, rfl, (by walk_at "bd"), ?_⟩
      refine k _ _ (Int.emod_nonneg _ (by omega)) (Int.emod_lt_of_pos _ (by omega)) ⟨a, _, upd_same, ha, h1, h2⟩ (Kp.put Kp.refl (by simp))
def spPurse : Sp := fun vs H Q _ => ∃ (c k : Int), vs = [.int c, .int k] ∧ -(2 ^ 31) < k ∧ k < 2 ^ 31 ∧ ∀ (p : Addr) (H' : Hp), Fre H p → Purse H' p → Kp [] H H' → Q (.ref p) H'
abbrev s_purse : Stmt := top 30
theorem sc_purse : FnScope ["_law_cell_here", "_law_k", "_law_number"] ["_law_cell_here", "_law_k"] (defScope s_purse) := ⟨rfl, rfl, rfl, by decide +kernel, rfl, by decide +kernel, by decide +kernel⟩
theorem ok_purse {f : Addr} {fd : FuncData} (F : Fun K "_law_purse" "_law_purse" s_purse f fd) (T : Txt K mg) : FnOk P w K mg base CX0 1 f fd ["_law_cell_here", "_law_k"] spPurse := by
  refine F.ok sc_purse (fun vs H Q E h => ?_) (fun cdv A outer s H vs Q E hr h => ?_)
  · obtain ⟨p, m, rfl, _⟩ := h
    rfl
  · obtain ⟨c, n, rfl, hn, hn', k⟩ := h
    refine ⟨_, (pss_cons (ps_set (i := 2) sc_purse.nd rfl (by walk_at "lc") (pe_op op_mod (pe_op op_add (pe_op op_add (pe_op op_mul (pe_op op_mod (pv 0) pe_int) pe_int) (pe_op op_mul (pe_op op_mul (pv 1) (pv 1)) pe_int)) pe_int) pe_int))
      (pss_one (ps_ret (pe_lst (pa_cons (pe_callB (call_max2 rfl) (by rfl) T.z_max bo_max (pa_cons pe_int (pa_cons (pe_op op_sub (pv 0) (pe_op op_pow pe_int pe_int)) pa_nil))) (pa_cons (pe_op op_mod (pe_op op_mul (pv 2) (pv 2)) pe_int) pa_nil)))))), ?_⟩
    refine ⟨_, rfl, _, _, rfl, rfl, (by walk_at "bd"), _, _, rfl, rfl, (by walk_at "ml"), _, rfl, _, rfl, _, _, rfl, rfl, (by walk_at "ml"), _, _, rfl, rfl, (by walk_at "ml"), _, _, rfl, rfl, _, _, rfl, rfl, _, _, rfl, rfl, (by walk_at "bd"), ?_⟩
    generalize c % 2147483629 * 48271 + n * n * 69623 + 11 = y
    have h1 := Int.emod_nonneg y (show (2147483647 : Int) ≠ 0 by decide)
    have h2 := Int.emod_lt_of_pos y (show (0 : Int) < 2147483647 by decide)
    refine ⟨_, rfl, _, _, rfl, rfl, ⟨by decide, by decide, by decide⟩, _, _, rfl, rfl, _, _, rfl, _, rfl, _, rfl, _, _, rfl, rfl, (by walk_at "ml"), _, _, rfl, rfl, (by walk_at "bd"), (by walk_at "ln"), fun p hp => ?_⟩
    refine k p _ hp ⟨_, _, upd_same, ?_, Int.emod_nonneg _ (by decide), Int.emod_lt_of_pos _ (by decide)⟩ (Kp.new Kp.refl hp)
    split <;> omega
def spCell (K : PySem.W.Frag) : Sp := fun vs H Q _ => ∃ (a : Addr) (ns : List Int) (k : Int), vs = [.ref a, .int k] ∧ SqL K H a (ns.map V.int) ∧ 0 ≤ k ∧ ∀ c : Int, Q (.int c) H
abbrev s_cell : Stmt := top 32
theorem sc_cell : FnScope ["_law_script", "_law_k"] ["_law_script", "_law_k"] (defScope s_cell) := ⟨rfl, rfl, rfl, by decide +kernel, rfl, by decide +kernel, by decide +kernel⟩
theorem ok_cell {f : Addr} {fd : FuncData} (F : Fun K "_law_cell" "_law_cell" s_cell f fd) (T : Txt K mg) : FnOk P w K mg base CX0 1 f fd ["_law_script", "_law_k"] (spCell K) := by
  refine F.ok sc_cell (fun vs H Q E h => ?_) (fun cdv A outer s H vs Q E hr h => ?_)
  · obtain ⟨p, m, n, rfl, _⟩ := h
    rfl
  · obtain ⟨a, ns, n, rfl, hS, hn, k⟩ := h
    refine ⟨_, (pss_one (ps_ret (pe_ifExp (pt_cmpR op_lt (pv 1) (pe_callB call_len_seq (by rfl) T.z_len bo_len (pa_cons (pv 0) pa_nil)) (nomark _)) (pe_ix ix_list (pv 0) (pv 1) (fun _ _ => rfl)) pe_int))), ?_⟩
    refine ⟨_, rfl, _, rfl, _, _, rfl, .inl hS, _, _, rfl, rfl, _, rfl, ?_⟩
    refine ite2 (fun c => ?_) (fun c => ?_)
    · have c' : n < ns.length := by simpa using c
      have hx : (ns.map V.int)[n.toNat]? = some (V.int (ns[n.toNat]'(by omega))) := by simp
      refine ⟨_, rfl, _, rfl, _, _, _, _, rfl, rfl, hS, atI_at hn hx, k _⟩
    · exact k _
end
end My
set_option Elab.async false
set_option linter.all false
set_option maxRecDepth 100000
set_option maxHeartbeats 4000000
namespace My
open PySem L2
def NameS (s : Str) : Prop := 1 ≤ s.length ∧ s.length ≤ 8 ∧ ∀ c ∈ s.cps.toList, 97 ≤ c ∧ c ≤ 122
def WordS (n : Nat) (s : Str) : Prop := s.length = n ∧ ∀ c ∈ s.cps.toList, 97 ≤ c ∧ c ≤ 122
theorem len_app (a b : Str) : (a ++ b).length = a.length + b.length := by
  show (a ++ b).cps.size = _
  rw [Str.cps_append, Array.size_append]; rfl
theorem WordS.more {n : Nat} {s : Str} (h : WordS n s) {c : Nat} (h1 : 97 ≤ c) (h2 : c ≤ 122) : WordS (n + 1) (s ++ ⟨#[c]⟩) := by
  refine ⟨by rw [len_app, h.1]; rfl, fun x hx => ?_⟩
  rw [Str.cps_append, Array.toList_append] at hx
  rcases List.mem_append.mp hx with z | z
  · exact h.2 x z
  · have : x = c := by simpa using z
    omega
def PlanOk (rs : List (List Str)) : Prop := rs.length ≤ 40 ∧ ∀ r ∈ rs, r.length ≤ 6 ∧ ∀ s ∈ r, NameS s
def letters : Str := "abcdefghijklmnopqrstuvwxyz"
theorem letters_list : letters.cps.toList = (List.range 26).map (97 + ·) := by decide +kernel
theorem letters_at {d : Int} (h0 : 0 ≤ d) (h1 : d < 26) : atI letters.cps.toList d = some (97 + d.toNat) := by
  refine atI_at h0 ?_
  have : d.toNat < 26 := by omega
  rw [letters_list, List.getElem?_map, List.getElem?_range this]
  rfl
structure RowsAt (H0 H : Hp) (l : Addr) (as : List Addr) (rs : List (List Str)) : Prop where
  top : H l = some (.lst (as.map V.ref))
  len : as.length = rs.length
  row : ∀ (i : Nat) (a : Addr) (r : List Str), as[i]? = some a → rs[i]? = some r → H a = some (.lst (r.map V.str))
  ne : ∀ a ∈ as, a ≠ l
  fr : Fre H0 l
  frs : ∀ a ∈ as, Fre H0 a
theorem RowsAt.mem {H0 H : Hp} {l : Addr} {as : List Addr} {rs : List (List Str)} (R : RowsAt H0 H l as rs) {a : Addr} (h : a ∈ as) : ∃ r, r ∈ rs ∧ H a = some (.lst (r.map V.str)) := by
  obtain ⟨i, hi, rfl⟩ := List.mem_iff_getElem.mp h
  have hi' : i < rs.length := by rw [← R.len]; exact hi
  exact ⟨rs[i], List.getElem_mem hi', R.row i _ _ (by simp) (by simp)⟩
theorem RowsAt.kp {M : List Addr} {H0 H H' : Hp} {l : Addr} {as : List Addr} {rs : List (List Str)} (R : RowsAt H0 H l as rs) (k : Kp M H H') (h1 : l ∉ M) (h2 : ∀ a ∈ as, a ∉ M) : RowsAt H0 H' l as rs :=
  ⟨k l _ R.top h1, R.len, fun i a r e1 e2 => k a _ (R.row i a r e1 e2) (h2 a (List.mem_of_getElem? e1)), R.ne, R.fr, R.frs⟩
theorem RowsAt.nil {H0 H : Hp} {l : Addr} (h : H l = some (.lst [])) (f : Fre H0 l) : RowsAt H0 H l [] [] :=
  ⟨h, rfl, (fun i a r e => by simp at e), (fun a h => by simp at h), f, (fun a h => by simp at h)⟩
theorem RowsAt.more {H0 H : Hp} {l b : Addr} {as : List Addr} {rs : List (List Str)} {r : List Str} (R : RowsAt H0 H l as rs) (hb : H b = some (.lst (r.map V.str))) (n : b ≠ l) (f : Fre H0 b) : RowsAt H0 (upd H l (.lst (as.map V.ref ++ [.ref b]))) l (as ++ [b]) (rs ++ [r]) := by
  refine ⟨by rw [upd_same]; simp, by simp [R.len], fun i a q e1 e2 => ?_, fun a h => ?_, R.fr, fun a h => ?_⟩
  · by_cases hi : i < as.length
    · rw [List.getElem?_append_left hi] at e1
      rw [List.getElem?_append_left (by rw [← R.len]; exact hi)] at e2
      rw [upd_ne (R.ne a (List.mem_of_getElem? e1))]
      exact R.row i a q e1 e2
    · rw [List.getElem?_append_right (by omega)] at e1
      rw [List.getElem?_append_right (by rw [← R.len]; omega)] at e2
      have hl := R.len
      have h0 : i - as.length = 0 := by
        have := (List.getElem?_eq_some_iff.mp e1).1
        simp at this; omega
      rw [h0] at e1
      rw [← hl, h0] at e2
      have e1 : b = a := by simpa using e1
      have e2 : r = q := by simpa using e2
      subst e1 e2
      rw [upd_ne n]; exact hb
  · rcases List.mem_append.mp h with z | z
    · exact R.ne a z
    · have : a = b := by simpa using z
      subst this; exact n
  · rcases List.mem_append.mp h with z | z
    · exact R.frs a z
    · have : a = b := by simpa using z
      subst this; exact f
end My
set_option Elab.async false
set_option linter.all false
set_option maxRecDepth 100000
set_option maxHeartbeats 4000000
namespace My
open PySem L2
theorem one_sign_le (a c : Nat) : (!(decide (([c] : List Nat) < [a]))) = decide (a ≤ c) := by
  have : (([c] : List Nat) < [a]) ↔ c < a := by
    constructor
    · intro h
      cases h with
      | rel h => exact h
      | cons h => cases h
    · intro h
      exact List.Lex.rel h
  by_cases h : c < a
  · rw [decide_eq_true (this.mpr h), decide_eq_false (by omega)]; rfl
  · rw [decide_eq_false (fun z => h (this.mp z)), decide_eq_true (by omega)]; rfl
section
variable {P : Program} {w : World} {K : PySem.W.Frag} {mg : Str → Option Value} {base : Heap}
def nameB (s : Str) : Bool := decide (1 ≤ s.length) && decide (s.length ≤ 8) && s.cps.toList.all fun c => decide (97 ≤ c) && decide (c ≤ 122)
theorem nameB_iff (s : Str) : nameB s = true ↔ NameS s := by
  unfold nameB NameS
  simp only [Bool.and_eq_true, decide_eq_true_eq, List.all_eq_true]
  exact ⟨fun ⟨⟨a, b⟩, c⟩ => ⟨a, b, c⟩, fun ⟨a, b, c⟩ => ⟨⟨a, b⟩, c⟩⟩
def spIsName : Sp := fun vs H Q _ => ∃ (x : Str), vs = [.str x] ∧ x.length ≤ 1000000 ∧ ∀ H', Kp [] H H' → Q (.bl (nameB x)) H'
abbrev s_is_name : Stmt := top 21
theorem sc_is_name : FnScope ["thing"] ["thing"] (defScope s_is_name) := ⟨rfl, rfl, rfl, by decide +kernel, rfl, by decide +kernel, by decide +kernel⟩
theorem ok_is_name {f : Addr} {fd : FuncData} (F : Fun K "is_name" "is_name" s_is_name f fd) (T : Txt K mg) : FnOk P w K mg base CX0 1 f fd ["thing"] spIsName := by
  refine F.ok sc_is_name (fun vs H Q E h => ?_) (fun cdv A outer s H vs Q E hr h => ?_)
  · obtain ⟨x, rfl, _⟩ := h
    rfl
  · obtain ⟨x, rfl, hx, k⟩ := h
    obtain ⟨tL, hL⟩ := T.c_LONGEST_NAME
    refine ⟨_, (pss_cons (ps_if (PW.pt (pw_or (pt_not (pt_val (pe_callB call_isT (by rfl) T.z_isinstance bo_isinstance (pa_cons (pv 0) (pa_cons (pe_bltn (by rfl) T.z_str bo_str (v := .ty "str") rfl) pa_nil))))) (pw_or1 (pt_not (pt_chain op_le op_le pe_int (pe_callB call_len_str (by rfl) T.z_len bo_len (pa_cons (pv 0) pa_nil)) (pe_glob rfl hL (v := .int 8) ⟨_, rfl⟩))))))
        (pss_one (ps_ret pe_bl))
        pss_nil)
      (pss_one (ps_ret (pe_callB (call_all _ rfl) (by rfl) T.z_all bo_all (pa_cons (pe_comp rfl (blk_mk (sc := defScope s_is_name) rfl (by decide +kernel)) (Draws.own (x := "sign") Draws.nil) (pi_str (pv 0)) (fun C s₀ H₀ ex => (pg_name (i := 0) (show List.Nodup (["sign"] : List Str) by decide +kernel) rfl (by walk_at "lc"))) (fun C s₀ H₀ ex => pts_nil) (fun C s₀ H₀ ex => (pe_chain op_le_str op_le_str pe_str (pv 0) pe_str))) pa_nil))))), ?_⟩
    refine ⟨_, rfl, _, _, _, _, rfl, TyOf.str x, kit_same, _, rfl, iteF ?_⟩
    refine ⟨_, rfl, _, rfl, ?_, _, _, rfl, rfl, _, rfl, ?_⟩
    · rw [sizeLine_eq]; omega
    refine ite2 (fun c => ?_) (fun c => ?_)
    · have c1 : 1 ≤ x.length := by
        have := of_decide_eq_true c
        omega
      refine ⟨_, _, rfl, rfl, _, rfl, ?_⟩
      refine ite2 (fun c => ?_) (fun c => ?_)
      · -- too long
        have c2 : ¬ (x.length ≤ 8) := fun z => by
          have : decide ((x.length : Int) ≤ 8) = true := decide_eq_true (by omega)
          rw [this] at c; cases c
        have e : nameB x = false := by
          unfold nameB
          rw [decide_eq_false c2]; simp
        rw [← e]; exact k H Kp.refl
      · have c2 : x.length ≤ 8 := by
          by_cases z : (x.length : Int) ≤ 8
          · omega
          · rw [decide_eq_false z] at c; exact absurd rfl c
        refine ⟨_, rfl, _, rfl, fun D hD => comp_str0 (z := x) (fun i ys τ H' => (∃ o0, τ = [o0]) ∧ ys = ((x.cps.toList.take i).map fun c => V.bl (decide (97 ≤ c) && decide (c ≤ 122))) ∧ H' = upd H D (.lst ys)) ⟨⟨_, rfl⟩, rfl, rfl⟩ ?_ ?_⟩
        · rintro i c ys τ H' hc ⟨⟨o0, rfl⟩, rfl, rfl⟩
          have ei : x.cps.toList.take (i + 1) = x.cps.toList.take i ++ [c] := by rw [List.take_succ, hc]; rfl
          have hi : i < x.cps.toList.length := (List.getElem?_eq_some_iff.mp hc).1
          have hlen : x.cps.toList.length = x.length := by simp [Str.length]
          have fin : ∀ b : Bool, b = (decide (97 ≤ c) && decide (c ≤ 122)) → (upd H D (.lst ((x.cps.toList.take i).map fun c => V.bl (decide (97 ≤ c) && decide (c ≤ 122))))) D = some (.lst ((x.cps.toList.take i).map fun c => V.bl (decide (97 ≤ c) && decide (c ≤ 122)))) ∧ ((x.cps.toList.take i).map fun c => V.bl (decide (97 ≤ c) && decide (c ≤ 122))).length < sizeLine ∧
              ((∃ o0, ([some (V.str ⟨#[c]⟩)] : St) = [o0]) ∧ ((x.cps.toList.take i).map fun c => V.bl (decide (97 ≤ c) && decide (c ≤ 122))) ++ [V.bl b] = ((x.cps.toList.take (i + 1)).map fun c => V.bl (decide (97 ≤ c) && decide (c ≤ 122))) ∧
              upd (upd H D (.lst ((x.cps.toList.take i).map fun c => V.bl (decide (97 ≤ c) && decide (c ≤ 122))))) D (.lst (((x.cps.toList.take i).map fun c => V.bl (decide (97 ≤ c) && decide (c ≤ 122))) ++ [V.bl b])) = upd H D (.lst (((x.cps.toList.take i).map fun c => V.bl (decide (97 ≤ c) && decide (c ≤ 122))) ++ [V.bl b]))) := fun b hb => by
            refine ⟨upd_same, ?_, ⟨_, rfl⟩, ?_, upd_upd⟩
            · rw [List.length_map, List.length_take, sizeLine_eq]; omega
            · rw [ei, List.map_append, hb]; rfl
          refine ⟨_, rfl, _, _, rfl, rfl, _, rfl, ?_⟩
          refine ite2 (fun c1 => ?_) (fun c1 => ?_)
          · refine ⟨_, _, rfl, rfl, fin _ ?_⟩
            have c1 : (!(decide (([c] : List Nat) < [97]))) = true := c1
            rw [one_sign_le] at c1
            show (!(decide (([122] : List Nat) < [c]))) = _
            rw [one_sign_le, c1]; rfl
          · refine fin _ ?_
            have c1 : ¬ (!(decide (([c] : List Nat) < [97]))) = true := c1
            rw [one_sign_le] at c1
            rw [Bool.not_eq_true] at c1
            rw [c1]; rfl
        · rintro ys τ H' ⟨⟨o0, rfl⟩, rfl, rfl⟩
          have hlen : x.cps.toList.take x.length = x.cps.toList := List.take_of_length_le (by simp [Str.length])
          refine ⟨D, x.cps.toList.map (fun c => decide (97 ≤ c) && decide (c ≤ 122)), rfl, SqL.of ?_, ?_⟩
          · rw [upd_same, hlen, List.map_map]; rfl
          · have e : ((x.cps.toList.map (fun c => decide (97 ≤ c) && decide (c ≤ 122))).all id) = nameB x := by
              unfold nameB
              rw [decide_eq_true c1, decide_eq_true c2, List.all_map]; rfl
            rw [e]
            exact k _ (Kp.new Kp.refl hD)
    · -- empty
      have c1 : ¬ (1 ≤ x.length) := fun z => c (decide_eq_true (by omega))
      refine ⟨_, rfl, ?_⟩
      refine iteT ?_
      have e : nameB x = false := by
        unfold nameB
        rw [decide_eq_false c1]; simp
      rw [← e]; exact k H Kp.refl
end
end My
set_option Elab.async false
set_option linter.all false
set_option maxRecDepth 100000
set_option maxHeartbeats 4000000
namespace My
open PySem L2
section
variable {P : Program} {w : World} {K : PySem.W.Frag} {mg : Str → Option Value} {base : Heap}
structure NT (K : PySem.W.Frag) (mg : Str → Option Value) (C : Addr) : Prop where
  mgC : mg "NoText" = some (.ref C)
  ok : PySem.W.excIn K C bmVE "ValueError.__new__" = true
theorem split_len {x sep z : Str} (h : z ∈ Txt.split x sep) : z.length ≤ x.length := by
  unfold Txt.split at h
  split at h
  · rw [List.mem_singleton.mp h]; exact Nat.le_refl _
  · split at h
    · rw [List.mem_singleton.mp h]; exact Nat.le_refl _
    · unfold Builtin.Str.partsBetween at h
      obtain ⟨⟨i, j⟩, _, rfl⟩ := List.mem_map.mp h
      show (x.cps.extract i j).size ≤ x.cps.size
      rw [Array.size_extract]; omega
def turnB (x : Str) : Option (List Str) := if x = "-" then some [] else if (Txt.split x " ").all nameB = true then some (Txt.split x " ") else none
def spReadNames (C : Addr) : Sp := fun vs H Q E => ∃ (x sep : Str), vs = [.str x, .str sep] ∧ 1 ≤ sep.length ∧ x.length ≤ 100000 ∧
  (((Txt.split x sep).all nameB = true ∧ ∀ (a : Addr) (H' : Hp), Fre H a → H' a = some (.lst ((Txt.split x sep).map V.str)) → Kp [] H H' → Q (.ref a) H') ∨ ((Txt.split x sep).all nameB = false ∧ ∀ H', Kp [] H H' → E (.ref C) none H'))
abbrev s_read_names : Stmt := top 23
theorem sc_read_names : FnScope ["part", "between", "words", "word"] ["part", "between"] (defScope s_read_names) := ⟨rfl, rfl, rfl, by decide +kernel, rfl, by decide +kernel, by decide +kernel⟩
theorem ok_read_names {f C : Addr} {fd : FuncData} (F : Fun K "read_names" "read_names" s_read_names f fd) (T : Txt K mg) (U : NT K mg C) (C_is_name : Cal P w K mg base "is_name" 1 ["thing"] spIsName) : FnOk P w K mg base (CX1 P w) 2 f fd ["part", "between"] (spReadNames C) := by
  refine Fun.okX F sc_read_names (fun vs H Q E h => ?_) (fun cdv A outer s H vs Q E hr h => ?_)
  · obtain ⟨x, r, rfl, _⟩ := h
    rfl
  · obtain ⟨x, sep, rfl, hs, hx, k⟩ := h
    refine ⟨_, (pss_cons (ps_set (i := 2) sc_read_names.nd rfl (by walk_at "lc") (pe_bm PySem.F.plainAttrs_str PySem.F.slot_str_split PySem.F.type_str_split mt_split (pv 0) (pa_cons (pv 1) pa_nil)))
      (pss_cons (ps_for PassesOwn.leaving rfl (pi_list (pv 2)) (pg_name (i := 3) sc_read_names.nd rfl (by walk_at "lc"))
        (pss_one (ps_if (pt_not (pt_val (pe_callC C_is_name hr rfl (pa_cons (pv 3) pa_nil))))
          (pss_one (ps_raise raise1 rfl rfl U.mgC U.ok (pa_cons pe_str pa_nil)))
          pss_nil)))
      (pss_one (ps_ret (pv 2))))), ?_⟩
    refine ⟨_, rfl, rfl, _, rfl, _, _, rfl, rfl, hs, by omega, fun l hl => ?_⟩
    refine ⟨_, rfl, _, rfl, ⟨_, SqL.of upd_same⟩, for_list (xs := (Txt.split x sep).map V.str) (fun i σ H' => (∃ o2, σ = [some (.str x), some (.str sep), some (.ref l), o2]) ∧ Kp [] (upd H l (.lst ((Txt.split x sep).map V.str))) H' ∧ ((Txt.split x sep).take i).all nameB = true) ⟨⟨_, rfl⟩, Kp.refl, rfl⟩ ?_ ?_ ?_⟩
    · rintro i σ H' _ ⟨_, K1, _⟩
      exact SqL.of (K1 l _ upd_same (by simp))
    · rintro i y σ H' hy ⟨⟨o2, rfl⟩, K1, al⟩
      rw [List.getElem?_map] at hy
      cases e : (Txt.split x sep)[i]? with
      | none => rw [e] at hy; cases hy
      | some z =>
        rw [e] at hy
        cases hy
        have hz := split_len (List.mem_of_getElem? e)
        refine ⟨_, rfl, z, rfl, by omega, fun H'' K2 => ⟨_, rfl, ?_⟩⟩
        cases hb : nameB z with
        | true =>
          refine iteF ⟨⟨_, rfl⟩, K1.trans K2, ?_⟩
          rw [List.take_succ, e, List.all_append, al]
          simp [hb]
        | false =>
          refine iteT ⟨by show (1 : Nat) ≤ sizeLine; decide, ?_⟩
          have bad : (Txt.split x sep).all nameB = false := by
            rw [Bool.eq_false_iff]
            intro q
            rw [List.all_eq_true] at q
            rw [q z (List.mem_of_getElem? e)] at hb
            cases hb
          rcases k with ⟨q, _⟩ | ⟨_, k⟩
          · rw [bad] at q; cases q
          · exact k _ (Kp.trans (Kp.new Kp.refl hl) (K1.trans K2))
    · rintro σ H' ⟨⟨o2, rfl⟩, K1, al⟩
      rw [List.length_map, List.take_length] at al
      refine ⟨_, rfl, ?_⟩
      rcases k with ⟨_, k⟩ | ⟨q, _⟩
      · exact k l H' hl (K1 l _ upd_same (by simp)) (Kp.trans (Kp.new Kp.refl hl) K1)
      · rw [al] at q; cases q
def spReadTurn (C : Addr) : Sp := fun vs H Q E => ∃ (x : Str), vs = [.str x] ∧ x.length ≤ 100000 ∧
  ((∃ r, turnB x = some r ∧ ∀ (a : Addr) (H' : Hp), Fre H a → H' a = some (.lst (r.map V.str)) → Kp [] H H' → Q (.ref a) H') ∨ (turnB x = none ∧ ∀ H', Kp [] H H' → E (.ref C) none H'))
abbrev s_read_turn : Stmt := top 28
theorem sc_read_turn : FnScope ["part"] ["part"] (defScope s_read_turn) := ⟨rfl, rfl, rfl, by decide +kernel, rfl, by decide +kernel, by decide +kernel⟩
theorem ok_read_turn {f C : Addr} {fd : FuncData} (F : Fun K "read_turn" "read_turn" s_read_turn f fd) (T : Txt K mg) (C_read_names : CalX P w K mg base "read_names" 2 ["part", "between"] (spReadNames C)) : FnOk P w K mg base (CX1 P w) 3 f fd ["part"] (spReadTurn C) := by
  refine Fun.okX F sc_read_turn (fun vs H Q E h => ?_) (fun cdv A outer s H vs Q E hr h => ?_)
  · obtain ⟨x, rfl, _⟩ := h
    rfl
  · obtain ⟨x, rfl, hx, k⟩ := h
    obtain ⟨tE, hE⟩ := T.c_EMPTY_TURN
    refine ⟨_, (pss_cons (ps_if (pt_cmpR op_eq (pv 0) (pe_glob rfl hE (v := .str "-") ⟨_, rfl⟩) (nomark _))
        (pss_one (ps_ret (pe_lst pa_nil)))
        pss_nil)
      (pss_one (ps_ret (pe_callF (E := fun _ => E) C_read_names hr rfl (passF fun _ _ _ _ h => h) (pa_cons (pv 0) (pa_cons pe_str pa_nil)))))), ?_⟩
    refine ⟨_, rfl, rfl, _, rfl, ?_⟩
    refine ite2 (fun c => ?_) (fun c => ?_)
    · have e : x = "-" := by
        have := of_decide_eq_true c
        injection this
      have eb : turnB x = some [] := by unfold turnB; rw [if_pos e]
      refine ⟨(by walk_at "ln"), fun l hl => ?_⟩
      rcases k with ⟨r, er, k⟩ | ⟨er, _⟩
      · rw [eb] at er; cases er
        exact k l _ hl upd_same (Kp.new Kp.refl hl)
      · rw [eb] at er; cases er
    · have e : ¬ x = "-" := fun z => c (by rw [z]; decide)
      have eb : turnB x = if (Txt.split x " ").all nameB = true then some (Txt.split x " ") else none := by unfold turnB; rw [if_neg e]
      refine ⟨_, rfl, x, " ", rfl, by decide, hx, ?_⟩
      cases hb : (Txt.split x " ").all nameB with
      | true =>
        rw [hb, if_pos rfl] at eb
        rcases k with ⟨r, er, k⟩ | ⟨er, _⟩
        · rw [eb] at er; cases er
          exact .inl ⟨rfl, k⟩
        · rw [eb] at er; cases er
      | false =>
        rw [hb, if_neg (by simp)] at eb
        rcases k with ⟨r, er, k⟩ | ⟨_, k⟩
        · rw [eb] at er; cases er
        · exact .inr ⟨rfl, k⟩
end
end My
set_option Elab.async false
set_option linter.all false
set_option maxRecDepth 100000
set_option maxHeartbeats 4000000
namespace My
open PySem L2
section
variable {P : Program} {w : World} {K : PySem.W.Frag} {mg : Str → Option Value} {base : Heap}
theorem split_many (x sep : Str) : (Txt.split x sep).length ≤ x.length + 2 := PyProof.Rows.split_le x sep
def planB (x : Str) : Option (List (List Str)) := if x = "" then some [] else if (Txt.split x " / ").all (fun y => (turnB y).isSome) = true then some ((Txt.split x " / ").map fun y => (turnB y).getD []) else none
def spReadPlan (K : PySem.W.Frag) (C : Addr) : Sp := fun vs H Q E => ∃ v, vs = [v] ∧ ((∃ x : Str, v = .str x ∧ x.length ≤ 100000 ∧
    ((∃ rs, planB x = some rs ∧ ∀ (l : Addr) (as : List Addr) (H' : Hp), RowsAt H H' l as rs → Kp [] H H' → Q (.ref l) H') ∨ (planB x = none ∧ ∀ H', Kp [] H H' → E (.ref C) none H'))) ∨
  (∃ t, TyOf K H v t ∧ PySem.W.kitOne K t (.type "str") = some false ∧ ∀ H', Kp [] H H' → E (.ref C) none H'))
abbrev s_read_plan : Stmt := top 27
theorem sc_read_plan : FnScope ["text"] ["text"] (defScope s_read_plan) := ⟨rfl, rfl, rfl, by decide +kernel, rfl, by decide +kernel, by decide +kernel⟩
theorem ok_read_plan {f C : Addr} {fd : FuncData} (F : Fun K "read_plan" "read_plan" s_read_plan f fd) (T : Txt K mg) (U : NT K mg C) (C_read_turn : CalX P w K mg base "read_turn" 3 ["part"] (spReadTurn C)) : FnOk P w K mg base (CX1 P w) 4 f fd ["text"] (spReadPlan K C) := by
  refine Fun.okX F sc_read_plan (fun vs H Q E h => ?_) (fun cdv A outer s H vs Q E hr h => ?_)
  · obtain ⟨v, rfl, _⟩ := h
    rfl
  · obtain ⟨v, rfl, k⟩ := h
    obtain ⟨tB, hB⟩ := T.c_BETWEEN_TURNS
    refine ⟨_, (pss_cons (ps_if (pt_not (pt_val (pe_callB call_isT (by rfl) T.z_isinstance bo_isinstance (pa_cons (pv 0) (pa_cons (pe_bltn (by rfl) T.z_str bo_str (v := .ty "str") rfl) pa_nil)))))
        (pss_one (ps_raise raise1 rfl rfl U.mgC U.ok (pa_cons pe_str pa_nil)))
        pss_nil)
      (pss_cons (ps_if (pt_cmpR op_eq (pv 0) pe_str (nomark _))
        (pss_one (ps_ret (pe_lst pa_nil)))
        pss_nil)
      (pss_one (ps_ret (pe_compX (E := E) (passF fun _ _ _ _ h => h) rfl rfl rfl rfl (blk_mk (sc := defScope s_read_plan) rfl (by decide +kernel)) (Draws.own (x := "part") Draws.nil) (pi_list (pe_bm PySem.F.plainAttrs_str PySem.F.slot_str_split PySem.F.type_str_split mt_split (pv 0) (pa_cons (pe_glob rfl hB (v := .str " / ") ⟨_, rfl⟩) pa_nil))) (fun C s₀ H₀ ex ξ => (pg_name (i := 0) (show List.Nodup (["part"] : List Str) by decide +kernel) rfl (by walk_at "lc"))) (fun C s₀ H₀ ex ξ _ => pts_nil) (fun C s₀ H₀ ex ξ p => (pe_callF (E := fun _ => E) C_read_turn hr rfl p (pa_cons (pv 0) pa_nil)))))))), ?_⟩
    rcases k with ⟨x, rfl, hx, k⟩ | ⟨t, ty, kt, k⟩
    rotate_left
    · refine ⟨_, rfl, _, _, _, _, rfl, ty, kt, _, rfl, iteT ?_⟩
      exact ⟨by show (1 : Nat) ≤ sizeLine; decide, k H Kp.refl⟩
    refine ⟨_, rfl, _, _, _, _, rfl, TyOf.str _, kit_same, _, rfl, iteF ?_⟩
    refine ⟨_, rfl, rfl, _, rfl, ?_⟩
    refine ite2 (fun c => ?_) (fun c => ?_)
    · have e : x = "" := by
        have := of_decide_eq_true c
        injection this
      have eb : planB x = some [] := by unfold planB; rw [if_pos e]
      refine ⟨(by walk_at "ln"), fun l hl => ?_⟩
      rcases k with ⟨r, er, k⟩ | ⟨er, _⟩
      · rw [eb] at er; cases er
        exact k l [] _ (RowsAt.nil upd_same hl) (Kp.new Kp.refl hl)
      · rw [eb] at er; cases er
    · have e : ¬ x = "" := fun z => c (by rw [z]; decide)
      have eb : planB x = if (Txt.split x " / ").all (fun y => (turnB y).isSome) = true then some ((Txt.split x " / ").map fun y => (turnB y).getD []) else none := by unfold planB; rw [if_neg e]
      refine ⟨_, rfl, rfl, _, _, rfl, rfl, (by decide), by omega, fun p hp => ?_⟩
      have fp : Fre H p := hp
      refine ⟨_, rfl, ⟨_, SqL.of upd_same⟩, fun D hD => ?_⟩
      have fD : Fre (upd H p (.lst ((Txt.split x " / ").map V.str))) D := hD
      have npD : p ≠ D := ne_fre fD upd_same
      have many : (Txt.split x " / ").length ≤ 100002 := Nat.le_trans (split_many x " / ") (by omega)
      generalize hps : Txt.split x " / " = ps at *
      refine comp_list0 (ps.map V.str) (fun i ys τ H' => (∃ o0, τ = [o0]) ∧ ∃ as, ys = as.map V.ref ∧ RowsAt H H' D as ((ps.take i).map fun y => (turnB y).getD []) ∧ (ps.take i).all (fun y => (turnB y).isSome) = true ∧ H' p = some (.lst (ps.map V.str)) ∧ Kp [] H H') ?_ ?_ ?_ ?_
      · have fD' : Fre H D := Kp.fre (M := []) (Kp.new Kp.refl fp) fD (by simp)
        exact ⟨⟨_, rfl⟩, [], rfl, RowsAt.nil upd_same fD', rfl, by rw [upd_ne npD]; exact upd_same, Kp.new (Kp.new Kp.refl fp) fD'⟩
      · rintro i ys τ H' ⟨_, as, rfl, R, al, h1, K1⟩
        exact SqL.of h1
      · rintro i y ys τ H' hy ⟨⟨o0, rfl⟩, as, rfl, R, al, h1, K1⟩
        rw [List.getElem?_map] at hy
        cases e2 : ps[i]? with
        | none => rw [e2] at hy; cases hy
        | some z =>
          rw [e2] at hy
          cases hy
          have hz : z.length ≤ x.length := split_len (sep := " / ") (by rw [hps]; exact List.mem_of_getElem? e2)
          refine ⟨_, rfl, z, rfl, by omega, ?_⟩
          cases hb : turnB z with
          | some r =>
            refine .inl ⟨r, rfl, fun a H'' fa ha K2 => ?_⟩
            have R2 : RowsAt H H'' D as ((ps.take i).map fun y => (turnB y).getD []) := R.kp K2 (by simp) (fun _ _ => by simp)
            have naD : a ≠ D := (ne_fre fa R.top).symm
            refine ⟨R2.top, ?_, ⟨_, rfl⟩, as ++ [a], by simp, ?_, ?_, ?_, ?_⟩
            · have h3 := R.len
              rw [List.length_map, h3, List.length_map, List.length_take, sizeLine_eq]; omega
            · rw [List.take_succ, e2, List.map_append]
              have := R2.more ha naD (K1.fre fa (by simp))
              simpa [hb] using this
            · rw [List.take_succ, e2, List.all_append, al]
              simp [hb]
            · rw [upd_ne npD]
              exact K2 p _ h1 (by simp)
            · exact Kp.new (K1.trans K2) R.fr
          | none =>
            refine .inr ⟨rfl, fun H'' K2 => ?_⟩
            have bad : ps.all (fun y => (turnB y).isSome) = false := by
              rw [Bool.eq_false_iff]
              intro q
              rw [List.all_eq_true] at q
              have := q z (List.mem_of_getElem? e2)
              rw [hb] at this
              cases this
            rw [bad, if_neg (by simp)] at eb
            rcases k with ⟨rs, er, _⟩ | ⟨_, k⟩
            · rw [eb] at er; cases er
            · exact k _ (K1.trans K2)
      · rintro ys τ H' ⟨_, as, rfl, R, al, h1, K1⟩
        rw [List.length_map, List.take_length] at R al
        rw [al, if_pos rfl] at eb
        rcases k with ⟨rs, er, k⟩ | ⟨er, _⟩
        · rw [eb] at er; cases er
          exact k D as H' R K1
        · rw [eb] at er; cases er
end
end My
set_option Elab.async false
set_option linter.all false
set_option maxRecDepth 100000
set_option maxHeartbeats 4000000
namespace My
open PySem L2
section
variable {P : Program} {w : World} {K : PySem.W.Frag} {mg : Str → Option Value} {base : Heap}
structure ErrT (K : PySem.W.Frag) (mg : Str → Option Value) (C Cb : Addr) (D1 D2 : Nat → Addr) : Prop where
  nt : NT K mg C
  be : mg "BenchError" = some (.ref Cb)
  beok : PySem.W.excIn K Cb bmVE "ValueError.__new__" = true
  sub : (mroK K C).contains (.ref Cb) = true
  kit : excKit K C = true
  n0 : mg "NoBench" = some (.ref (D1 0))
  n1 : mg "NoEnd" = some (.ref (D1 1))
  n2 : mg "NoJob" = some (.ref (D1 2))
  n3 : mg "NoLength" = some (.ref (D1 3))
  n4 : mg "NoLine" = some (.ref (D1 4))
  n5 : mg "NoName" = some (.ref (D1 5))
  n6 : mg "NoPaper" = some (.ref (D1 6))
  n7 : mg "NoRow" = some (.ref (D1 7))
  n8 : mg "NoTurns" = some (.ref (D1 8))
  n9 : mg "NoWindow" = some (.ref (D1 9))
  m0 : mg "NoWood" = some (.ref (D2 0))
  m1 : mg "Ring" = some (.ref (D2 1))
  m2 : mg "Stranger" = some (.ref (D2 2))
  m3 : mg "TooMany" = some (.ref (D2 3))
  m4 : mg "Twice" = some (.ref (D2 4))
  a1 : PySem.W.kitAny K (.ref C) ([D1 0, D1 1, D1 2, D1 3, D1 4, D1 5, D1 6, D1 7, D1 8, D1 9].map Value.ref) = some false
  a2 : PySem.W.kitAny K (.ref C) ([D2 0, D2 1, D2 2, D2 3, D2 4].map Value.ref) = some false
  av : PySem.W.kitOne K (.ref C) (.type "ValueError") = some true
  zv : mg "ValueError" = none
theorem bo_VE : bootBuiltins "ValueError" = some (.type "ValueError") := by decide +kernel
def spLRead (K : PySem.W.Frag) : Sp := fun vs H Q _ => ∃ v, vs = [v] ∧ ((∃ x : Str, v = .str x ∧ x.length ≤ 100000 ∧
    ((∃ rs, planB x = some rs ∧ ∀ (l : Addr) (as : List Addr) (H' : Hp), RowsAt H H' l as rs → Kp [] H H' → Q (.ref l) H') ∨ (planB x = none ∧ ∀ H', Kp [] H H' → Q .non H'))) ∨
  (∃ t, TyOf K H v t ∧ PySem.W.kitOne K t (.type "str") = some false ∧ ∀ H', Kp [] H H' → Q .non H'))
abbrev s_read : Stmt := top 38
theorem sc_read : FnScope ["_law_text_here", "_law_found", "e", "_law_others"] ["_law_text_here"] (defScope s_read) := ⟨rfl, rfl, rfl, by decide +kernel, rfl, by decide +kernel, by decide +kernel⟩
theorem ok_read {f C Cb : Addr} {D1 D2 : Nat → Addr} {fd : FuncData} (F : Fun K "_law_read" "_law_read" s_read f fd) (T : Txt K mg) (U : ErrT K mg C Cb D1 D2) (C_read_plan : CalX P w K mg base "read_plan" 4 ["text"] (spReadPlan K C)) : FnOk P w K mg base CX0 5 f fd ["_law_text_here"] (spLRead K) := by
  refine F.ok sc_read (fun vs H Q E h => ?_) (fun cdv A outer s H vs Q E hr h => ?_)
  · obtain ⟨v, rfl, _⟩ := h
    rfl
  · obtain ⟨v, rfl, k⟩ := h
    refine ⟨_, (pss_cons (ps_set (i := 1) sc_read.nd rfl (by walk_at "lc") pe_str)
      (pss_cons (ps_tryF (i := 2) rfl rfl rfl rfl sc_read.nd rfl rfl rfl U.be U.beok
        (fun pl ξ E p own => pss_one (ps_set (i := 1) sc_read.nd rfl (by walk_at "lc") (pe_callF (E := E) C_read_plan hr rfl p (pa_cons (pv 0) pa_nil))))
        (fun a => (pss_cons (ps_set (i := 3) sc_read.nd rfl (by walk_at "lc") (pe_callB (call_isXTK (K := K)) (by rfl) T.z_isinstance bo_isinstance (pa_cons (pv 2) (pa_cons (pe_tup (pa_cons (pe_glob rfl U.n0 (v := .ref (D1 0)) rfl) (pa_cons (pe_glob rfl U.n1 (v := .ref (D1 1)) rfl) (pa_cons (pe_glob rfl U.n2 (v := .ref (D1 2)) rfl) (pa_cons (pe_glob rfl U.n3 (v := .ref (D1 3)) rfl) (pa_cons (pe_glob rfl U.n4 (v := .ref (D1 4)) rfl) (pa_cons (pe_glob rfl U.n5 (v := .ref (D1 5)) rfl) (pa_cons (pe_glob rfl U.n6 (v := .ref (D1 6)) rfl) (pa_cons (pe_glob rfl U.n7 (v := .ref (D1 7)) rfl) (pa_cons (pe_glob rfl U.n8 (v := .ref (D1 8)) rfl) (pa_cons (pe_glob rfl U.n9 (v := .ref (D1 9)) rfl) pa_nil))))))))))) pa_nil))))
          (pss_cons (ps_set (i := 3) sc_read.nd rfl (by walk_at "lc") (pe_or (pv 3) (pe_one (pe_callB (call_isXTK (K := K)) (by rfl) T.z_isinstance bo_isinstance (pa_cons (pv 2) (pa_cons (pe_tup (pa_cons (pe_glob rfl U.m0 (v := .ref (D2 0)) rfl) (pa_cons (pe_glob rfl U.m1 (v := .ref (D2 1)) rfl) (pa_cons (pe_glob rfl U.m2 (v := .ref (D2 2)) rfl) (pa_cons (pe_glob rfl U.m3 (v := .ref (D2 3)) rfl) (pa_cons (pe_glob rfl U.m4 (v := .ref (D2 4)) rfl) pa_nil)))))) pa_nil))))))
          (pss_one (ps_if (PW.pt (pw_and (pt_val (pe_callB (call_isXK (K := K)) (by rfl) T.z_isinstance bo_isinstance (pa_cons (pv 2) (pa_cons (pe_glob rfl U.nt.mgC (v := .ref C) rfl) pa_nil)))) (pw_and (pt_val (pe_callB (call_isXBK (K := K)) (by rfl) T.z_isinstance bo_isinstance (pa_cons (pv 2) (pa_cons (pe_bltn (by rfl) U.zv bo_VE (v := .ty "ValueError") rfl) pa_nil)))) (pw_and1 (pt_not (pt_val (pv 3)))))))
            (pss_one (ps_set (i := 1) sc_read.nd rfl (by walk_at "lc") pe_non))
            pss_nil))))))
      (pss_one (ps_ret (pv 1))))), ?_⟩
    refine ⟨_, rfl, v, rfl, ?_⟩
    rcases k with ⟨x, rfl, hx, k⟩ | ⟨t, ty, kt, k⟩
    · rcases k with ⟨rs, er, k⟩ | ⟨er, k⟩
      · exact .inl ⟨x, rfl, hx, .inl ⟨rs, er, fun l as H' R K1 => ⟨_, rfl, k l as H' R K1⟩⟩⟩
      · refine .inl ⟨x, rfl, hx, .inr ⟨er, fun H' K1 => ⟨C, rfl, U.nt.ok, U.sub, fun a ha => ?_⟩⟩⟩
        have fa : Fre H a := K1.fre ha (by simp)
        have Ka : Kp [] H (upd H' a (excO a C)) := Kp.new K1 fa
        refine ⟨_, rfl, (by show (10 : Nat) ≤ sizeLine; decide), fun t1 h1 => ⟨a, C, t1, false, [D1 0, D1 1, D1 2, D1 3, D1 4, D1 5, D1 6, D1 7, D1 8, D1 9], rfl, ?_, upd_same, U.kit, U.a1, ?_⟩⟩
        · rw [upd_ne (ne_of_none upd_same h1)]; exact upd_same
        have e1 : upd (upd H' a (excO a C)) t1 (.tup [.ref (D1 0), .ref (D1 1), .ref (D1 2), .ref (D1 3), .ref (D1 4), .ref (D1 5), .ref (D1 6), .ref (D1 7), .ref (D1 8), .ref (D1 9)]) a = some (excO a C) := by rw [upd_ne (ne_of_none upd_same h1)]; exact upd_same
        have K2 : Kp [] H (upd (upd H' a (excO a C)) t1 (.tup [.ref (D1 0), .ref (D1 1), .ref (D1 2), .ref (D1 3), .ref (D1 4), .ref (D1 5), .ref (D1 6), .ref (D1 7), .ref (D1 8), .ref (D1 9)])) := Kp.new Ka (Ka.fre h1 (by simp))
        refine ⟨_, rfl, false, rfl, iteF ?_⟩
        refine ⟨_, rfl, (by show (5 : Nat) ≤ sizeLine; decide), fun t2 h2 => ⟨a, C, t2, false, [D2 0, D2 1, D2 2, D2 3, D2 4], rfl, ?_, upd_same, U.kit, U.a2, ?_⟩⟩
        · rw [upd_ne (ne_of_none e1 h2)]; exact e1
        have e2 := (upd_ne (o := .tup [.ref (D2 0), .ref (D2 1), .ref (D2 2), .ref (D2 3), .ref (D2 4)]) (ne_of_none e1 h2)).trans e1
        refine ⟨_, rfl, a, C, C, true, rfl, e2, U.kit, kit_same (by simp), _, rfl, iteT ?_⟩
        refine ⟨_, rfl, a, C, "ValueError", true, rfl, e2, U.kit, U.av, _, rfl, iteT ?_⟩
        refine ⟨_, rfl, _, rfl, iteT ?_⟩
        exact ⟨_, rfl, k _ (Kp.new K2 (K2.fre h2 (by simp)))⟩
    · refine .inr ⟨t, ty, kt, fun H' K1 => ⟨C, rfl, U.nt.ok, U.sub, fun a ha => ?_⟩⟩
      have fa : Fre H a := K1.fre ha (by simp)
      have Ka : Kp [] H (upd H' a (excO a C)) := Kp.new K1 fa
      refine ⟨_, rfl, (by show (10 : Nat) ≤ sizeLine; decide), fun t1 h1 => ⟨a, C, t1, false, [D1 0, D1 1, D1 2, D1 3, D1 4, D1 5, D1 6, D1 7, D1 8, D1 9], rfl, ?_, upd_same, U.kit, U.a1, ?_⟩⟩
      · rw [upd_ne (ne_of_none upd_same h1)]; exact upd_same
      have e1 : upd (upd H' a (excO a C)) t1 (.tup [.ref (D1 0), .ref (D1 1), .ref (D1 2), .ref (D1 3), .ref (D1 4), .ref (D1 5), .ref (D1 6), .ref (D1 7), .ref (D1 8), .ref (D1 9)]) a = some (excO a C) := by rw [upd_ne (ne_of_none upd_same h1)]; exact upd_same
      have K2 : Kp [] H (upd (upd H' a (excO a C)) t1 (.tup [.ref (D1 0), .ref (D1 1), .ref (D1 2), .ref (D1 3), .ref (D1 4), .ref (D1 5), .ref (D1 6), .ref (D1 7), .ref (D1 8), .ref (D1 9)])) := Kp.new Ka (Ka.fre h1 (by simp))
      refine ⟨_, rfl, false, rfl, iteF ?_⟩
      refine ⟨_, rfl, (by show (5 : Nat) ≤ sizeLine; decide), fun t2 h2 => ⟨a, C, t2, false, [D2 0, D2 1, D2 2, D2 3, D2 4], rfl, ?_, upd_same, U.kit, U.a2, ?_⟩⟩
      · rw [upd_ne (ne_of_none e1 h2)]; exact e1
      have e2 := (upd_ne (o := .tup [.ref (D2 0), .ref (D2 1), .ref (D2 2), .ref (D2 3), .ref (D2 4)]) (ne_of_none e1 h2)).trans e1
      refine ⟨_, rfl, a, C, C, true, rfl, e2, U.kit, kit_same (by simp), _, rfl, iteT ?_⟩
      refine ⟨_, rfl, a, C, "ValueError", true, rfl, e2, U.kit, U.av, _, rfl, iteT ?_⟩
      refine ⟨_, rfl, _, rfl, iteT ?_⟩
      exact ⟨_, rfl, k _ (Kp.new K2 (K2.fre h2 (by simp)))⟩
end
end My
set_option Elab.async false
set_option linter.all false
set_option maxRecDepth 100000
set_option maxHeartbeats 4000000
namespace My
open PySem L2
def turnS : List Str → Str
  | [] => "-"
  | x :: r => Txt.join " " (x :: r)
def planS (rs : List (List Str)) : Str := Txt.join " / " (rs.map turnS)
theorem turn_len {r : List Str} (h : r.length ≤ 6) (hs : ∀ s ∈ r, NameS s) : (turnS r).length ≤ 60 := by
  cases r with
  | nil => decide
  | cons x r =>
    have h1 := join_len " " (x :: r)
    have h2 := sum_le (fun s : Str => s.length) 8 (xs := x :: r) fun s hx => (hs s hx).2.1
    have h3 : (" " : Str).length = 1 := by decide
    rw [h3] at h1
    show (Txt.join " " (x :: r)).length ≤ 60
    omega
theorem plan_len {rs : List (List Str)} (h : PlanOk rs) : (planS rs).length ≤ 3000 := by
  have h1 := join_len " / " (rs.map turnS)
  have h2 := sum_le (fun s : Str => s.length) 60 (xs := rs.map turnS) fun s hx => by
    obtain ⟨r, hr, rfl⟩ := List.mem_map.mp hx
    exact turn_len (h.2 r hr).1 (h.2 r hr).2
  have h3 : (" / " : Str).length = 3 := by decide
  rw [h3] at h1
  have := h.1
  rw [List.length_map] at h1 h2
  show (Txt.join " / " (rs.map turnS)).length ≤ 3000
  omega
theorem PlanOk.take {rs : List (List Str)} (h : PlanOk rs) (n : Nat) : PlanOk (rs.take n) := ⟨by rw [List.length_take]; have := h.1; omega, fun r hr => h.2 r (List.mem_of_mem_take hr)⟩
theorem planS_take {rs : List (List Str)} {i : Nat} {r : List Str} (h : rs[i]? = some r) : planS (rs.take (i + 1)) = (if 0 < i then planS (rs.take i) ++ " / " else planS (rs.take i)) ++ turnS r := by
  have hi : i < rs.length := (List.getElem?_eq_some_iff.mp h).1
  have e : rs.take (i + 1) = rs.take i ++ [r] := by
    rw [List.take_succ, h]; rfl
  unfold planS
  rw [e, List.map_append, List.map_singleton]
  by_cases h0 : 0 < i
  · rw [if_pos h0, join_more _ _ _ (by apply List.ne_nil_of_length_pos; rw [List.length_map, List.length_take]; omega)]
  · have : i = 0 := by omega
    subst this
    show Txt.join " / " [turnS r] = Txt.join " / " [] ++ turnS r
    rw [join_one, join_nil, empty_app]
theorem turn_take {r : List Str} {j : Nat} {x : Str} (t0 : Str) (h : r[j]? = some x) : t0 ++ Txt.join " " (r.take (j + 1)) = t0 ++ Txt.join " " (r.take j) ++ Txt.mul " " (if decide (0 < (j : Int)) = true then 1 else 0) ++ x := by
  have e : r.take (j + 1) = r.take j ++ [x] := by
    rw [List.take_succ, h]; rfl
  have hj : j < r.length := (List.getElem?_eq_some_iff.mp h).1
  rw [e]
  by_cases h0 : 0 < j
  · rw [if_pos (by simpa using h0), mul1, join_more _ _ _ (by apply List.ne_nil_of_length_pos; rw [List.length_take]; omega), app_assoc, app_assoc, app_assoc]
  · have : j = 0 := by omega
    subst this
    rw [if_neg (by simp), mul0, app_empty]
    show t0 ++ Txt.join " " [x] = t0 ++ Txt.join " " [] ++ x
    rw [join_one, join_nil, app_empty]
structure RowsR (H : Hp) (l : Addr) (as : List Addr) (rs : List (List Str)) : Prop where
  top : H l = some (.lst (as.map V.ref))
  len : as.length = rs.length
  row : ∀ (i : Nat) (a : Addr) (r : List Str), as[i]? = some a → rs[i]? = some r → H a = some (.lst (r.map V.str))
theorem RowsAt.rd {H0 H : Hp} {l : Addr} {as : List Addr} {rs : List (List Str)} (R : RowsAt H0 H l as rs) : RowsR H l as rs := ⟨R.top, R.len, R.row⟩
theorem RowsR.kp {H H' : Hp} {l : Addr} {as : List Addr} {rs : List (List Str)} (R : RowsR H l as rs) (k : Kp [] H H') : RowsR H' l as rs :=
  ⟨k l _ R.top (by simp), R.len, fun i a r e1 e2 => k a _ (R.row i a r e1 e2) (by simp)⟩
theorem RowsR.at {H : Hp} {l : Addr} {as : List Addr} {rs : List (List Str)} (R : RowsR H l as rs) {i : Nat} (h : i < rs.length) : ∃ a r, as[i]? = some a ∧ rs[i]? = some r ∧ (as.map V.ref)[i]? = some (.ref a) ∧ H a = some (.lst (r.map V.str)) := by
  have hi : i < as.length := by rw [R.len]; exact h
  have e1 : as[i]? = some as[i] := by simp [hi]
  have e2 : rs[i]? = some rs[i] := by simp [h]
  exact ⟨as[i], rs[i], e1, e2, by rw [List.getElem?_map, e1]; rfl, R.row i _ _ e1 e2⟩
section
variable {P : Program} {w : World} {K : PySem.W.Frag} {mg : Str → Option Value} {base : Heap}
def spText : Sp := fun vs H Q _ => ∃ (l : Addr) (as : List Addr) (rs : List (List Str)), vs = [.ref l] ∧ RowsR H l as rs ∧ PlanOk rs ∧ ∀ H', Kp [] H H' → Q (.str (planS rs)) H'
abbrev s_text : Stmt := top 33
theorem sc_text : FnScope ["_law_plan", "_law_text_here", "_law_k", "_law_j"] ["_law_plan"] (defScope s_text) := ⟨rfl, rfl, rfl, by decide +kernel, rfl, by decide +kernel, by decide +kernel⟩
theorem ok_text {f : Addr} {fd : FuncData} (F : Fun K "_law_text" "_law_text" s_text f fd) (T : Txt K mg) : FnOk P w K mg base CX0 1 f fd ["_law_plan"] spText := by
  refine F.ok sc_text (fun vs H Q E h => ?_) (fun cdv A outer s H vs Q E hr h => ?_)
  · obtain ⟨l, as, rs, rfl, _⟩ := h
    rfl
  · obtain ⟨l, as, rs, rfl, R, ok, k⟩ := h
    refine ⟨_, (pss_cons (ps_set (i := 1) sc_text.nd rfl (by walk_at "lc") pe_str)
      (pss_cons (ps_for PassesOwn.never rfl (pi_range1 rfl T.z_range (pa_cons (pe_callB call_len_seq (by rfl) T.z_len bo_len (pa_cons (pv 0) pa_nil)) pa_nil)) (pg_name (i := 2) sc_text.nd rfl (by walk_at "lc"))
        (pss_cons (ps_if (pt_cmpR op_gt (pv 2) pe_int (nomark _))
          (pss_one (ps_set (i := 1) sc_text.nd rfl (by walk_at "lc") (pe_op op_add_str (pv 1) pe_str)))
          pss_nil)
        (pss_cons (ps_for PassesOwn.never rfl (pi_range1 rfl T.z_range (pa_cons (pe_callB call_len_seq (by rfl) T.z_len bo_len (pa_cons (pe_ix ix_list (pv 0) (pv 2) (fun _ _ => rfl)) pa_nil)) pa_nil)) (pg_name (i := 3) sc_text.nd rfl (by walk_at "lc"))
          (pss_one (ps_set (i := 1) sc_text.nd rfl (by walk_at "lc") (pe_op op_add_str (pe_op op_add_str (pv 1) (pe_op op_mul_str pe_str (pe_callTy call_int1 (by rfl) T.z_int bo_int (pa_cons (pe_cmpR op_gt (pv 3) pe_int (nomark _)) pa_nil)))) (pe_ix ix_list (pe_ix ix_list (pv 0) (pv 2) (fun _ _ => rfl)) (pv 3) (fun _ _ => rfl))))))
        (pss_one (ps_set (i := 1) sc_text.nd rfl (by walk_at "lc") (pe_op op_add_str (pv 1) (pe_op op_mul_str pe_str (pe_callTy call_int1 (by rfl) T.z_int bo_int (pa_cons (pe_cmpR (op_eqL hr) (pe_ix ix_list (pv 0) (pv 2) (fun _ _ => rfl)) (pe_lst pa_nil) (nomark _)) pa_nil)))))))))
      (pss_one (ps_ret (pv 1))))), ?_⟩
    have hlen : as.length ≤ 40 := by rw [R.len]; exact ok.1
    refine ⟨_, rfl, _, _, rfl, .inl (SqL.of R.top), _, rfl, by rw [List.length_map]; omega, by rw [List.length_map]; omega, for_range (lo := 0) (fun i σ H2 => ∃ (o2 o3 : Option V), σ = [some (.ref l), some (.str (planS (rs.take i))), o2, o3] ∧ Kp [] H H2)
      ⟨none, none, rfl, Kp.refl⟩ ?_ ?_⟩
    · rintro i σ H2 hi ⟨o2, o3, rfl, K2⟩
      have hi' : i < rs.length := by
        rw [← R.len]; simpa using hi
      obtain ⟨a, r, ea, er, ev, ha⟩ := (R.kp K2).at hi'
      have hrl := (ok.2 r (List.mem_of_getElem? er)).1
      have htl := plan_len (ok.take i)
      have hz : ((0 : Int) + (i : Int)) = (i : Int) := by omega
      refine ⟨_, rfl, _, _, rfl, rfl, _, rfl, ?_⟩
      refine if_mid (fun σ H' => H' = H2 ∧ ∃ (o3 : Option V) (t0 : Str), σ = [some (.ref l), some (.str t0), some (.int (0 + i)), o3] ∧ t0.length ≤ 3010 ∧ planS (rs.take (i + 1)) = t0 ++ turnS r) (fun N hN => ?_) ?_
      · refine ite2 (fun c => ?_) (fun c => ?_)
        · have c' : 0 < i := by
            have := of_decide_eq_true c
            omega
          refine ⟨_, rfl, _, _, rfl, rfl, ?_, ?_⟩
          · show (planS (rs.take i)).length + 3 ≤ sizeLine
            rw [sizeLine_eq]; omega
          · refine hN _ _ ⟨rfl, _, _, rfl, ?_, ?_⟩
            · rw [len_app]; show (planS (rs.take i)).length + 3 ≤ 3010; omega
            · rw [planS_take er, if_pos c']
        · have c' : ¬ 0 < i := by
            intro z
            exact c (decide_eq_true (by omega))
          refine hN _ _ ⟨rfl, _, _, rfl, by omega, ?_⟩
          rw [planS_take er, if_neg c']
      · rintro σ H' ⟨rfl, o3, t0, rfl, ht0, et⟩
        have at_i : atI (as.map V.ref) (0 + (i : Int)) = some (.ref a) := by rw [hz]; exact atI_natc ev
        have hts : ∀ j, j ≤ r.length → (t0 ++ Txt.join " " (r.take j)).length ≤ 3100 := fun j hj => by
          have h1 := join_len " " (r.take j)
          have h2 := sum_le (fun s : Str => s.length) 8 (xs := r.take j) fun s hx => ((ok.2 r (List.mem_of_getElem? er)).2 s (List.mem_of_mem_take hx)).2.1
          have h3 : (" " : Str).length = 1 := by decide
          rw [h3] at h1
          rw [List.length_take] at h1 h2
          rw [len_app]; omega
        refine ⟨_, rfl, _, rfl, _, _, _, _, rfl, rfl, SqL.of (R.kp K2).top, at_i, _, _, rfl, .inl (SqL.of ha), _, rfl, by rw [List.length_map]; omega, by rw [List.length_map]; omega, for_range (lo := 0) (fun j σ H3 => ∃ (o3 : Option V), σ = [some (.ref l), some (.str (t0 ++ Txt.join " " (r.take j))), some (.int (0 + i)), o3] ∧ H3 = H')
          ⟨_, by rw [List.take_zero, join_nil, app_empty], rfl⟩ ?_ ?_⟩
        · rintro j σ H3 hj ⟨o3, rfl, rfl⟩
          have hj' : j < r.length := by
            simpa using hj
          have ex : r[j]? = some r[j] := by simp [hj']
          have ex' : (r.map V.str)[j]? = some (.str r[j]) := by rw [List.getElem?_map, ex]; rfl
          have at_j : atI (r.map V.str) (0 + (j : Int)) = some (.str r[j]) := by
            have : ((0 : Int) + (j : Int)) = (j : Int) := by omega
            rw [this]; exact atI_natc ex'
          have hl1 := hts j (by omega)
          have hl2 := hts (j + 1) (by omega)
          have hxl := ((ok.2 r (List.mem_of_getElem? er)).2 r[j] (List.getElem_mem hj')).2.1
          have em : ∀ c : Bool, (Txt.mul " " (if c = true then 1 else 0)).length ≤ 1 := fun c => by cases c <;> decide
          have ok01 : ∀ c : Bool, MulOk " " (if c = true then 1 else 0) := fun c => by
            cases c
            · exact mulok0 _
            · exact mulok1 _
          have e1 := turn_take t0 ex
          refine ⟨_, rfl, _, rfl, _, _, rfl, rfl, .inr ⟨_, rfl, _, _, rfl, rfl, ok01 _, _, _, rfl, rfl, ?_, _, rfl, _, rfl, _, _, _, _, rfl, rfl, SqL.of (R.kp K2).top, at_i, _, rfl, _, _, _, _, rfl, rfl, SqL.of ha, at_j, _, _, rfl, rfl, ?_, ?_⟩⟩
          · have := em (decide ((0 : Int) < 0 + (j : Int)))
            rw [sizeLine_eq]; omega
          · rw [len_app]
            have := em (decide ((0 : Int) < 0 + (j : Int)))
            rw [sizeLine_eq]; omega
          · refine ⟨some (.int (0 + (j : Int))), ?_, rfl⟩
            have hz' : ((0 : Int) + (j : Int)) = (j : Int) := by omega
            rw [e1]
            show [some (V.ref l), some (V.str _), some (V.int (0 + (i : Int))), some (V.int (0 + (j : Int)))] = _
            rw [hz']
        · rintro σ H3 ⟨o3, rfl, rfl⟩
          have e : r.take ((((r.map V.str).length : Nat) : Int)).toNat = r := by
            rw [List.length_map]; simp
          rw [e]
          have hl1 := hts r.length (Nat.le_refl _)
          rw [List.take_length] at hl1
          refine ⟨_, rfl, _, rfl, _, rfl, _, _, _, _, rfl, rfl, SqL.of (R.kp K2).top, at_i, (by walk_at "ln"), fun e0 he0 => ?_⟩
          have fe : Fre H3 e0 := he0
          have ha' : (upd H3 e0 (.lst [])) a = some (.lst (r.map V.str)) := by rw [upd_ne (ne_fre fe ha)]; exact ha
          have K3 : Kp [] H (upd H3 e0 (.lst [])) := Kp.new K2 (K2.fre fe (by simp))
          cases r with
          | nil =>
            refine .inl ⟨_, _, _, _, rfl, rfl, SqL.of ha', SqL.of upd_same, rfl, (fun i x y h => by simp at h), .inr ⟨_, rfl, _, _, rfl, rfl, mulok1 _, _, _, rfl, rfl, ?_, ?_⟩⟩
            · show _ + 1 ≤ sizeLine
              rw [sizeLine_eq]; omega
            · refine ⟨some (.int (0 + (i : Int))), o3, ?_, K3⟩
              rw [et]
              show _ = [some (V.ref l), some (V.str (t0 ++ turnS [])), some (V.int (0 + (i : Int))), o3]
              have : t0 ++ Txt.join " " [] ++ Txt.mul "-" 1 = t0 ++ turnS [] := by rw [join_nil, app_empty, mul1]; rfl
              rw [← this]; rfl
          | cons x r' =>
            refine .inr ⟨_, _, _, _, rfl, rfl, SqL.of ha', SqL.of upd_same, by simp, .inr ⟨_, rfl, _, _, rfl, rfl, mulok0 _, _, _, rfl, rfl, ?_, ?_⟩⟩
            · show _ + 0 ≤ sizeLine
              rw [sizeLine_eq]; omega
            · refine ⟨some (.int (0 + (i : Int))), o3, ?_, K3⟩
              rw [et]
              have : t0 ++ Txt.join " " (x :: r') ++ Txt.mul "-" 0 = t0 ++ turnS (x :: r') := by rw [mul0, app_empty]; rfl
              rw [← this]; rfl
    · rintro σ H2 ⟨o2, o3, rfl, K2⟩
      have e : rs.take ((((as.map V.ref).length : Nat) : Int)).toNat = rs := by
        rw [List.length_map, R.len]; simp
      rw [e]
      exact ⟨_, rfl, k H2 K2⟩
end
end My
set_option Elab.async false
set_option linter.all false
set_option maxRecDepth 100000
set_option maxHeartbeats 4000000
namespace My
open PySem L2
section
variable {P : Program} {w : World} {K : PySem.W.Frag} {mg : Str → Option Value} {base : Heap}
def spPlan : Sp := fun vs H Q _ => ∃ (p : Addr), vs = [.ref p] ∧ Purse H p ∧ ∀ (l : Addr) (as : List Addr) (rs : List (List Str)) (H' : Hp), RowsAt H H' l as rs → PlanOk rs → Purse H' p → Kp [p] H H' → Q (.ref l) H'
abbrev s_plan : Stmt := top 34
theorem sc_plan : FnScope ["_law_purse_here", "_law_plan", "_law_k", "_law_turn", "_law_j", "_law_word", "_law_i"] ["_law_purse_here"] (defScope s_plan) := ⟨rfl, rfl, rfl, by decide +kernel, rfl, by decide +kernel, by decide +kernel⟩
theorem ok_plan {f : Addr} {fd : FuncData} (F : Fun K "_law_short_plan" "_law_short_plan" s_plan f fd) (T : Txt K mg) (C_take : Cal P w K mg base "_law_take" 1 ["_law_purse_here", "_law_many"] spTake) : FnOk P w K mg base CX0 2 f fd ["_law_purse_here"] spPlan := by
  refine F.ok sc_plan (fun vs H Q E h => ?_) (fun cdv A outer s H vs Q E hr h => ?_)
  · obtain ⟨p, rfl, _⟩ := h
    rfl
  · obtain ⟨p, rfl, hP, k⟩ := h
    have HR_take := hr
    refine ⟨_, (pss_cons (ps_set (i := 1) sc_plan.nd rfl (by walk_at "lc") (pe_lst pa_nil))
      (pss_cons (ps_for PassesOwn.never rfl (pi_range1 rfl T.z_range (pa_cons (pe_callC C_take HR_take rfl (pa_cons (pv 0) (pa_cons pe_int pa_nil))) pa_nil)) (pg_name (i := 2) sc_plan.nd rfl (by walk_at "lc"))
        (pss_cons (ps_set (i := 3) sc_plan.nd rfl (by walk_at "lc") (pe_lst pa_nil))
        (pss_cons (ps_for PassesOwn.never rfl (pi_range1 rfl T.z_range (pa_cons (pe_callC C_take HR_take rfl (pa_cons (pv 0) (pa_cons pe_int pa_nil))) pa_nil)) (pg_name (i := 4) sc_plan.nd rfl (by walk_at "lc"))
          (pss_cons (ps_set (i := 5) sc_plan.nd rfl (by walk_at "lc") pe_str)
          (pss_cons (ps_for PassesOwn.never rfl (pi_range1 rfl T.z_range (pa_cons (pe_op op_add pe_int (pe_op op_mul (pe_callC C_take HR_take rfl (pa_cons (pv 0) (pa_cons pe_int pa_nil))) (pe_callC C_take HR_take rfl (pa_cons (pv 0) (pa_cons pe_int pa_nil))))) pa_nil)) (pg_name (i := 6) sc_plan.nd rfl (by walk_at "lc"))
            (pss_one (ps_set (i := 5) sc_plan.nd rfl (by walk_at "lc") (pe_op op_add_str (pv 5) (pe_ix ix_str pe_str (pe_callC C_take HR_take rfl (pa_cons (pv 0) (pa_cons pe_int pa_nil))) (fun _ _ => rfl))))))
          (pss_one (ps_expr (pe_bm PySem.F.plainAttrs_list PySem.F.slot_list_append PySem.F.type_list_append mt_append (pv 3) (pa_cons (pv 5) pa_nil)))))))
        (pss_one (ps_expr (pe_bm PySem.F.plainAttrs_list PySem.F.slot_list_append PySem.F.type_list_append mt_append (pv 1) (pa_cons (pv 3) pa_nil)))))))
      (pss_one (ps_ret (pv 1))))), ?_⟩
    refine ⟨(by walk_at "ln"), fun l hl => ?_⟩
    have fl : Fre H l := hl
    have npl : p ≠ l := by obtain ⟨a, b, e, _⟩ := hP; exact ne_fre fl e
    have hP1 : Purse (upd H l (.lst [])) p := hP.kp (M := []) (Kp.new Kp.refl fl) (by simp)
    refine ⟨_, rfl, p, 9, rfl, hP1, by decide, by decide, fun d H1 d0 d1 P1 K1 => ?_⟩
    have K1' : Kp [p] H H1 := Kp.trans (Kp.new Kp.refl fl) K1
    have h1 : H1 l = some (.lst []) := K1 l _ upd_same (nm1 npl.symm)
    refine ⟨_, rfl, by omega, by omega, for_range (lo := 0) (n := d.toNat) (fun i σ H2 => ∃ (o3 o4 o5 o6 o7 : Option V) (as : List Addr) (rs : List (List Str)), σ = [some (.ref p), some (.ref l), o3, o4, o5, o6, o7] ∧ Purse H2 p ∧ Kp [p] H H2 ∧ RowsAt H H2 l as rs ∧ rs.length = i ∧ ∀ r ∈ rs, r.length ≤ 6 ∧ ∀ s ∈ r, NameS s)
      ⟨none, none, none, none, none, [], [], rfl, P1, K1', RowsAt.nil h1 fl, rfl, fun r h => nomatch h⟩ ?_ ?_⟩
    · rintro i σ H2 hi ⟨o3, o4, o5, o6, o7, as, rs, rfl, P2, K2, R2, e2, q2⟩
      refine ⟨(by walk_at "ln"), fun b hb => ?_⟩
      have fb : Fre H2 b := hb
      have npb : p ≠ b := by obtain ⟨x, y, e, _⟩ := P2; exact ne_fre fb e
      have nlb : l ≠ b := ne_fre fb R2.top
      have fbH : Fre H b := K2.fre fb (nm1 npb.symm)
      have P3 : Purse (upd H2 b (.lst [])) p := P2.kp (M := []) (Kp.new Kp.refl fb) (by simp)
      refine ⟨_, rfl, p, 4, rfl, P3, by decide, by decide, fun d1 H4 a0 a1 P5 K34 => ?_⟩
      have K24 : Kp [p] H2 H4 := Kp.trans (Kp.new Kp.refl fb) K34
      refine ⟨_, rfl, by omega, by omega, for_range (lo := 0) (n := d1.toNat) (fun j σ H5 => ∃ (o3 o5 o6 o7 : Option V) (ws : List Str), σ = [some (.ref p), some (.ref l), o3, some (.ref b), o5, o6, o7] ∧ Purse H5 p ∧ Kp [p, b] H2 H5 ∧ H5 b = some (.lst (ws.map V.str)) ∧ ws.length = j ∧ ∀ s ∈ ws, NameS s)
        ⟨_, _, _, _, [], rfl, P5, K24.weak (by simp), K34 b _ upd_same (nm1 npb.symm), rfl, fun s h => nomatch h⟩ ?_ ?_⟩
      · rintro j σ H5 hj ⟨o3, o5, o6, o7, ws, rfl, P6, K5, h5, e5, q5⟩
        refine ⟨_, rfl, p, 2, rfl, P6, by decide, by decide, fun d5 H6' f0 f1 P7' K6' => ?_⟩
        refine ⟨_, rfl, p, 8, rfl, P7', by decide, by decide, fun d6 H6 c0' c1' P7 K6'' => ?_⟩
        have K6 := K6'.trans K6''
        have hm0 : 0 ≤ d5 * d6 := Int.mul_nonneg f0 c0'
        have hm1 : d5 * d6 ≤ 7 := by
          have : d5 * d6 ≤ 1 * 7 := Int.mul_le_mul (by omega) (by omega) c0' (by decide)
          omega
        refine ⟨_, _, rfl, rfl, (by walk_at "ml"), _, _, rfl, rfl, _, rfl, by omega, by omega, for_range (lo := 0) (n := (1 + d5 * d6).toNat) (fun n σ H7 => ∃ (o3 o5 o7 : Option V) (x : Str), σ = [some (.ref p), some (.ref l), o3, some (.ref b), o5, some (.str x), o7] ∧ Purse H7 p ∧ Kp [p] H5 H7 ∧ WordS n x)
          ⟨_, _, _, _, rfl, P7, K6, rfl, (fun c h => absurd (show c ∈ ([] : List Nat) from h) (by simp))⟩ ?_ ?_⟩
        · rintro n σ H7 hn ⟨o3, o5, o7, x, rfl, P8, K7, W⟩
          refine ⟨_, rfl, _, rfl, p, 26, rfl, P8, by decide, by decide, fun d4 H8 e0 e1 P9 K8 => ?_⟩
          refine ⟨_, _, _, rfl, rfl, by decide, letters_at e0 e1, _, _, rfl, rfl, ?_, ?_⟩
          · rw [W.1]
            show n + 1 ≤ sizeLine
            rw [sizeLine_eq]; omega
          · exact ⟨_, _, _, _, rfl, P9, K7.trans K8, W.more (by omega) (by omega)⟩
        · rintro σ H7 ⟨o3, o5, o7, x, rfl, P8, K7, W⟩
          have h7 : H7 b = some (.lst (ws.map V.str)) := K7 b _ h5 (nm1 npb.symm)
          refine ⟨_, rfl, .inl ⟨rfl, _, SqL.of h7⟩, _, rfl, _, _, _, rfl, rfl, h7, ?_, ?_⟩
          · rw [sizeLine_eq, List.length_map]; omega
          · refine ⟨_, _, _, _, ws ++ [x], rfl, P8.kp (M := [b]) (Kp.put Kp.refl (by simp)) (nm1 npb), Kp.put (K5.trans (K7.weak (by simp))) (by simp), by rw [upd_same]; simp, by simp [e5], fun s hs => ?_⟩
            rcases List.mem_append.mp hs with z | z
            · exact q5 s z
            · have : s = x := by simpa using z
              subst this
              have := W.1
              exact ⟨by omega, by omega, W.2⟩
      · rintro σ H5 ⟨o3, o5, o6, o7, ws, rfl, P6, K5, h5, e5, q5⟩
        have hl5 : H5 l = some (.lst (as.map V.ref)) := K5 l _ R2.top (nm2 npl.symm nlb)
        have nas : ∀ a ∈ as, a ∉ [p, b] := fun a ha => by
          obtain ⟨r, _, e⟩ := R2.mem ha
          refine nm2 ?_ (ne_fre fb e)
          obtain ⟨x, y, e', _⟩ := hP
          exact (ne_fre (R2.frs a ha) e').symm
        have R5 : RowsAt H H5 l as rs := R2.kp K5 (nm2 npl.symm nlb) nas
        refine ⟨_, rfl, .inl ⟨rfl, _, SqL.of hl5⟩, _, rfl, _, _, _, rfl, rfl, hl5, ?_, ?_⟩
        · rw [sizeLine_eq, List.length_map, R2.len]; omega
        · refine ⟨_, _, _, _, _, as ++ [b], rs ++ [ws], rfl, P6.kp (M := [l]) (Kp.put Kp.refl (by simp)) (nm1 npl), ?_, R5.more h5 nlb.symm fbH, by simp [e2], fun r hr => ?_⟩
          · refine Kp.new (fun c o hc n => ?_) fl
            exact K5 c o (K2 c o hc n) (nm2 (by simpa using n) (ne_fre fbH hc))
          · rcases List.mem_append.mp hr with z | z
            · exact q2 r z
            · have : r = ws := by simpa using z
              subst this
              exact ⟨by omega, q5⟩
    · rintro σ H2 ⟨o3, o4, o5, o6, o7, as, rs, rfl, P2, K2, R2, e2, q2⟩
      refine ⟨_, rfl, ?_⟩
      exact k l as rs H2 R2 ⟨by omega, q2⟩ P2 K2
end
end My
set_option Elab.async false
set_option linter.all false
set_option maxRecDepth 100000
set_option maxHeartbeats 4000000
namespace My
open PySem L2
theorem atI_some {α : Type} (xs : List α) {d : Int} (h0 : 0 ≤ d) (h1 : d < xs.length) : ∃ c, atI xs d = some c := by
  have h : d.toNat < xs.length := by omega
  exact ⟨xs[d.toNat], atI_at h0 (by simp [h])⟩
section
variable {P : Program} {w : World} {K : PySem.W.Frag} {mg : Str → Option Value} {base : Heap}
def spSpoilt : Sp := fun vs H Q _ => ∃ (p : Addr) (x : Str), vs = [.ref p, .str x] ∧ x.length ≤ 4000 ∧ Purse H p ∧ ∀ (y : Str) (H' : Hp), y.length ≤ 20000 → Purse H' p → Kp [p] H H' → Q (.str y) H'
abbrev s_spoilt : Stmt := top 35
theorem sc_spoilt : FnScope ["_law_purse_here", "_law_text_here", "_law_signs", "_law_k", "_law_at", "_law_sign", "_law_way", "_law_rest"] ["_law_purse_here", "_law_text_here"] (defScope s_spoilt) := ⟨rfl, rfl, rfl, by decide +kernel, rfl, by decide +kernel, by decide +kernel⟩
theorem ok_spoilt {f : Addr} {fd : FuncData} (F : Fun K "_law_spoilt" "_law_spoilt" s_spoilt f fd) (T : Txt K mg) (C_take : Cal P w K mg base "_law_take" 1 ["_law_purse_here", "_law_many"] spTake) : FnOk P w K mg base CX0 2 f fd ["_law_purse_here", "_law_text_here"] spSpoilt := by
  refine F.ok sc_spoilt (fun vs H Q E h => ?_) (fun cdv A outer s H vs Q E hr h => ?_)
  · obtain ⟨p, x, rfl, _⟩ := h
    rfl
  · obtain ⟨p, x, rfl, hx, hP, k⟩ := h
    have HR_take := hr
    refine ⟨_, (pss_cons (ps_set (i := 2) sc_spoilt.nd rfl (by walk_at "lc") pe_str)
      (pss_cons (ps_set (i := 2) sc_spoilt.nd rfl (by walk_at "lc") (pe_op op_add_str (pv 2) pe_str))
      (pss_cons (ps_for PassesOwn.never rfl (pi_range1 rfl T.z_range (pa_cons (pe_ix ix_list (pe_lst (pa_cons pe_int (pa_cons pe_int (pa_cons pe_int (pa_cons pe_int pa_nil))))) (pe_callC C_take HR_take rfl (pa_cons (pv 0) (pa_cons pe_int pa_nil))) (fun _ _ => rfl)) pa_nil)) (pg_name (i := 3) sc_spoilt.nd rfl (by walk_at "lc"))
        (pss_cons (ps_set (i := 4) sc_spoilt.nd rfl (by walk_at "lc") (pe_callC C_take HR_take rfl (pa_cons (pv 0) (pa_cons (pe_op op_add (pe_callB call_len_str (by rfl) T.z_len bo_len (pa_cons (pv 1) pa_nil)) pe_int) pa_nil))))
        (pss_cons (ps_set (i := 5) sc_spoilt.nd rfl (by walk_at "lc") (pe_ix ix_list (pe_lst (pa_cons pe_str (pa_cons pe_str (pa_cons pe_str (pa_cons pe_str (pa_cons (pe_ix ix_str (pv 2) (pe_callC C_take HR_take rfl (pa_cons (pv 0) (pa_cons (pe_callB call_len_str (by rfl) T.z_len bo_len (pa_cons (pv 2) pa_nil)) pa_nil))) (fun _ _ => rfl)) pa_nil)))))) (pe_callC C_take HR_take rfl (pa_cons (pv 0) (pa_cons pe_int pa_nil))) (fun _ _ => rfl)))
        (pss_cons (ps_set (i := 6) sc_spoilt.nd rfl (by walk_at "lc") (pe_callC C_take HR_take rfl (pa_cons (pv 0) (pa_cons pe_int pa_nil))))
        (pss_cons (ps_set (i := 7) sc_spoilt.nd rfl (by walk_at "lc") (pe_slice sl_str (pv 1) (po_some (pe_op op_add (pv 4) (pe_callTy call_int1 (by rfl) T.z_int bo_int (pa_cons (pe_cmpR op_gt (pv 6) pe_int (nomark _)) pa_nil)))) po_none))
        (pss_one (ps_set (i := 1) sc_spoilt.nd rfl (by walk_at "lc") (pe_op op_add_str (pe_op op_add_str (pe_slice sl_str (pv 1) po_none (po_some (pv 4))) (pe_op op_mul_str (pv 5) (pe_callTy call_int1 (by rfl) T.z_int bo_int (pa_cons (pe_cmpR op_lt (pv 6) pe_int (nomark _)) pa_nil)))) (pv 7)))))))))
      (pss_one (ps_ret (pv 1)))))), ?_⟩
    refine ⟨_, rfl, _, _, rfl, rfl, (by decide +kernel), ?_⟩
    refine ⟨(by walk_at "ln"), fun l hl => ?_⟩
    have fl : Fre H l := hl
    have npl : p ≠ l := by obtain ⟨a, b, e, _⟩ := hP; exact ne_fre fl e
    refine ⟨_, rfl, p, 4, rfl, hP.kp (M := []) (Kp.new Kp.refl fl) (by simp), by decide, by decide, fun d H1 d0 d1 P1 K1 => ?_⟩
    have h1 := K1 l _ upd_same (nm1 npl.symm)
    have K1' : Kp [p] H H1 := Kp.trans (Kp.new Kp.refl fl) K1
    obtain ⟨m, hm, m0, m1⟩ : ∃ m : Int, atI [V.int 0, .int 1, .int 1, .int 2] d = some (.int m) ∧ 0 ≤ m ∧ m ≤ 2 := by
      have : d = 0 ∨ d = 1 ∨ d = 2 ∨ d = 3 := by omega
      rcases this with rfl | rfl | rfl | rfl
      · exact ⟨0, rfl, by decide, by decide⟩
      · exact ⟨1, rfl, by decide, by decide⟩
      · exact ⟨1, rfl, by decide, by decide⟩
      · exact ⟨2, rfl, by decide, by decide⟩
    refine ⟨_, _, _, _, rfl, rfl, SqL.of h1, hm, _, rfl, by omega, by omega, for_range (lo := 0) (n := m.toNat) (fun i σ H2 => ∃ (y sg : Str) (o3 o4 o5 o6 o7 : Option V), σ = [some (.ref p), some (.str y), some (.str sg), o3, o4, o5, o6, o7] ∧ (1 ≤ sg.length ∧ sg.length ≤ 200) ∧ y.length + 1 ≤ 4001 * 2 ^ i ∧ Purse H2 p ∧ Kp [p] H H2)
      ⟨_, _, _, _, _, _, _, rfl, (by decide +kernel), by show _ ≤ 4001 * 1; omega, P1, K1'⟩ ?_ ?_⟩
    · rintro i σ H2 hi ⟨y, sg, o3, o4, o5, o6, o7, rfl, ⟨hg, hg'⟩, hy, P2, K2⟩
      have hp2 : 2 ^ i ≤ 2 ^ 2 := Nat.pow_le_pow_right (by decide) (by omega)
      have hps : 2 ^ (i + 1) = 2 * 2 ^ i := by rw [Nat.pow_succ]; omega
      have hy' : y.length ≤ 20000 := by omega
      refine ⟨_, rfl, _, rfl, _, rfl, by rw [sizeLine_eq]; omega, _, _, rfl, rfl, p, _, rfl, P2, by omega, by omega, fun a H3 a0 a1 P3 K3 => ?_⟩
      refine ⟨_, rfl, _, rfl, _, rfl, _, rfl, by rw [sizeLine_eq]; omega, p, _, rfl, P3, by omega, by omega, fun b H4 b0 b1 P4 K4 => ?_⟩
      obtain ⟨c, hc⟩ := atI_some sg.cps.toList b0 (by have : sg.cps.toList.length = sg.length := by simp [Str.length]
                                                      omega)
      refine ⟨_, _, _, rfl, rfl, by rw [sizeLine_eq]; omega, hc, (by walk_at "ln"), fun q hq => ?_⟩
      have fq : Fre H4 q := hq
      have npq : p ≠ q := by obtain ⟨a, b, e, _⟩ := P4; exact ne_fre fq e
      refine ⟨_, rfl, p, 5, rfl, P4.kp (M := []) (Kp.new Kp.refl fq) (by simp), by decide, by decide, fun e H5 e0 e1 P5 K5 => ?_⟩
      have h5 := K5 q _ upd_same (nm1 npq.symm)
      obtain ⟨z, hz, z1⟩ : ∃ z : Str, atI [V.str " ", .str "/", .str "-", .str "a", .str ⟨#[c]⟩] e = some (.str z) ∧ z.length = 1 := by
        have : e = 0 ∨ e = 1 ∨ e = 2 ∨ e = 3 ∨ e = 4 := by omega
        rcases this with rfl | rfl | rfl | rfl | rfl
        · exact ⟨_, rfl, rfl⟩
        · exact ⟨_, rfl, rfl⟩
        · exact ⟨_, rfl, rfl⟩
        · exact ⟨_, rfl, rfl⟩
        · exact ⟨_, rfl, rfl⟩
      refine ⟨_, _, _, _, rfl, rfl, SqL.of h5, hz, ?_⟩
      refine ⟨_, rfl, p, 3, rfl, P5, by decide, by decide, fun g H6 g0 g1 P6 K6 => ?_⟩
      have K26 : Kp [p] H H6 := Kp.trans K2 (Kp.trans K3 (Kp.trans K4 (Kp.trans (Kp.new Kp.refl fq) (Kp.trans K5 K6))))
      refine ⟨_, rfl, _, rfl, _, rfl, _, _, rfl, rfl, .inr ⟨_, rfl, _, _, rfl, rfl, _, rfl, _, rfl, by rw [sizeLine_eq]; omega, ?_⟩⟩
      generalize hw : Txt.slice y (some _) none = r
      have hr1 : r.length ≤ y.length := by rw [← hw]; exact slice_len _ _ _
      have hr2 := slice_len y none (some a)
      refine ⟨_, rfl, _, rfl, _, rfl, _, rfl, by rw [sizeLine_eq]; omega, ?_⟩
      generalize Txt.slice y none (some a) = r2 at hr2
      have em : ∀ c : Bool, MulOk z (if c = true then 1 else 0) ∧ (Txt.mul z (if c = true then 1 else 0)).length ≤ 1 := fun c => by
        cases c
        · exact ⟨mulok0 _, by rw [if_neg (by simp), mul0]; decide⟩
        · exact ⟨mulok1 _, by rw [if_pos rfl, mul1]; omega⟩
      refine ⟨_, rfl, _, rfl, _, _, rfl, rfl, .inr ⟨_, rfl, _, _, rfl, rfl, (em _).1, _, _, rfl, rfl, ?_, _, rfl, _, _, rfl, rfl, ?_, ?_⟩⟩
      · have := (em (decide (g < 2))).2
        rw [sizeLine_eq]; omega
      · have := (em (decide (g < 2))).2
        rw [len_app, sizeLine_eq]; omega
      · refine ⟨_, _, _, _, _, _, _, rfl, ⟨hg, hg'⟩, ?_, P6, K26⟩
        have := (em (decide (g < 2))).2
        rw [len_app, len_app, hps]; omega
    · rintro σ H2 ⟨y, sg, o3, o4, o5, o6, o7, rfl, _, hy, P2, K2⟩
      have hp2 : 2 ^ m.toNat ≤ 2 ^ 2 := Nat.pow_le_pow_right (by decide) (by omega)
      exact ⟨_, rfl, k y H2 (by omega) P2 K2⟩
end
end My
set_option Elab.async false
set_option linter.all false
set_option maxRecDepth 100000
set_option maxHeartbeats 4000000
namespace My
open PySem L2
theorem letters_mem (c : Nat) : c ∈ letters.cps.toList ↔ 97 ≤ c ∧ c ≤ 122 := by
  rw [letters_list, List.mem_map]
  constructor
  · rintro ⟨a, ha, rfl⟩
    have := List.mem_range.mp ha
    omega
  · rintro ⟨h1, h2⟩
    exact ⟨c - 97, List.mem_range.mpr (by omega), by omega⟩
def offs (xs : List Nat) : List Nat := xs.filter fun c => !decide (c ∈ letters.cps.toList)
theorem offs_nil {x : Str} (h1 : 1 ≤ x.length) (h8 : x.length ≤ 8) : offs x.cps.toList = [] ↔ nameB x = true := by
  unfold offs
  rw [nameB_iff, List.filter_eq_nil_iff]
  constructor
  · intro h
    refine ⟨h1, h8, fun c hc => ?_⟩
    have := h c hc
    have : c ∈ letters.cps.toList := by simpa using this
    exact (letters_mem c).mp this
  · rintro ⟨_, _, h⟩ c hc
    have := (letters_mem c).mpr (h c hc)
    simpa using this
theorem filter_take {xs : List Nat} {p : Nat → Bool} {i c : Nat} (h : xs[i]? = some c) : (xs.take (i + 1)).filter p = (xs.take i).filter p ++ if p c = true then [c] else [] := by
  rw [List.take_succ, h, List.filter_append]
  cases e : p c <;> simp [e]
section
variable {P : Program} {w : World} {K : PySem.W.Frag} {mg : Str → Option Value} {base : Heap}
def spTurnOf : Sp := fun vs H Q _ => ∃ (x : Str), vs = [.str x] ∧ x.length ≤ 100000 ∧
  ((∃ r, turnB x = some r ∧ ∀ (a : Addr) (H' : Hp), Fre H a → H' a = some (.lst (r.map V.str)) → Kp [] H H' → Q (.ref a) H') ∨ (turnB x = none ∧ ∀ H', Kp [] H H' → Q .non H'))
abbrev s_turn_of : Stmt := top 36
theorem sc_turn_of : FnScope ["_law_part", "_law_word"] ["_law_part"] (defScope s_turn_of) := ⟨rfl, rfl, rfl, by decide +kernel, rfl, by decide +kernel, by decide +kernel⟩
theorem ok_turn_of {f : Addr} {fd : FuncData} (F : Fun K "_law_turn_of" "_law_turn_of" s_turn_of f fd) (T : Txt K mg) : FnOk P w K mg base CX0 1 f fd ["_law_part"] spTurnOf := by
  refine F.ok sc_turn_of (fun vs H Q E h => ?_) (fun cdv A outer s H vs Q E hr h => ?_)
  · obtain ⟨x, rfl, _⟩ := h
    rfl
  · obtain ⟨x, rfl, hx, k⟩ := h
    refine ⟨_, (pss_cons (ps_if (pt_cmpR op_eq (pv 0) pe_str (nomark _))
        (pss_one (ps_ret (pe_lst pa_nil)))
        pss_nil)
      (pss_cons (ps_for PassesOwn.never rfl (pi_list (pe_bm PySem.F.plainAttrs_str PySem.F.slot_str_split PySem.F.type_str_split mt_split (pv 0) (pa_cons pe_str pa_nil))) (pg_name (i := 1) sc_turn_of.nd rfl (by walk_at "lc"))
        (pss_cons (ps_if (PW.pt (pw_or (pt_cmpR op_lt (pe_callB call_len_str (by rfl) T.z_len bo_len (pa_cons (pv 1) pa_nil)) pe_int (nomark _)) (pw_or1 (pt_cmpR op_gt (pe_callB call_len_str (by rfl) T.z_len bo_len (pa_cons (pv 1) pa_nil)) pe_int (nomark _)))))
          (pss_one (ps_ret pe_non))
          pss_nil)
        (pss_one (ps_if (pt_cmpR (op_neAU hr) (pe_comp rfl (blk_mk (sc := defScope s_turn_of) rfl (by decide +kernel)) (Draws.own (x := "_law_sign") Draws.nil) (pi_str (pv 1)) (fun C s₀ H₀ ex => (pg_name (i := 0) (show List.Nodup (["_law_sign"] : List Str) by decide +kernel) rfl (by walk_at "lc"))) (fun C s₀ H₀ ex => (pts_one (pt_cmpR op_notIn_str (pv 0) pe_str (by rfl)))) (fun C s₀ H₀ ex => (pv 0))) (pe_lst pa_nil) (nomark _))
          (pss_one (ps_ret pe_non))
          pss_nil))))
      (pss_one (ps_ret (pe_bm PySem.F.plainAttrs_str PySem.F.slot_str_split PySem.F.type_str_split mt_split (pv 0) (pa_cons pe_str pa_nil)))))), ?_⟩
    refine ⟨_, rfl, rfl, _, rfl, ?_⟩
    refine ite2 (fun c => ?_) (fun c => ?_)
    · have e : x = "-" := by
        have := of_decide_eq_true c
        injection this
      have eb : turnB x = some [] := by unfold turnB; rw [if_pos e]
      refine ⟨(by walk_at "ln"), fun l hl => ?_⟩
      rcases k with ⟨r, er, k⟩ | ⟨er, _⟩
      · rw [eb] at er; cases er
        exact k l _ hl upd_same (Kp.new Kp.refl hl)
      · rw [eb] at er; cases er
    · have e : ¬ x = "-" := fun z => c (by rw [z]; decide)
      have eb : turnB x = if (Txt.split x " ").all nameB = true then some (Txt.split x " ") else none := by unfold turnB; rw [if_neg e]
      have bad : (Txt.split x " ").all nameB = false → ∀ H', Kp [] H H' → Q .non H' := fun h H' K1 => by
        rw [h, if_neg (by simp)] at eb
        rcases k with ⟨r, er, k⟩ | ⟨_, k⟩
        · rw [eb] at er; cases er
        · exact k H' K1
      have off : ∀ z ∈ Txt.split x " ", nameB z = false → ∀ H', Kp [] H H' → Q .non H' := fun z hz h => bad (by
        rw [Bool.eq_false_iff]
        intro q
        rw [List.all_eq_true] at q
        rw [q z hz] at h
        cases h)
      refine ⟨_, rfl, rfl, _, _, rfl, rfl, (by decide), by omega, fun l hl => ?_⟩
      have fl : Fre H l := hl
      refine ⟨_, rfl, ⟨_, SqL.of upd_same⟩, for_list (xs := (Txt.split x " ").map V.str) (fun i σ H' => (∃ o1, σ = [some (.str x), o1]) ∧ Kp [] (upd H l (.lst ((Txt.split x " ").map V.str))) H' ∧ ((Txt.split x " ").take i).all nameB = true) ⟨⟨_, rfl⟩, Kp.refl, rfl⟩ ?_ ?_ ?_⟩
      · rintro i σ H' _ ⟨_, K1, _⟩
        exact SqL.of (K1 l _ upd_same (by simp))
      · rintro i y σ H' hy ⟨⟨o1, rfl⟩, K1, al⟩
        rw [List.getElem?_map] at hy
        cases e1 : (Txt.split x " ")[i]? with
        | none => rw [e1] at hy; cases hy
        | some z =>
          rw [e1] at hy
          cases hy
          have hm := List.mem_of_getElem? e1
          have hz := split_len hm
          have KH : Kp [] H H' := Kp.trans (Kp.new Kp.refl fl) K1
          refine ⟨_, rfl, _, rfl, by rw [sizeLine_eq]; omega, _, _, rfl, rfl, _, rfl, ?_⟩
          refine ite2 (fun c => ?_) (fun c => ?_)
          · have c1 : ¬ (1 ≤ z.length) := fun q => by
              have := of_decide_eq_true c
              omega
            exact off z hm (by unfold nameB; rw [decide_eq_false c1]; simp) H' KH
          have c1 : 1 ≤ z.length := by
            by_cases q : 1 ≤ z.length
            · exact q
            · exact absurd (decide_eq_true (by omega)) c
          refine ⟨_, rfl, _, rfl, by rw [sizeLine_eq]; omega, _, _, rfl, rfl, _, rfl, ?_⟩
          refine ite2 (fun c => ?_) (fun c => ?_)
          · have c2 : ¬ (z.length ≤ 8) := fun q => by
              have := of_decide_eq_true c
              omega
            exact off z hm (by unfold nameB; rw [decide_eq_false c2]; simp) H' KH
          have c2 : z.length ≤ 8 := by
            by_cases q : z.length ≤ 8
            · exact q
            · exact absurd (decide_eq_true (by omega)) c
          refine ⟨_, rfl, _, rfl, fun D hD => comp_str (z := z) (fun i ys τ H2 => (∃ o0, τ = [o0]) ∧ ys = (offs (z.cps.toList.take i)).map (fun c => V.str ⟨#[c]⟩) ∧ H2 = upd H' D (.lst ys)) ⟨⟨_, rfl⟩, rfl, rfl⟩ ?_ ?_⟩
          · rintro j c ys τ H2 hc ⟨⟨o0, rfl⟩, rfl, rfl⟩
            have ej : offs (z.cps.toList.take (j + 1)) = offs (z.cps.toList.take j) ++ if (!decide (c ∈ letters.cps.toList)) = true then [c] else [] := filter_take hc
            refine ⟨_, rfl, _, _, rfl, rfl, _, rfl, ?_⟩
            have eo : (!(!(Builtin.Str.occurrences letters ⟨#[c]⟩ 0 letters.length 1).isEmpty)) = !decide (c ∈ letters.cps.toList) := by rw [one_in]
            have hln : ((offs (z.cps.toList.take j)).map (fun c => V.str ⟨#[c]⟩)).length < sizeLine := by
              have h1 := List.length_filter_le (fun c => !decide (c ∈ letters.cps.toList)) (z.cps.toList.take j)
              have h2 : z.cps.toList.length = z.length := by simp [Str.length]
              rw [List.length_take] at h1
              rw [List.length_map, sizeLine_eq]
              show (List.filter _ _).length < _
              omega
            show (if (!(!(Builtin.Str.occurrences letters ⟨#[c]⟩ 0 letters.length 1).isEmpty)) = true then _ else _)
            rw [eo]
            refine ite2 (fun c => ?_) (fun c => ?_)
            · refine ⟨_, rfl, upd_same, hln, ⟨_, rfl⟩, ?_, upd_upd⟩
              rw [ej, if_pos c, List.map_append]; rfl
            · refine ⟨⟨_, rfl⟩, ?_, rfl⟩
              rw [ej, if_neg c, List.append_nil]
          · rintro ys τ H2 ⟨_, rfl, rfl⟩
            have eT : z.cps.toList.take z.length = z.cps.toList := List.take_of_length_le (by simp [Str.length])
            rw [eT]
            have fD : Fre H' D := hD
            refine ⟨(by walk_at "ln"), fun q hq => ?_⟩
            have fq : Fre (upd H' D (.lst ((offs z.cps.toList).map (fun c => V.str ⟨#[c]⟩)))) q := hq
            have hDq := (upd_ne (o := .lst []) (ne_fre fq upd_same)).trans (upd_same (H := H') (a := D) (o := .lst ((offs z.cps.toList).map (fun c => V.str ⟨#[c]⟩))))
            have K2 : Kp [] H' (upd (upd H' D (.lst ((offs z.cps.toList).map (fun c => V.str ⟨#[c]⟩)))) q (.lst [])) := Kp.trans (Kp.new Kp.refl fD) (Kp.new Kp.refl fq)
            cases eo : offs z.cps.toList with
            | nil =>
              rw [eo] at hDq
              refine .inl ⟨_, _, _, _, rfl, rfl, SqL.of hDq, SqL.of upd_same, rfl, (fun i x y h => by simp at h), _, rfl, iteF ?_⟩
              rw [eo] at K2
              refine ⟨⟨_, rfl⟩, K1.trans K2, ?_⟩
              rw [List.take_succ, e1, List.all_append, al]
              have := (offs_nil c1 c2).mp eo
              simp [this]
            | cons u us =>
              rw [eo] at hDq
              refine .inr ⟨_, _, _, _, rfl, rfl, SqL.of hDq, SqL.of upd_same, by simp, _, rfl, iteT ?_⟩
              rw [eo] at K2
              refine off z hm ?_ _ (KH.trans K2)
              cases hb : nameB z with
              | false => rfl
              | true => rw [(offs_nil c1 c2).mpr hb] at eo; cases eo
      · rintro σ H' ⟨⟨o1, rfl⟩, K1, al⟩
        rw [List.length_map, List.take_length] at al
        rw [al, if_pos rfl] at eb
        have KH : Kp [] H H' := Kp.trans (Kp.new Kp.refl fl) K1
        refine ⟨_, rfl, rfl, _, _, rfl, rfl, (by decide), by omega, fun q hq => ?_⟩
        have fq : Fre H' q := hq
        rcases k with ⟨r, er, k⟩ | ⟨er, _⟩
        · rw [eb] at er; cases er
          exact k q _ (KH.fre fq (by simp)) upd_same (KH.trans (Kp.new Kp.refl fq))
        · rw [eb] at er; cases er
end
end My
set_option Elab.async false
set_option linter.all false
set_option maxRecDepth 100000
set_option maxHeartbeats 4000000
namespace My
open PySem L2
section
variable {P : Program} {w : World} {K : PySem.W.Frag} {mg : Str → Option Value} {base : Heap}
def spDue : Sp := fun vs H Q _ => ∃ x : Str, vs = [.str x] ∧ x.length ≤ 100000 ∧
    ((∃ rs, planB x = some rs ∧ ∀ (l : Addr) (as : List Addr) (H' : Hp), RowsAt H H' l as rs → Kp [] H H' → Q (.ref l) H') ∨ (planB x = none ∧ ∀ H', Kp [] H H' → Q .non H'))
abbrev s_due : Stmt := top 37
theorem sc_due : FnScope ["_law_text_here", "_law_plan"] ["_law_text_here"] (defScope s_due) := ⟨rfl, rfl, rfl, by decide +kernel, rfl, by decide +kernel, by decide +kernel⟩
def DueAt (H H' : Hp) (D : Addr) (ps : List Str) (i : Nat) (ys : List V) : Prop :=
  (∃ as, ys = as.map V.ref ∧ RowsAt H H' D as ((ps.take i).map fun y => (turnB y).getD []) ∧ (ps.take i).all (fun y => (turnB y).isSome) = true) ∨
  (ps.all (fun y => (turnB y).isSome) = false ∧ V.non ∈ ys ∧ H' D = some (.lst ys) ∧ ∀ z ∈ ys, z = .non ∨ ∃ a xs, z = .ref a ∧ a ≠ D ∧ H' a = some (.lst xs))
theorem ok_due {f : Addr} {fd : FuncData} (F : Fun K "_law_due" "_law_due" s_due f fd) (T : Txt K mg) (C_turn_of : Cal P w K mg base "_law_turn_of" 1 ["_law_part"] spTurnOf) : FnOk P w K mg base CX0 2 f fd ["_law_text_here"] spDue := by
  refine F.ok sc_due (fun vs H Q E h => ?_) (fun cdv A outer s H vs Q E hr h => ?_)
  · obtain ⟨x, rfl, _⟩ := h
    rfl
  · obtain ⟨x, rfl, hx, k⟩ := h
    have HR_turn_of := hr
    refine ⟨_, (pss_cons (ps_if (pt_cmpR op_eq (pv 0) pe_str (nomark _))
        (pss_one (ps_ret (pe_lst pa_nil)))
        pss_nil)
      (pss_cons (ps_comp (i := 1) rfl (blk_mk (sc := defScope s_due) rfl (by decide +kernel)) (Draws.own (x := "_law_part") Draws.nil) (pi_list (pe_bm PySem.F.plainAttrs_str PySem.F.slot_str_split PySem.F.type_str_split mt_split (pv 0) (pa_cons pe_str pa_nil))) (fun C s₀ H₀ ex => (pg_name (i := 0) (show List.Nodup (["_law_part"] : List Str) by decide +kernel) rfl (by walk_at "lc"))) (fun C s₀ H₀ ex => pts_nil) (fun C s₀ H₀ ex => (pe_callC C_turn_of HR_turn_of rfl (pa_cons (pv 0) pa_nil))) sc_due.nd rfl rfl)
      (pss_cons (ps_if (pt_cmpR (op_in_non hr) pe_non (pv 1) (by rfl))
        (pss_one (ps_ret pe_non))
        pss_nil)
      (pss_one (ps_ret (pv 1)))))), ?_⟩
    refine ⟨_, rfl, rfl, _, rfl, ?_⟩
    refine ite2 (fun c => ?_) (fun c => ?_)
    · have e : x = "" := by
        have := of_decide_eq_true c
        injection this
      have eb : planB x = some [] := by unfold planB; rw [if_pos e]
      refine ⟨(by walk_at "ln"), fun l hl => ?_⟩
      rcases k with ⟨r, er, k⟩ | ⟨er, _⟩
      · rw [eb] at er; cases er
        exact k l [] _ (RowsAt.nil upd_same hl) (Kp.new Kp.refl hl)
      · rw [eb] at er; cases er
    · have e : ¬ x = "" := fun z => c (by rw [z]; decide)
      have eb : planB x = if (Txt.split x " / ").all (fun y => (turnB y).isSome) = true then some ((Txt.split x " / ").map fun y => (turnB y).getD []) else none := by unfold planB; rw [if_neg e]
      refine ⟨_, rfl, rfl, _, _, rfl, rfl, (by decide), by omega, fun p hp => ?_⟩
      have fp : Fre H p := hp
      refine ⟨_, rfl, ⟨_, SqL.of upd_same⟩, fun D hD => ?_⟩
      have fD : Fre (upd H p (.lst ((Txt.split x " / ").map V.str))) D := hD
      have npD : p ≠ D := ne_fre fD upd_same
      have many : (Txt.split x " / ").length ≤ 100002 := Nat.le_trans (split_many x " / ") (by omega)
      generalize hps : Txt.split x " / " = ps at *
      refine comp_list0 (ps.map V.str) (fun i ys τ H' => (∃ o0, τ = [o0]) ∧ ys.length = i ∧ DueAt H H' D ps i ys ∧ H' p = some (.lst (ps.map V.str)) ∧ Fre H D ∧ Kp [] H H') ?_ ?_ ?_ ?_
      · have fD' : Fre H D := Kp.fre (M := []) (Kp.new Kp.refl fp) fD (by simp)
        exact ⟨⟨_, rfl⟩, rfl, .inl ⟨[], rfl, RowsAt.nil upd_same fD', rfl⟩, by rw [upd_ne npD]; exact upd_same, fD', Kp.new (Kp.new Kp.refl fp) fD'⟩
      · rintro i ys τ H' ⟨_, _, _, h1, _, K1⟩
        exact SqL.of h1
      · rintro i y ys τ H' hy ⟨⟨o0, rfl⟩, el, dd, h1, fD', K1⟩
        rw [List.getElem?_map] at hy
        cases e2 : ps[i]? with
        | none => rw [e2] at hy; cases hy
        | some z =>
          rw [e2] at hy
          cases hy
          have hi : i < ps.length := (List.getElem?_eq_some_iff.mp e2).1
          have hz : z.length ≤ x.length := split_len (sep := " / ") (by rw [hps]; exact List.mem_of_getElem? e2)
          have hln : ys.length < sizeLine := by rw [el, sizeLine_eq]; omega
          refine ⟨_, rfl, z, rfl, by omega, ?_⟩
          have hDl : H' D = some (.lst ys) := by
            rcases dd with ⟨as, rfl, R, _⟩ | ⟨_, _, h, _⟩
            · exact R.top
            · exact h
          have badof : turnB z = none → ps.all (fun y => (turnB y).isSome) = false := fun hb => by
            rw [Bool.eq_false_iff]
            intro q
            rw [List.all_eq_true] at q
            have := q z (List.mem_of_getElem? e2)
            rw [hb] at this
            cases this
          cases hb : turnB z with
          | some r =>
            refine .inl ⟨r, rfl, fun a H'' fa ha K2 => ?_⟩
            have naD : a ≠ D := (ne_fre fa hDl).symm
            refine ⟨K2 D _ hDl (by simp), hln, ⟨_, rfl⟩, by rw [List.length_append, el]; rfl, ?_, ?_, fD', Kp.new (K1.trans K2) fD'⟩
            · rcases dd with ⟨as, rfl, R, al⟩ | ⟨b, hn, h, q⟩
              · have R2 : RowsAt H H'' D as ((ps.take i).map fun y => (turnB y).getD []) := R.kp K2 (by simp) (fun _ _ => by simp)
                refine .inl ⟨as ++ [a], by simp, ?_, ?_⟩
                · rw [List.take_succ, e2, List.map_append]
                  have := R2.more ha naD (K1.fre fa (by simp))
                  simpa [hb] using this
                · rw [List.take_succ, e2, List.all_append, al]
                  simp [hb]
              · refine .inr ⟨b, List.mem_append_left _ hn, upd_same, fun v hv => ?_⟩
                rcases List.mem_append.mp hv with m | m
                · rcases q v m with rfl | ⟨a', xs, rfl, n', e'⟩
                  · exact .inl rfl
                  · exact .inr ⟨a', xs, rfl, n', by rw [upd_ne n']; exact K2 a' _ e' (by simp)⟩
                · have : v = V.ref a := by simpa using m
                  subst this
                  exact .inr ⟨a, _, rfl, naD, by rw [upd_ne naD]; exact ha⟩
            · rw [upd_ne npD]
              exact K2 p _ h1 (by simp)
          | none =>
            refine .inr ⟨rfl, fun H'' K2 => ?_⟩
            refine ⟨K2 D _ hDl (by simp), hln, ⟨_, rfl⟩, by rw [List.length_append, el]; rfl, ?_, ?_, fD', Kp.new (K1.trans K2) fD'⟩
            · refine .inr ⟨badof hb, List.mem_append_right _ (by simp), upd_same, fun v hv => ?_⟩
              rcases List.mem_append.mp hv with m | m
              · rcases dd with ⟨as, rfl, R, al⟩ | ⟨b, hn, h, q⟩
                · obtain ⟨a', ha', rfl⟩ := List.mem_map.mp m
                  obtain ⟨r, _, e'⟩ := R.mem ha'
                  exact .inr ⟨a', _, rfl, R.ne a' ha', by rw [upd_ne (R.ne a' ha')]; exact K2 a' _ e' (by simp)⟩
                · rcases q v m with rfl | ⟨a', xs, rfl, n', e'⟩
                  · exact .inl rfl
                  · exact .inr ⟨a', xs, rfl, n', by rw [upd_ne n']; exact K2 a' _ e' (by simp)⟩
              · exact .inl (by simpa using m)
            · rw [upd_ne npD]
              exact K2 p _ h1 (by simp)
      · rintro ys τ H' ⟨_, el, dd, h1, fD', K1⟩
        rcases dd with ⟨as, rfl, R, al⟩ | ⟨b, hn, h, q⟩
        · rw [List.length_map, List.take_length] at R al
          rw [al, if_pos rfl] at eb
          refine ⟨_, rfl, _, _, rfl, rfl, SqL.of R.top, fun z hz => ?_, _, rfl, ?_⟩
          · obtain ⟨a', ha', rfl⟩ := List.mem_map.mp hz
            obtain ⟨r, _, e'⟩ := R.mem ha'
            exact .inr ⟨a', _, rfl, SqL.of e'⟩
          · have en : ((as.map V.ref).any fun z => decide (z = V.non)) = false := by simp
            rw [en]
            refine iteF ⟨_, rfl, ?_⟩
            rcases k with ⟨rs, er, k⟩ | ⟨er, _⟩
            · rw [eb] at er; cases er
              exact k D as H' R K1
            · rw [eb] at er; cases er
        · rw [b, if_neg (by simp)] at eb
          refine ⟨_, rfl, _, _, rfl, rfl, SqL.of h, fun z hz => ?_, _, rfl, ?_⟩
          · rcases q z hz with rfl | ⟨a', xs, rfl, _, e'⟩
            · exact .inl rfl
            · exact .inr ⟨a', xs, rfl, SqL.of e'⟩
          · have en : (ys.any fun z => decide (z = V.non)) = true := List.any_eq_true.mpr ⟨_, hn, by simp⟩
            rw [en]
            refine iteT ?_
            rcases k with ⟨rs, er, k⟩ | ⟨_, k⟩
            · rw [eb] at er; cases er
            · exact k H' K1
end
end My
set_option Elab.async false
set_option linter.all false
set_option maxRecDepth 100000
set_option maxHeartbeats 4000000
namespace L2
open PySem PySem.Spec PyProof.Rows
open AutoSeq1 (wpAny_loadPart')
section
variable {X : Cx}
end
end L2
set_option Elab.async false
set_option linter.all false
set_option maxRecDepth 100000
set_option maxHeartbeats 4000000
namespace L2
open PySem PySem.Spec PyProof.Rows
def notStar : Expr → Bool
  | .Starred .. => false
  | _ => true
theorem star_cons {e : Expr} {es : List Expr} {env : Env} (h : notStar e = true) : starEach (e :: es) env = (false, eval e env) :: starEach es env := by
  cases e <;> first | rfl | cases h
@[irreducible] def PAI (X : Cx) (es : List Expr) (t : TA) : Prop := PA X es t
theorem PAI.to {X : Cx} {es : List Expr} {t : TA} (h : PAI X es t) : PA X es t := by unfold PAI at h; exact h
theorem PAI.of {X : Cx} {es : List Expr} {t : TA} (h : PA X es t) : PAI X es t := by unfold PAI; exact h
theorem pai_nil {X : Cx} : PAI X [] tNil := PAI.of pa_nil
theorem pai_c {X : Cx} {e : Expr} {es : List Expr} {te : TE} {t : TA} (ha : PE X e te) (hr : PAI X es t) (hs : notStar e = true := by rfl) : PAI X (e :: es) (tCons te t) := PAI.of (pa_cons ha hr.to (star_cons hs))
theorem pe_lstI {X : Cx} {es : List Expr} {t : TA} {pos : Pos} (h : PAI X es t) : PE X (.List es pos) (tLst t) := pe_lst h.to
theorem pe_tupI {X : Cx} {es : List Expr} {t : TA} {x1 pos} (h : PAI X es t) : PE X (.Tuple es x1 pos) (tTup t) := pe_tup h.to
open PySem.W in
theorem excKit_of {K : PySem.W.Frag} {C : Addr} (h1 : mroIn K C (.type "object") = some true) (h2 : mroIn K C (.type "BaseException") = some true) (h3 : findIn K (.ref C) "__getattribute__" = some (some (.builtin "BaseException.__getattribute__"))) (h4 : findIn K (.ref C) "__getattr__" = some none)
    (h5 : findIn K (.ref C) "__class__" = some (some (.builtin "object.__class__"))) (h6 : specialIn K (.builtin "object.__class__") "__get__" = some (some (.builtin "getset_descriptor.__get__"))) (h7 : takesIn K (.builtin "object.__class__") = some true) (h8 : isClsIn K C = true) : excKit K C = true := by
  unfold isClsIn at h8
  unfold excKit
  rw [h1, h2, h3, h4, h5, h6, h7, h8]
  simp
open PySem.W in
theorem mroK_of {K : PySem.W.Frag} {C : Addr} {v : Value} (h : mroIn K C v = some true) : (mroK K C).contains v = true := by
  unfold mroIn clsIn at h
  unfold mroK
  split at h
  · rename_i e
    rw [Option.bind_some] at h
    split at h
    · cases h
    · rw [e]
      injection h
  · cases h
end L2
set_option Elab.async false
set_option linter.all false
set_option maxRecDepth 100000
set_option maxHeartbeats 4000000
namespace My
open PySem L2
theorem rows_alike {K : PySem.W.Frag} {H : Hp} {l l' : Addr} {as as' : List Addr} {rs : List (List Str)} (R : RowsR H l as rs) (R' : RowsR H l' as' rs) (i : Nat) (x y : V) (hx : (as.map V.ref)[i]? = some x) (hy : (as'.map V.ref)[i]? = some y) : Alike K H 8 x y := by
  have hi : i < rs.length := by
    have := (List.getElem?_eq_some_iff.mp hx).1
    rw [List.length_map, R.len] at this; exact this
  obtain ⟨a, r, ea, er, ev, ha⟩ := R.at hi
  obtain ⟨a', r', ea', er', ev', ha'⟩ := R'.at hi
  rw [er] at er'; cases er'
  rw [hx] at ev; cases ev
  rw [hy] at ev'; cases ev'
  refine .lists (SqL.of ha) (SqL.of ha') rfl fun j u v hu hv => ?_
  rw [hu] at hv; cases hv
  rw [List.getElem?_map] at hu
  cases e : r[j]? with
  | none => rw [e] at hu; cases hu
  | some z => rw [e] at hu; cases hu; exact .flat rfl
theorem kit_lt {K : PySem.W.Frag} : PySem.W.kitOne K (.type "list") (.type "tuple") = some false := by rfl
theorem kit_nt {K : PySem.W.Frag} : PySem.W.kitOne K (.type "NoneType") (.type "tuple") = some false := by rfl
theorem kit_ns {K : PySem.W.Frag} : PySem.W.kitOne K (.type "NoneType") (.type "str") = some false := by rfl
theorem kit_is {K : PySem.W.Frag} : PySem.W.kitOne K (.type "int") (.type "str") = some false := by rfl
theorem kit_bs {K : PySem.W.Frag} : PySem.W.kitOne K (.type "bool") (.type "str") = some false := by rfl
theorem kit_ls {K : PySem.W.Frag} : PySem.W.kitOne K (.type "list") (.type "str") = some false := by rfl
theorem kit_ts {K : PySem.W.Frag} : PySem.W.kitOne K (.type "tuple") (.type "str") = some false := by rfl
theorem kit_ds {K : PySem.W.Frag} : PySem.W.kitOne K (.type "dict") (.type "str") = some false := by rfl
section
variable {P : Program} {w : World} {K : PySem.W.Frag} {mg : Str → Option Value} {base : Heap}
def spLaw (K : PySem.W.Frag) : Sp := fun vs H Q _ => ∃ (a : Addr) (ns : List Int), vs = [.ref a] ∧ SqL K H a (ns.map V.int) ∧ ns.length ≤ 63 ∧ ∀ H', Q (.bl true) H'
abbrev s_law : Stmt := top 39
theorem sc_law : FnScope ["_law_script", "_law_cell_here", "_law_purse_here", "_law_text_here", "_law_found", "_law_thing"] ["_law_script"] (defScope s_law) := ⟨rfl, rfl, rfl, by decide +kernel, rfl, by decide +kernel, by decide +kernel⟩
theorem ok_law {f : Addr} {fd : FuncData} (F : Fun K "law" "law" s_law f fd) (T : Txt K mg) (C_cell : Cal P w K mg base "_law_cell" 1 ["_law_script", "_law_k"] (spCell K)) (C_purse : Cal P w K mg base "_law_purse" 1 ["_law_cell_here", "_law_k"] spPurse)
    (C_short_plan : Cal P w K mg base "_law_short_plan" 2 ["_law_purse_here"] spPlan) (C_text : Cal P w K mg base "_law_text" 1 ["_law_plan"] spText) (C_spoilt : Cal P w K mg base "_law_spoilt" 2 ["_law_purse_here", "_law_text_here"] spSpoilt)
    (C_read : Cal P w K mg base "_law_read" 5 ["_law_text_here"] (spLRead K)) (C_due : Cal P w K mg base "_law_due" 2 ["_law_text_here"] spDue) : FnOk P w K mg base CX0 6 f fd ["_law_script"] (spLaw K) := by
  refine F.ok sc_law (fun vs H Q E h => ?_) (fun cdv A outer s H vs Q E hr h => ?_)
  · obtain ⟨a, ns, rfl, _⟩ := h
    rfl
  · obtain ⟨a, ns, rfl, hS, hlen, k⟩ := h
    have HR_cell : Room 1 _ := hr.mono (by decide)
    have HR_purse : Room 1 _ := hr.mono (by decide)
    have HR_short_plan : Room 2 _ := hr.mono (by decide)
    have HR_text : Room 1 _ := hr.mono (by decide)
    have HR_spoilt : Room 2 _ := hr.mono (by decide)
    have HR_due : Room 2 _ := hr.mono (by decide)
    have HR_read : Room 5 _ := hr
    refine ⟨_, (pss_cons (ps_for PassesOwn.never rfl (pi_list (pe_op op_cat (pe_slice sl_list (pv 0) po_none (po_some pe_int)) (pe_lst (pa_cons (pe_callC C_cell HR_cell rfl (pa_cons (pv 0) (pa_cons pe_int pa_nil))) pa_nil)))) (pg_name (i := 1) sc_law.nd rfl (by walk_at "lc"))
        (pss_cons (ps_set (i := 2) sc_law.nd rfl (by walk_at "lc") (pe_callC C_purse HR_purse rfl (pa_cons (pv 1) (pa_cons pe_int pa_nil))))
        (pss_cons (ps_set (i := 3) sc_law.nd rfl (by walk_at "lc") (pe_callC C_spoilt HR_spoilt rfl (pa_cons (pv 2) (pa_cons (pe_callC C_text HR_text rfl (pa_cons (pe_callC C_short_plan HR_short_plan rfl (pa_cons (pv 2) pa_nil)) pa_nil)) pa_nil))))
        (pss_cons (ps_set (i := 4) sc_law.nd rfl (by walk_at "lc") (pe_callC C_read HR_read rfl (pa_cons (pv 3) pa_nil)))
        (pss_one (ps_if (PW.pt (pw_or (pt_cmpR (op_neLN hr) (pv 4) (pe_callC C_due HR_due rfl (pa_cons (pv 3) pa_nil)) (nomark _)) (pw_or1 (pt_val (pe_callB call_isT (by rfl) T.z_isinstance bo_isinstance (pa_cons (pv 4) (pa_cons (pe_bltn (by rfl) T.z_tuple bo_tuple (v := .ty "tuple") rfl) pa_nil)))))))
          (pss_one (ps_ret pe_bl))
          pss_nil))))))
      (@pss_cons _ _ _ _ _ (@ps_for _ _ _ _ _ _ _ _ (by exact PassesOwn.never) (by rfl) (@pi_list _ _ _ _ (@pe_lstI _ _ _ _ (pai_c pe_non (pai_c pe_int (pai_c pe_bl (pai_c (pe_lstI (pai_c pe_str pai_nil)) (pai_c (pe_tupI (pai_c pe_str pai_nil)) (pai_c pe_dnewK (pai_c (pe_lstI (pai_c (pe_lstI (pai_c pe_str pai_nil)) pai_nil)) (pai_c (pe_lstI (pai_c (pe_lstI pai_nil) pai_nil)) pai_nil)))))))))) (by exact (pg_name (i := 5) sc_law.nd rfl (by walk_at "lc"))) (by exact (pss_one (ps_if (pt_cmpR op_notN (pe_callC C_read HR_read rfl (pa_cons (pv 5) pa_nil)) pe_non (nomark _))
          (pss_one (ps_ret pe_bl))
          pss_nil))) (by intro _; rfl)) (by exact (pss_one (ps_ret (pe_cmpR (op_eqL hr) (pe_callC C_read HR_read rfl (pa_cons pe_str pa_nil)) (pe_lst pa_nil) (nomark _))))))), ?_⟩
    refine ⟨_, rfl, _, rfl, _, _, rfl, hS, fun b hb => ?_⟩
    have fb : Fre H b := hb
    have hS2 := Kp.seq (Kp.new (o := .lst (cutV (ns.map V.int) none (some 30))) Kp.refl fb) hS
    refine ⟨_, rfl, a, ns, 30, rfl, hS2, by decide, fun c => ⟨(by walk_at "ln"), fun d hd => ?_⟩⟩
    have fd' := (show Fre _ d from hd)
    have nbd : b ≠ d := ne_fre fd' upd_same
    refine ⟨_, _, _, _, rfl, rfl, by rw [upd_ne nbd]; exact upd_same, upd_same, ?_, fun e he => ?_⟩
    · have := len_cut (xs := ns.map V.int) (lo := none) (hi := some 30)
      rw [List.length_map] at this
      rw [sizeLine_eq]
      show _ + 1 ≤ _
      omega
    have hxi : ∀ x ∈ cutV (ns.map V.int) none (some 30) ++ [V.int c], ∃ z, x = V.int z := fun x hx => by
      rcases List.mem_append.mp hx with z | z
      · obtain ⟨n, _, rfl⟩ := List.mem_map.mp (mem_cut z)
        exact ⟨n, rfl⟩
      · exact ⟨c, by simpa using z⟩
    generalize cutV (ns.map V.int) none (some 30) ++ [V.int c] = xs at hxi
    generalize (upd (upd H b _) d _) = Hc at he
    refine ⟨_, rfl, ⟨xs, SqL.of upd_same⟩, for_list (xs := xs) (fun i σ H' => (∃ o1 o2 o3 o4 o5, σ = [some (.ref a), o1, o2, o3, o4, o5]) ∧ H' e = some (.lst xs)) ⟨⟨_, _, _, _, _, rfl⟩, upd_same⟩ ?_ ?_ ?_⟩
    · rintro i σ H' _ ⟨_, h⟩
      exact SqL.of h
    · rintro i x σ H' hx ⟨⟨o1, o2, o3, o4, o5, rfl⟩, h1⟩
      obtain ⟨z, rfl⟩ := hxi x (List.mem_of_getElem? hx)
      refine ⟨_, rfl, z, 1, rfl, by decide, by decide, fun p H2 fp P2 K2 => ?_⟩
      refine ⟨_, rfl, _, rfl, p, rfl, P2, fun l as rs H3 R3 ok3 P3 K3 => ?_⟩
      refine ⟨l, as, rs, rfl, R3.rd, ok3, fun H4 K4 => ?_⟩
      refine ⟨p, _, rfl, Nat.le_trans (plan_len ok3) (by decide), P3.kp K4 (by simp), fun y H5 hy P5 K5 => ?_⟩
      have KH5 : Kp [] H' H5 := Kp.drop K2 fp (K3.trans (K4.of0.trans K5))
      refine ⟨_, rfl, _, rfl, .inl ⟨y, rfl, by omega, ?_⟩⟩
      cases hb : planB y with
      | some qs =>
        refine .inl ⟨qs, rfl, fun l2 as2 H6 R6 K6 => ?_⟩
        refine ⟨_, rfl, _, rfl, y, rfl, by omega, .inl ⟨qs, hb, fun l3 as3 H7 R7 K7 => ?_⟩⟩
        have R6' := R6.rd.kp K7
        refine .inl ⟨_, _, _, _, rfl, rfl, SqL.of R6'.top, SqL.of R7.top, by rw [List.length_map, List.length_map, R6'.len, R7.len], rows_alike R6' R7.rd, _, rfl, iteF ?_⟩
        refine ⟨_, rfl, _, _, _, _, rfl, TyOf.lst R6'.top, kit_lt, _, rfl, iteF ?_⟩
        exact ⟨⟨_, _, _, _, _, rfl⟩, K7 e _ (K6 e _ (KH5 e _ h1 (by simp)) (by simp)) (by simp)⟩
      | none =>
        refine .inr ⟨rfl, fun H6 K6 => ?_⟩
        refine ⟨_, rfl, _, rfl, y, rfl, by omega, .inr ⟨hb, fun H7 K7 => ?_⟩⟩
        refine .inr ⟨rfl, _, rfl, iteF ?_⟩
        refine ⟨_, rfl, _, _, _, _, rfl, TyOf.non, kit_nt, _, rfl, iteF ?_⟩
        exact ⟨⟨_, _, _, _, _, rfl⟩, K7 e _ (K6 e _ (KH5 e _ h1 (by simp)) (by simp)) (by simp)⟩
    · rintro σ H1 ⟨⟨o1, o2, o3, o4, o5, rfl⟩, _⟩
      refine ⟨(by walk_at "ln"), fun l1 g1 => ⟨(by walk_at "ln"), fun l2 g2 => fun l3 g3 => ⟨(by walk_at "ln"), fun l4 g4 => ⟨(by walk_at "ln"), fun l5 g5 => ⟨(by walk_at "ln"), fun l6 g6 => ⟨(by walk_at "ln"), fun l7 g7 => ⟨(by walk_at "ln"), fun l8 g8 => ?_⟩⟩⟩⟩⟩⟩⟩
      have a1 : Fre _ l1 := g1
      have a2 : Fre _ l2 := g2
      have a3 : Fre _ l3 := g3
      have a4 : Fre _ l4 := g4
      have a5 : Fre _ l5 := g5
      have a6 : Fre _ l6 := g6
      have a7 : Fre _ l7 := g7
      have a8 : Fre _ l8 := g8
      have e5 := upd_same (H := upd (upd (upd (upd H1 l1 (.lst [.str "a"])) l2 (.tup [.str "a"])) l3 (.dK [])) l4 (.lst [.str "a"])) (a := l5) (o := .lst [.ref l4])
      have b1 := upd_same (H := H1) (a := l1) (o := .lst [.str "a"])
      have b2 := upd_same (H := upd H1 l1 (.lst [.str "a"])) (a := l2) (o := .tup [.str "a"])
      have b3 := upd_same (H := upd (upd H1 l1 (.lst [.str "a"])) l2 (.tup [.str "a"])) (a := l3) (o := .dK [])
      have b7 := upd_same (H := upd (upd (upd (upd (upd (upd H1 l1 (.lst [.str "a"])) l2 (.tup [.str "a"])) l3 (.dK [])) l4 (.lst [.str "a"])) l5 (.lst [.ref l4])) l6 (.lst [])) (a := l7) (o := .lst [.ref l6])
      have k8 : Kp [] _ _ := Kp.new (o := .lst [.non, .int 7, .bl true, .ref l1, .ref l2, .ref l3, .ref l5, .ref l7]) Kp.refl a8
      have k7 : Kp [] _ _ := Kp.new (o := .lst [.ref l6]) Kp.refl a7
      have k6 : Kp [] _ _ := Kp.new (o := .lst []) Kp.refl a6
      have k5 : Kp [] _ _ := Kp.new (o := .lst [.ref l4]) Kp.refl a5
      have k4 : Kp [] _ _ := Kp.new (o := .lst [.str "a"]) Kp.refl a4
      have k3 : Kp [] _ _ := Kp.new (o := .dK []) Kp.refl a3
      have k2 : Kp [] _ _ := Kp.new (o := .tup [.str "a"]) Kp.refl a2
      have k68 := k6.trans (k7.trans k8)
      have k48 := k4.trans (k5.trans k68)
      have w1 := (k2.trans (k3.trans k48)) _ _ b1 (by simp)
      have w2 := (k3.trans k48) _ _ b2 (by simp)
      have w3 := k48 _ _ b3 (by simp)
      have w5 := k68 _ _ e5 (by simp)
      have w7 := k8 _ _ b7 (by simp)
      refine ⟨_, rfl, ⟨_, SqL.of upd_same⟩, ?_⟩
      have w8 := upd_same (H := upd (upd (upd (upd (upd (upd (upd H1 l1 (.lst [.str "a"])) l2 (.tup [.str "a"])) l3 (.dK [])) l4 (.lst [.str "a"])) l5 (.lst [.ref l4])) l6 (.lst [])) l7 (.lst [.ref l6])) (a := l8) (o := .lst [.non, .int 7, .bl true, .ref l1, .ref l2, .ref l3, .ref l5, .ref l7])
      generalize hHL : upd (upd (upd (upd (upd (upd (upd (upd H1 l1 (.lst [.str "a"])) l2 (.tup [.str "a"])) l3 (.dK [])) l4 (.lst [.str "a"])) l5 (.lst [.ref l4])) l6 (.lst [])) l7 (.lst [.ref l6])) l8 (.lst [.non, .int 7, .bl true, .ref l1, .ref l2, .ref l3, .ref l5, .ref l7]) = HL at w1 w2 w3 w5 w7 w8
      refine for_list (xs := [.non, .int 7, .bl true, .ref l1, .ref l2, .ref l3, .ref l5, .ref l7]) (fun i σ H' => (∃ o1 o2 o3 o4 o5, σ = [some (.ref a), o1, o2, o3, o4, o5]) ∧ Kp [] HL H') ⟨⟨_, _, _, _, _, rfl⟩, by rw [← hHL]; exact Kp.refl⟩ ?_ ?_ ?_
      · rintro i σ H' _ ⟨_, K1⟩
        exact SqL.of (K1 _ _ w8 (by simp))
      · rintro i x σ H' hx ⟨⟨o1, o2, o3, o4, o5, rfl⟩, K1⟩
        have ty : ∃ t, TyOf K H' x t ∧ PySem.W.kitOne K t (.type "str") = some false := by
          have hm := List.mem_of_getElem? hx
          simp only [List.mem_cons, List.not_mem_nil, or_false] at hm
          rcases hm with rfl | rfl | rfl | rfl | rfl | rfl | rfl | rfl
          · exact ⟨_, TyOf.non, kit_ns⟩
          · exact ⟨_, TyOf.int _, kit_is⟩
          · exact ⟨_, TyOf.bl _, kit_bs⟩
          · exact ⟨_, TyOf.lst (K1 _ _ w1 (by simp)), kit_ls⟩
          · exact ⟨_, TyOf.tup (K1 _ _ w2 (by simp)), kit_ts⟩
          · exact ⟨_, TyOf.dK (K1 _ _ w3 (by simp)), kit_ds⟩
          · exact ⟨_, TyOf.lst (K1 _ _ w5 (by simp)), kit_ls⟩
          · exact ⟨_, TyOf.lst (K1 _ _ w7 (by simp)), kit_ls⟩
        obtain ⟨t, ty, kt⟩ := ty
        refine ⟨_, rfl, _, rfl, .inr ⟨t, ty, kt, fun H2 K2 => ⟨rfl, _, rfl, iteF ?_⟩⟩⟩
        exact ⟨⟨_, _, _, _, _, rfl⟩, K1.trans K2⟩
      · rintro σ H' ⟨⟨o1, o2, o3, o4, o5, rfl⟩, K1⟩
        refine ⟨_, rfl, .inl ⟨"", rfl, by decide, .inl ⟨[], by decide +kernel, fun l as H2 R2 K2 => ⟨(by walk_at "ln"), fun q hq => ?_⟩⟩⟩⟩
        have e0 : as = [] := List.eq_nil_of_length_eq_zero R2.len
        subst e0
        have fq : Fre H2 q := hq
        refine .inl ⟨_, _, _, _, rfl, rfl, SqL.of (xs := []) ?_, SqL.of upd_same, rfl, (fun i x y h => by simp at h), k _⟩
        rw [upd_ne (ne_fre fq R2.top)]; exact R2.top
end
end My
set_option Elab.async false
set_option linter.all false
set_option maxRecDepth 100000
set_option maxHeartbeats 4000000
namespace My
open PySem L2
theorem all_mk {l : PySem.W.OpenLaw} {w : World} {K : PySem.W.Frag} {h : Heap} {mg : Str → Option Value} {fa : Addr} (X : K.In h) (G : h.Ns mainGlobals mg) (hfa : mg "law" = some (.ref fa))
    {f0 : Addr} {od0 an0 : Option Addr} {sl0 : Array (Option Value)} {oc0 kV0 dc0 pm0 cd0 ct0 : Value}
    {f1 : Addr} {od1 an1 : Option Addr} {sl1 : Array (Option Value)} {oc1 kV1 dc1 pm1 cd1 ct1 : Value}
    {f2 : Addr} {od2 an2 : Option Addr} {sl2 : Array (Option Value)} {oc2 kV2 dc2 pm2 cd2 ct2 : Value}
    {f3 : Addr} {od3 an3 : Option Addr} {sl3 : Array (Option Value)} {oc3 kV3 dc3 pm3 cd3 ct3 : Value}
    {f4 : Addr} {od4 an4 : Option Addr} {sl4 : Array (Option Value)} {oc4 kV4 dc4 pm4 cd4 ct4 : Value}
    {f5 : Addr} {od5 an5 : Option Addr} {sl5 : Array (Option Value)} {oc5 kV5 dc5 pm5 cd5 ct5 : Value}
    {f6 : Addr} {od6 an6 : Option Addr} {sl6 : Array (Option Value)} {oc6 kV6 dc6 pm6 cd6 ct6 : Value}
    {f7 : Addr} {od7 an7 : Option Addr} {sl7 : Array (Option Value)} {oc7 kV7 dc7 pm7 cd7 ct7 : Value}
    {f8 : Addr} {od8 an8 : Option Addr} {sl8 : Array (Option Value)} {oc8 kV8 dc8 pm8 cd8 ct8 : Value}
    {f9 : Addr} {od9 an9 : Option Addr} {sl9 : Array (Option Value)} {oc9 kV9 dc9 pm9 cd9 ct9 : Value}
    {f10 : Addr} {od10 an10 : Option Addr} {sl10 : Array (Option Value)} {oc10 kV10 dc10 pm10 cd10 ct10 : Value}
    {f11 : Addr} {od11 an11 : Option Addr} {sl11 : Array (Option Value)} {oc11 kV11 dc11 pm11 cd11 ct11 : Value}
    {f12 : Addr} {od12 an12 : Option Addr} {sl12 : Array (Option Value)} {oc12 kV12 dc12 pm12 cd12 ct12 : Value}
    {f13 : Addr} {od13 an13 : Option Addr} {sl13 : Array (Option Value)} {oc13 kV13 dc13 pm13 cd13 ct13 : Value}
    {t_LONGEST_NAME : Tok}
    {t_BETWEEN_TURNS : Tok}
    {t_EMPTY_TURN : Tok}
    (a0 : PySem.W.nsIn K mainGlobals "_law_take" = some (some (.ref f0))) (l0 : K.lookup f0 = some ⟨oc0, od0, .func (PySem.W.fnOf "_law_take" "_law_take" (defArgs s_take) (defBody s_take) (defScope s_take) .none kV0 dc0 pm0 an0 cd0 ct0), sl0⟩) (c0 : PySem.W.codeIn K cd0 "_law_take" = true) (k0 : PySem.W.keepIn K (.ref f0) = true)
    (a1 : PySem.W.nsIn K mainGlobals "_law_purse" = some (some (.ref f1))) (l1 : K.lookup f1 = some ⟨oc1, od1, .func (PySem.W.fnOf "_law_purse" "_law_purse" (defArgs s_purse) (defBody s_purse) (defScope s_purse) .none kV1 dc1 pm1 an1 cd1 ct1), sl1⟩) (c1 : PySem.W.codeIn K cd1 "_law_purse" = true) (k1 : PySem.W.keepIn K (.ref f1) = true)
    (a2 : PySem.W.nsIn K mainGlobals "_law_cell" = some (some (.ref f2))) (l2 : K.lookup f2 = some ⟨oc2, od2, .func (PySem.W.fnOf "_law_cell" "_law_cell" (defArgs s_cell) (defBody s_cell) (defScope s_cell) .none kV2 dc2 pm2 an2 cd2 ct2), sl2⟩) (c2 : PySem.W.codeIn K cd2 "_law_cell" = true) (k2 : PySem.W.keepIn K (.ref f2) = true)
    (a3 : PySem.W.nsIn K mainGlobals "_law_short_plan" = some (some (.ref f3))) (l3 : K.lookup f3 = some ⟨oc3, od3, .func (PySem.W.fnOf "_law_short_plan" "_law_short_plan" (defArgs s_plan) (defBody s_plan) (defScope s_plan) .none kV3 dc3 pm3 an3 cd3 ct3), sl3⟩) (c3 : PySem.W.codeIn K cd3 "_law_short_plan" = true) (k3 : PySem.W.keepIn K (.ref f3) = true)
    (a4 : PySem.W.nsIn K mainGlobals "_law_text" = some (some (.ref f4))) (l4 : K.lookup f4 = some ⟨oc4, od4, .func (PySem.W.fnOf "_law_text" "_law_text" (defArgs s_text) (defBody s_text) (defScope s_text) .none kV4 dc4 pm4 an4 cd4 ct4), sl4⟩) (c4 : PySem.W.codeIn K cd4 "_law_text" = true) (k4 : PySem.W.keepIn K (.ref f4) = true)
    (a5 : PySem.W.nsIn K mainGlobals "_law_spoilt" = some (some (.ref f5))) (l5 : K.lookup f5 = some ⟨oc5, od5, .func (PySem.W.fnOf "_law_spoilt" "_law_spoilt" (defArgs s_spoilt) (defBody s_spoilt) (defScope s_spoilt) .none kV5 dc5 pm5 an5 cd5 ct5), sl5⟩) (c5 : PySem.W.codeIn K cd5 "_law_spoilt" = true) (k5 : PySem.W.keepIn K (.ref f5) = true)
    (a6 : PySem.W.nsIn K mainGlobals "is_name" = some (some (.ref f6))) (l6 : K.lookup f6 = some ⟨oc6, od6, .func (PySem.W.fnOf "is_name" "is_name" (defArgs s_is_name) (defBody s_is_name) (defScope s_is_name) .none kV6 dc6 pm6 an6 cd6 ct6), sl6⟩) (c6 : PySem.W.codeIn K cd6 "is_name" = true) (k6 : PySem.W.keepIn K (.ref f6) = true)
    (a7 : PySem.W.nsIn K mainGlobals "read_names" = some (some (.ref f7))) (l7 : K.lookup f7 = some ⟨oc7, od7, .func (PySem.W.fnOf "read_names" "read_names" (defArgs s_read_names) (defBody s_read_names) (defScope s_read_names) .none kV7 dc7 pm7 an7 cd7 ct7), sl7⟩) (c7 : PySem.W.codeIn K cd7 "read_names" = true) (k7 : PySem.W.keepIn K (.ref f7) = true)
    (a8 : PySem.W.nsIn K mainGlobals "read_turn" = some (some (.ref f8))) (l8 : K.lookup f8 = some ⟨oc8, od8, .func (PySem.W.fnOf "read_turn" "read_turn" (defArgs s_read_turn) (defBody s_read_turn) (defScope s_read_turn) .none kV8 dc8 pm8 an8 cd8 ct8), sl8⟩) (c8 : PySem.W.codeIn K cd8 "read_turn" = true) (k8 : PySem.W.keepIn K (.ref f8) = true)
    (a9 : PySem.W.nsIn K mainGlobals "read_plan" = some (some (.ref f9))) (l9 : K.lookup f9 = some ⟨oc9, od9, .func (PySem.W.fnOf "read_plan" "read_plan" (defArgs s_read_plan) (defBody s_read_plan) (defScope s_read_plan) .none kV9 dc9 pm9 an9 cd9 ct9), sl9⟩) (c9 : PySem.W.codeIn K cd9 "read_plan" = true) (k9 : PySem.W.keepIn K (.ref f9) = true)
    (a10 : PySem.W.nsIn K mainGlobals "_law_read" = some (some (.ref f10))) (l10 : K.lookup f10 = some ⟨oc10, od10, .func (PySem.W.fnOf "_law_read" "_law_read" (defArgs s_read) (defBody s_read) (defScope s_read) .none kV10 dc10 pm10 an10 cd10 ct10), sl10⟩) (c10 : PySem.W.codeIn K cd10 "_law_read" = true) (k10 : PySem.W.keepIn K (.ref f10) = true)
    (a11 : PySem.W.nsIn K mainGlobals "_law_turn_of" = some (some (.ref f11))) (l11 : K.lookup f11 = some ⟨oc11, od11, .func (PySem.W.fnOf "_law_turn_of" "_law_turn_of" (defArgs s_turn_of) (defBody s_turn_of) (defScope s_turn_of) .none kV11 dc11 pm11 an11 cd11 ct11), sl11⟩) (c11 : PySem.W.codeIn K cd11 "_law_turn_of" = true) (k11 : PySem.W.keepIn K (.ref f11) = true)
    (a12 : PySem.W.nsIn K mainGlobals "_law_due" = some (some (.ref f12))) (l12 : K.lookup f12 = some ⟨oc12, od12, .func (PySem.W.fnOf "_law_due" "_law_due" (defArgs s_due) (defBody s_due) (defScope s_due) .none kV12 dc12 pm12 an12 cd12 ct12), sl12⟩) (c12 : PySem.W.codeIn K cd12 "_law_due" = true) (k12 : PySem.W.keepIn K (.ref f12) = true)
    (a13 : PySem.W.nsIn K mainGlobals "law" = some (some (.ref f13))) (l13 : K.lookup f13 = some ⟨oc13, od13, .func (PySem.W.fnOf "law" "law" (defArgs s_law) (defBody s_law) (defScope s_law) .none kV13 dc13 pm13 an13 cd13 ct13), sl13⟩) (c13 : PySem.W.codeIn K cd13 "law" = true) (k13 : PySem.W.keepIn K (.ref f13) = true)
    (z_len : PySem.W.nsIn K mainGlobals "len" = some none)
    (z_max : PySem.W.nsIn K mainGlobals "max" = some none)
    (z_range : PySem.W.nsIn K mainGlobals "range" = some none)
    (z_int : PySem.W.nsIn K mainGlobals "int" = some none)
    (z_str : PySem.W.nsIn K mainGlobals "str" = some none)
    (z_list : PySem.W.nsIn K mainGlobals "list" = some none)
    (z_all : PySem.W.nsIn K mainGlobals "all" = some none)
    (z_tuple : PySem.W.nsIn K mainGlobals "tuple" = some none)
    (z_isinstance : PySem.W.nsIn K mainGlobals "isinstance" = some none)
    (z_ValueError : PySem.W.nsIn K mainGlobals "ValueError" = some none)
    {c_BenchError : Addr} (x_BenchError : PySem.W.nsIn K mainGlobals "BenchError" = some (some (.ref c_BenchError)))
    {c_NoText : Addr} (x_NoText : PySem.W.nsIn K mainGlobals "NoText" = some (some (.ref c_NoText)))
    {c_NoBench : Addr} (x_NoBench : PySem.W.nsIn K mainGlobals "NoBench" = some (some (.ref c_NoBench)))
    {c_NoEnd : Addr} (x_NoEnd : PySem.W.nsIn K mainGlobals "NoEnd" = some (some (.ref c_NoEnd)))
    {c_NoJob : Addr} (x_NoJob : PySem.W.nsIn K mainGlobals "NoJob" = some (some (.ref c_NoJob)))
    {c_NoLength : Addr} (x_NoLength : PySem.W.nsIn K mainGlobals "NoLength" = some (some (.ref c_NoLength)))
    {c_NoLine : Addr} (x_NoLine : PySem.W.nsIn K mainGlobals "NoLine" = some (some (.ref c_NoLine)))
    {c_NoName : Addr} (x_NoName : PySem.W.nsIn K mainGlobals "NoName" = some (some (.ref c_NoName)))
    {c_NoPaper : Addr} (x_NoPaper : PySem.W.nsIn K mainGlobals "NoPaper" = some (some (.ref c_NoPaper)))
    {c_NoRow : Addr} (x_NoRow : PySem.W.nsIn K mainGlobals "NoRow" = some (some (.ref c_NoRow)))
    {c_NoTurns : Addr} (x_NoTurns : PySem.W.nsIn K mainGlobals "NoTurns" = some (some (.ref c_NoTurns)))
    {c_NoWindow : Addr} (x_NoWindow : PySem.W.nsIn K mainGlobals "NoWindow" = some (some (.ref c_NoWindow)))
    {c_NoWood : Addr} (x_NoWood : PySem.W.nsIn K mainGlobals "NoWood" = some (some (.ref c_NoWood)))
    {c_Ring : Addr} (x_Ring : PySem.W.nsIn K mainGlobals "Ring" = some (some (.ref c_Ring)))
    {c_Stranger : Addr} (x_Stranger : PySem.W.nsIn K mainGlobals "Stranger" = some (some (.ref c_Stranger)))
    {c_TooMany : Addr} (x_TooMany : PySem.W.nsIn K mainGlobals "TooMany" = some (some (.ref c_TooMany)))
    {c_Twice : Addr} (x_Twice : PySem.W.nsIn K mainGlobals "Twice" = some (some (.ref c_Twice)))
    (f_ok : PySem.W.excIn K c_NoText bmVE "ValueError.__new__" = true)
    (f_be : PySem.W.excIn K c_BenchError bmVE "ValueError.__new__" = true)
    (f_a1 : PySem.W.kitAny K (.ref c_NoText) [.ref c_NoBench, .ref c_NoEnd, .ref c_NoJob, .ref c_NoLength, .ref c_NoLine, .ref c_NoName, .ref c_NoPaper, .ref c_NoRow, .ref c_NoTurns, .ref c_NoWindow] = some false)
    (f_a2 : PySem.W.kitAny K (.ref c_NoText) [.ref c_NoWood, .ref c_Ring, .ref c_Stranger, .ref c_TooMany, .ref c_Twice] = some false)
    (f_av : PySem.W.kitOne K (.ref c_NoText) (.type "ValueError") = some true)
    (f_sub : PySem.W.mroIn K c_NoText (.ref c_BenchError) = some true)
    (f_k1 : PySem.W.mroIn K c_NoText (.type "object") = some true)
    (f_k2 : PySem.W.mroIn K c_NoText (.type "BaseException") = some true)
    (f_k3 : PySem.W.findIn K (.ref c_NoText) "__getattribute__" = some (some (.builtin "BaseException.__getattribute__")))
    (f_k4 : PySem.W.findIn K (.ref c_NoText) "__getattr__" = some none)
    (f_k5 : PySem.W.findIn K (.ref c_NoText) "__class__" = some (some (.builtin "object.__class__")))
    (f_k6 : PySem.W.specialIn K (.builtin "object.__class__") "__get__" = some (some (.builtin "getset_descriptor.__get__")))
    (f_k7 : PySem.W.takesIn K (.builtin "object.__class__") = some true)
    (f_k8 : PySem.W.isClsIn K c_NoText = true)
    (e_LONGEST_NAME : PySem.W.nsIn K mainGlobals "LONGEST_NAME" = some (some (.int 8 t_LONGEST_NAME)))
    (e_BETWEEN_TURNS : PySem.W.nsIn K mainGlobals "BETWEEN_TURNS" = some (some (.str " / " t_BETWEEN_TURNS)))
    (e_EMPTY_TURN : PySem.W.nsIn K mainGlobals "EMPTY_TURN" = some (some (.str "-" t_EMPTY_TURN)))
    : ∃ fd : FuncData, (∀ (s : Shared) (v : Value), BindsTo s fd ⟨[v], []⟩ [("_law_script", v)]) ∧ ∀ base : Heap, K.In base → base.Ns mainGlobals mg → FnOk l.prog w K mg base CX0 6 fa fd ["_law_script"] (spLaw K) := by
  have e := hfa.symm.trans (PySem.W.mg_of X G a13)
  cases e
  have T : Txt K mg := { z_len := PySem.W.mg_none_of X G z_len, z_max := PySem.W.mg_none_of X G z_max, z_range := PySem.W.mg_none_of X G z_range, z_int := PySem.W.mg_none_of X G z_int, z_str := PySem.W.mg_none_of X G z_str, z_list := PySem.W.mg_none_of X G z_list, z_all := PySem.W.mg_none_of X G z_all, z_tuple := PySem.W.mg_none_of X G z_tuple, z_isinstance := PySem.W.mg_none_of X G z_isinstance, c_LONGEST_NAME := ⟨_, PySem.W.mg_of X G e_LONGEST_NAME⟩, c_BETWEEN_TURNS := ⟨_, PySem.W.mg_of X G e_BETWEEN_TURNS⟩, c_EMPTY_TURN := ⟨_, PySem.W.mg_of X G e_EMPTY_TURN⟩ }
  have NX : NT K mg c_NoText := ⟨PySem.W.mg_of X G x_NoText, f_ok⟩
  have UE : ErrT K mg c_NoText c_BenchError (fun i => match i with | 0 => c_NoBench | 1 => c_NoEnd | 2 => c_NoJob | 3 => c_NoLength | 4 => c_NoLine | 5 => c_NoName | 6 => c_NoPaper | 7 => c_NoRow | 8 => c_NoTurns | _ => c_NoWindow) (fun i => match i with | 0 => c_NoWood | 1 => c_Ring | 2 => c_Stranger | 3 => c_TooMany | _ => c_Twice) := { nt := NX, be := PySem.W.mg_of X G x_BenchError, beok := f_be, sub := mroK_of f_sub, kit := excKit_of f_k1 f_k2 f_k3 f_k4 f_k5 f_k6 f_k7 f_k8, n0 := PySem.W.mg_of X G x_NoBench, n1 := PySem.W.mg_of X G x_NoEnd, n2 := PySem.W.mg_of X G x_NoJob, n3 := PySem.W.mg_of X G x_NoLength, n4 := PySem.W.mg_of X G x_NoLine, n5 := PySem.W.mg_of X G x_NoName, n6 := PySem.W.mg_of X G x_NoPaper, n7 := PySem.W.mg_of X G x_NoRow, n8 := PySem.W.mg_of X G x_NoTurns, n9 := PySem.W.mg_of X G x_NoWindow, m0 := PySem.W.mg_of X G x_NoWood, m1 := PySem.W.mg_of X G x_Ring, m2 := PySem.W.mg_of X G x_Stranger, m3 := PySem.W.mg_of X G x_TooMany, m4 := PySem.W.mg_of X G x_Twice, a1 := f_a1, a2 := f_a2, av := f_av, zv := PySem.W.mg_none_of X G z_ValueError }
  have F0 := fun_mk (st := s_take) l0 c0 k0
  have b0 := F0.binds (ps := ["_law_purse_here", "_law_many"]) fun _ _ _ _ _ _ us hl => match us, hl with | [_, _], _ => rfl
  have F1 := fun_mk (st := s_purse) l1 c1 k1
  have b1 := F1.binds (ps := ["_law_cell_here", "_law_k"]) fun _ _ _ _ _ _ us hl => match us, hl with | [_, _], _ => rfl
  have F2 := fun_mk (st := s_cell) l2 c2 k2
  have b2 := F2.binds (ps := ["_law_script", "_law_k"]) fun _ _ _ _ _ _ us hl => match us, hl with | [_, _], _ => rfl
  have F3 := fun_mk (st := s_plan) l3 c3 k3
  have b3 := F3.binds (ps := ["_law_purse_here"]) fun _ _ _ _ _ _ us hl => match us, hl with | [_], _ => rfl
  have F4 := fun_mk (st := s_text) l4 c4 k4
  have b4 := F4.binds (ps := ["_law_plan"]) fun _ _ _ _ _ _ us hl => match us, hl with | [_], _ => rfl
  have F5 := fun_mk (st := s_spoilt) l5 c5 k5
  have b5 := F5.binds (ps := ["_law_purse_here", "_law_text_here"]) fun _ _ _ _ _ _ us hl => match us, hl with | [_, _], _ => rfl
  have F6 := fun_mk (st := s_is_name) l6 c6 k6
  have b6 := F6.binds (ps := ["thing"]) fun _ _ _ _ _ _ us hl => match us, hl with | [_], _ => rfl
  have F7 := fun_mk (st := s_read_names) l7 c7 k7
  have b7 := F7.binds (ps := ["part", "between"]) fun _ _ _ _ _ _ us hl => match us, hl with | [_, _], _ => rfl
  have F8 := fun_mk (st := s_read_turn) l8 c8 k8
  have b8 := F8.binds (ps := ["part"]) fun _ _ _ _ _ _ us hl => match us, hl with | [_], _ => rfl
  have F9 := fun_mk (st := s_read_plan) l9 c9 k9
  have b9 := F9.binds (ps := ["text"]) fun _ _ _ _ _ _ us hl => match us, hl with | [_], _ => rfl
  have F10 := fun_mk (st := s_read) l10 c10 k10
  have b10 := F10.binds (ps := ["_law_text_here"]) fun _ _ _ _ _ _ us hl => match us, hl with | [_], _ => rfl
  have F11 := fun_mk (st := s_turn_of) l11 c11 k11
  have b11 := F11.binds (ps := ["_law_part"]) fun _ _ _ _ _ _ us hl => match us, hl with | [_], _ => rfl
  have F12 := fun_mk (st := s_due) l12 c12 k12
  have b12 := F12.binds (ps := ["_law_text_here"]) fun _ _ _ _ _ _ us hl => match us, hl with | [_], _ => rfl
  have F13 := fun_mk (st := s_law) l13 c13 k13
  refine ⟨PySem.W.fnOf "law" "law" (defArgs s_law) (defBody s_law) (defScope s_law) .none kV13 dc13 pm13 an13 cd13 ct13, fun s v => .of_eq rfl, fun base _ _ => ?_⟩
  have C_take : Cal l.prog w K mg base "_law_take" 1 ["_law_purse_here", "_law_many"] spTake := ⟨f0, _, PySem.W.mg_of X G a0, k0, b0, ok_take F0 ⟩
  have C_purse : Cal l.prog w K mg base "_law_purse" 1 ["_law_cell_here", "_law_k"] spPurse := ⟨f1, _, PySem.W.mg_of X G a1, k1, b1, ok_purse F1 T⟩
  have C_cell : Cal l.prog w K mg base "_law_cell" 1 ["_law_script", "_law_k"] (spCell K) := ⟨f2, _, PySem.W.mg_of X G a2, k2, b2, ok_cell F2 T⟩
  have C_short_plan : Cal l.prog w K mg base "_law_short_plan" 2 ["_law_purse_here"] spPlan := ⟨f3, _, PySem.W.mg_of X G a3, k3, b3, ok_plan F3 T C_take⟩
  have C_text : Cal l.prog w K mg base "_law_text" 1 ["_law_plan"] spText := ⟨f4, _, PySem.W.mg_of X G a4, k4, b4, ok_text F4 T⟩
  have C_spoilt : Cal l.prog w K mg base "_law_spoilt" 2 ["_law_purse_here", "_law_text_here"] spSpoilt := ⟨f5, _, PySem.W.mg_of X G a5, k5, b5, ok_spoilt F5 T C_take⟩
  have C_is_name : Cal l.prog w K mg base "is_name" 1 ["thing"] spIsName := ⟨f6, _, PySem.W.mg_of X G a6, k6, b6, ok_is_name F6 T⟩
  have C_read_names : CalX l.prog w K mg base "read_names" 2 ["part", "between"] (spReadNames c_NoText) := ⟨f7, _, PySem.W.mg_of X G a7, k7, b7, ok_read_names F7 T NX C_is_name⟩
  have C_read_turn : CalX l.prog w K mg base "read_turn" 3 ["part"] (spReadTurn c_NoText) := ⟨f8, _, PySem.W.mg_of X G a8, k8, b8, ok_read_turn F8 T C_read_names⟩
  have C_read_plan : CalX l.prog w K mg base "read_plan" 4 ["text"] (spReadPlan K c_NoText) := ⟨f9, _, PySem.W.mg_of X G a9, k9, b9, ok_read_plan F9 T NX C_read_turn⟩
  have C_read : Cal l.prog w K mg base "_law_read" 5 ["_law_text_here"] (spLRead K) := ⟨f10, _, PySem.W.mg_of X G a10, k10, b10, ok_read F10 T UE C_read_plan⟩
  have C_turn_of : Cal l.prog w K mg base "_law_turn_of" 1 ["_law_part"] spTurnOf := ⟨f11, _, PySem.W.mg_of X G a11, k11, b11, ok_turn_of F11 T⟩
  have C_due : Cal l.prog w K mg base "_law_due" 2 ["_law_text_here"] spDue := ⟨f12, _, PySem.W.mg_of X G a12, k12, b12, ok_due F12 T C_turn_of⟩
  exact ok_law F13 T C_cell C_purse C_short_plan C_text C_spoilt C_read C_due
theorem walk {l : PySem.W.OpenLaw} {q : Program} {loose : List Str} {XP : (Str → Option Value) → Heap → Prop} {YP : World → Heap → Prop} {d : DefRec} {K : Params → PySem.W.Frag} (hn : l.most = some 63) (hdf : d.params.defaults = [])
    (hY : ∀ (w : World) (h : Heap), YP w h → (K w.params).In h)
    (F : ∀ (w : World) (mg : Str → Option Value) (fa : Addr) (h : Heap), (K w.params).In h → h.Ns mainGlobals mg → mg d.name = some (.ref fa) →
      ∃ fd : FuncData, (∀ (s : Shared) (u : Value), BindsTo s fd ⟨[u], []⟩ [("_law_script", u)]) ∧ ∀ base : Heap, (K w.params).In base → base.Ns mainGlobals mg → FnOk l.prog w (K w.params) mg base CX0 6 fa fd ["_law_script"] (spLaw (K w.params))) :
    PySem.W.WalkO q loose XP YP l.row.toRowW d [] (fun f vs => PySem.call f vs) :=
  L2.walk_of (n := 63) (k := 6) (x := "_law_script") (CX := fun _ => CX0) (sp := fun w => spLaw (K w.params)) hn (by decide) hdf ⟨rfl, by decide, by decide⟩ hY F (fun _ _ a ns hl _ hS => ⟨a, ns, rfl, hS, hl, fun _ => rfl⟩) fun _ _ _ _ _ z => z
end My
namespace PySem.W.Fast
def tw6661228224132466297 : Nat := 0
def tw8769379361048564171 : Nat := 0
def tw9873285992247210511 : Nat := 0
def tw5581609489560500370 : Nat := 0
def tw5384169960531041895 : Nat := 0
def tw7985147198474254105 : Nat := 0
def tw13815624190073318602 : Nat := 0
def tw4031004176654078767 : Nat := 0
def tw13515026285750273117 : Nat := 0
def tw255202868243501914 : Nat := 0
def tw2489330968899607749 : Nat := 0
def tw8721450002167443606 : Nat := 0
def tw8347668187656509366 : Nat := 0
def tw3230931421449117382 : Nat := 0
def tw4598246413286090170 : Nat := 0
def tw9686497165875994014 : Nat := 0
def tw2501708320637795989 : Nat := 0
def tw8422458258960014862 : Nat := 0
def tw6956077056376025835 : Nat := 0
def tw9705794994885816918 : Nat := 0
def tw16726773168170182294 : Nat := 0
def tw6448583597989004430 : Nat := 0
def tw18344553317816105581 : Nat := 0
end PySem.W.Fast
open PySem PySem.W PyProof.Rows
set_option maxRecDepth 100000 in
set_option maxHeartbeats 0 in
theorem PySem.Challenge.cw_levelbench_k26_no_plan_texts_holds : PySem.Challenge.rw_levelbench_k26_no_plan_texts.Holds := by
  w_on; o_law; k_head; (case hw => w_witness2)
  k_fill
  refine My.walk (l := PySem.Challenge.rw_levelbench_k26_no_plan_texts) rfl rfl (fun w h Y => PySem.W.kIn_of Y) ?F
  case F =>
    intro w mg fa h KX G hmg
    refine' My.all_mk KX G hmg ?a0 ?l0 ?c0 ?k0 ?a1 ?l1 ?c1 ?k1 ?a2 ?l2 ?c2 ?k2 ?a3 ?l3 ?c3 ?k3 ?a4 ?l4 ?c4 ?k4 ?a5 ?l5 ?c5 ?k5 ?a6 ?l6 ?c6 ?k6 ?a7 ?l7 ?c7 ?k7 ?a8 ?l8 ?c8 ?k8 ?a9 ?l9 ?c9 ?k9 ?a10 ?l10 ?c10 ?k10 ?a11 ?l11 ?c11 ?k11 ?a12 ?l12 ?c12 ?k12 ?a13 ?l13 ?c13 ?k13 ?z_len ?z_max ?z_range ?z_int ?z_str ?z_list ?z_all ?z_tuple ?z_isinstance ?z_ValueError ?x_BenchError ?x_NoText ?x_NoBench ?x_NoEnd ?x_NoJob ?x_NoLength ?x_NoLine ?x_NoName ?x_NoPaper ?x_NoRow ?x_NoTurns ?x_NoWindow ?x_NoWood ?x_Ring ?x_Stranger ?x_TooMany ?x_Twice ?f_ok ?f_be ?f_a1 ?f_a2 ?f_av ?f_sub ?f_k1 ?f_k2 ?f_k3 ?f_k4 ?f_k5 ?f_k6 ?f_k7 ?f_k8 ?e_LONGEST_NAME ?e_BETWEEN_TURNS ?e_EMPTY_TURN
    (case a0 => k_is)
    (case l0 => k_is)
    (case c0 => k_is)
    (case k0 => k_is)
    (case a1 => k_is)
    (case l1 => k_is)
    (case c1 => k_is)
    (case k1 => k_is)
    (case a2 => k_is)
    (case l2 => k_is)
    (case c2 => k_is)
    (case k2 => k_is)
    (case a3 => k_is)
    (case l3 => k_is)
    (case c3 => k_is)
    (case k3 => k_is)
    (case a4 => k_is)
    (case l4 => k_is)
    (case c4 => k_is)
    (case k4 => k_is)
    (case a5 => k_is)
    (case l5 => k_is)
    (case c5 => k_is)
    (case k5 => k_is)
    (case a6 => k_is)
    (case l6 => k_is)
    (case c6 => k_is)
    (case k6 => k_is)
    (case a7 => k_is)
    (case l7 => k_is)
    (case c7 => k_is)
    (case k7 => k_is)
    (case a8 => k_is)
    (case l8 => k_is)
    (case c8 => k_is)
    (case k8 => k_is)
    (case a9 => k_is)
    (case l9 => k_is)
    (case c9 => k_is)
    (case k9 => k_is)
    (case a10 => k_is)
    (case l10 => k_is)
    (case c10 => k_is)
    (case k10 => k_is)
    (case a11 => k_is)
    (case l11 => k_is)
    (case c11 => k_is)
    (case k11 => k_is)
    (case a12 => k_is)
    (case l12 => k_is)
    (case c12 => k_is)
    (case k12 => k_is)
    (case a13 => k_is)
    (case l13 => k_is)
    (case c13 => k_is)
    (case k13 => k_is)
    (case z_len => k_is)
    (case z_max => k_is)
    (case z_range => k_is)
    (case z_int => k_is)
    (case z_str => k_is)
    (case z_list => k_is)
    (case z_all => k_is)
    (case z_tuple => k_is)
    (case z_isinstance => k_is)
    (case z_ValueError => k_is)
    (case x_BenchError => k_is)
    (case x_NoText => k_is)
    (case x_NoBench => k_is)
    (case x_NoEnd => k_is)
    (case x_NoJob => k_is)
    (case x_NoLength => k_is)
    (case x_NoLine => k_is)
    (case x_NoName => k_is)
    (case x_NoPaper => k_is)
    (case x_NoRow => k_is)
    (case x_NoTurns => k_is)
    (case x_NoWindow => k_is)
    (case x_NoWood => k_is)
    (case x_Ring => k_is)
    (case x_Stranger => k_is)
    (case x_TooMany => k_is)
    (case x_Twice => k_is)
    (case f_ok => k_exc)
    (case f_be => k_exc)
    (case f_a1 => kit_is)
    (case f_a2 => kit_is)
    (case f_av => kit_is)
    (case f_sub => k_is)
    (case f_k1 => k_is)
    (case f_k2 => k_is)
    (case f_k3 => k_is)
    (case f_k4 => k_is)
    (case f_k5 => k_is)
    (case f_k6 => k_is)
    (case f_k7 => k_is)
    (case f_k8 => k_is)
    (case e_LONGEST_NAME => k_is)
    (case e_BETWEEN_TURNS => k_is)
    (case e_EMPTY_TURN => k_is)
