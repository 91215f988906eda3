import PyProof.Rows.All
import Wide.All
import OpenK.AllK
import Wide.FinOn
import Lean
import PyProof.EqAt
import PyProof.EqKinds
import PyProof.TupleCall
import PyProof.StrLawsTight
import PyProof.FitsReplace
import KE.KSortTup
import PyProof.TupleKey
import PyProof.SetKind
import PyProof.IsRules
import PyProof.Rows.SetFrom
import PyProof.CollectWalk
import PyProof.DictUpdate
import PyProof.AutoListH
import PyProof.SeqI3
import PyProof.EnumStmt
import PyProof.EnumMake
import PyProof.Rows.CallKwBuiltin
import PyProof.NeKinds
import PyProof.StationsW
import PyProof.ExcClass3
import PyProof.PassesOwn
import OpenK.KOwn
import PyProof.RulesAs
import PyProof.RulesDel
import KE.KIsAll
import PyProof.ExcArgsOwn
import PyProof.StrLawsIn
import PyProof.Rows.Range3
import PyProof.Rows.FStr
import PyProof.DictItems
import PyProof.AttrMissHeap
import PyProof.ListCopy
import KE.KDictOf
import PySem.Challenge.RW_levelbench_k65_lateness_of_plans
set_option Elab.async false
set_option linter.all false
set_option maxRecDepth 100000
namespace L2
open PySem PySem.Spec PyProof.Rows
abbrev Key := Sum Int Str
def keyIs : Key → Value → Bool
  | .inl k, v => Value.isInt k v
  | .inr x, v => Value.isStrOf x v
def keyH (w : World) : Key → Int
  | .inl k => hashInt k
  | .inr x => hashStr w x
theorem keyIs_shape : ∀ {k : Key} {v : Value}, keyIs k v = true → (∃ i t, k = Sum.inl i ∧ v = Value.int i t) ∨ (∃ x t, k = Sum.inr x ∧ v = Value.str x t)
  | .inl i, v, h => by
    obtain ⟨t, e⟩ := Value.isInt_shape (k := i) (v := v) h
    exact .inl ⟨i, t, rfl, e⟩
  | .inr x, v, h => by
    obtain ⟨t, e⟩ := Value.isStrOf_shape (x := x) (v := v) h
    exact .inr ⟨x, t, rfl, e⟩
theorem keyIs_int (i : Int) (t : Tok) : keyIs (.inl i) (.int i t) = true := by simp [keyIs, Value.isInt]
theorem keyIs_str (x : Str) (t : Tok) : keyIs (.inr x) (.str x t) = true := by simp [keyIs, Value.isStrOf]
theorem key_ll (a b : Int) : decide ((Sum.inl a : Key) = Sum.inl b) = (a == b) := by
  by_cases e : a = b
  · subst e; simp
  · have h : ¬ (Sum.inl a : Key) = Sum.inl b := fun q => e (Sum.inl.inj q)
    rw [decide_eq_false h]
    exact (beq_eq_false_iff_ne.mpr e).symm
theorem key_rr (a b : Str) : decide ((Sum.inr a : Key) = Sum.inr b) = decide (a = b) := by
  by_cases e : a = b
  · subst e; simp
  · have h : ¬ (Sum.inr a : Key) = Sum.inr b := fun q => e (Sum.inr.inj q)
    rw [decide_eq_false h, decide_eq_false e]
theorem key_lr (a : Int) (b : Str) : decide ((Sum.inl a : Key) = Sum.inr b) = false := decide_eq_false (fun q => nomatch q)
theorem key_rl (a : Str) (b : Int) : decide ((Sum.inr a : Key) = Sum.inl b) = false := decide_eq_false (fun q => nomatch q)
def mixKind (prog : Program) (w : World) : PySem.KeyKind prog w Key where
  is := keyIs
  hash := keyH w
  inj := fun v a b ha hb => by
    rcases keyIs_shape ha with ⟨i, t, rfl, rfl⟩ | ⟨x, t, rfl, rfl⟩
    · rcases keyIs_shape hb with ⟨j, u, rfl, e⟩ | ⟨y, u, rfl, e⟩
      · injection e with e1 _; rw [e1]
      · exact nomatch e
    · rcases keyIs_shape hb with ⟨j, u, rfl, e⟩ | ⟨y, u, rfl, e⟩
      · exact nomatch e
      · injection e with e1 _; rw [e1]
  byValue := fun k v h => by
    rcases keyIs_shape h with ⟨i, t, rfl, rfl⟩ | ⟨x, t, rfl, rfl⟩ <;> rfl
  pyHash := fun hv h => by
    rcases keyIs_shape hv with ⟨i, t, rfl, rfl⟩ | ⟨x, t, rfl, rfl⟩
    · exact wpAny_pyHash_int h
    · exact wpAny_pyHash_str h
  eqBool := fun hu hv h => by
    rcases keyIs_shape hu with ⟨i, t, rfl, rfl⟩ | ⟨x, t, rfl, rfl⟩
    · rcases keyIs_shape hv with ⟨j, u, rfl, rfl⟩ | ⟨y, u, rfl, rfl⟩
      · rw [key_ll] at h; exact wpAny_eqBool_int h
      · rw [key_lr] at h; exact SeqAt.EqAt.int_str i t y u _ _ _ _ h
    · rcases keyIs_shape hv with ⟨j, u, rfl, rfl⟩ | ⟨y, u, rfl, rfl⟩
      · rw [key_rl] at h; exact SeqAt.EqAt.str_int x t j u _ _ _ _ h
      · rw [key_rr] at h; exact wpAny_eqBool_str h
  «strs» := fun k x t v h => by
    rcases keyIs_shape h with ⟨i, u, rfl, e⟩ | ⟨y, u, rfl, e⟩
    · exact nomatch e
    · injection e with e1 _
      subst e1
      cases v <;> rfl
theorem mixKind_int (prog : Program) (w : World) (i : Int) (t : Tok) : (mixKind prog w).is (.inl i) (.int i t) = true := keyIs_int i t
theorem mixKind_str (prog : Program) (w : World) (x : Str) (t : Tok) : (mixKind prog w).is (.inr x) (.str x t) = true := keyIs_str x t
end L2
namespace L2
open PySem PySem.Spec PyProof.Rows
inductive V where
  | non | bl (b : Bool) | int (i : Int) | str (x : Str) | byt (b : Array UInt8) | flt (b : UInt64) | ref (a : Addr) | ty (n : String)
  deriving DecidableEq
def RelV : V → Value → Prop
  | .non, u => u = Value.none
  | .bl b, u => u = Value.bool b
  | .int i, u => ∃ t, u = Value.int i t
  | .str x, u => ∃ t, u = Value.str x t
  | .byt b, u => ∃ t, u = Value.bytes b t
  | .flt b, u => ∃ t, u = Value.float b t
  | .ref a, u => u = Value.ref a
  | .ty n, u => u = Value.type n
abbrev Vals : List V → List Value → Prop := Paired RelV
theorem Vals.length {xs : List V} {us : List Value} (r : Vals xs us) : xs.length = us.length := Paired.length r
theorem Vals.get : ∀ {xs : List V} {us : List Value} {i : Nat} {x : V}, Vals xs us → xs[i]? = some x → ∃ u, us[i]? = some u ∧ RelV x u
  | _, _, _, _, .nil, e => by simp at e
  | _, _, 0, _, .cons r _, e => by simp at e; subst e; exact ⟨_, rfl, r⟩
  | _, _, i + 1, x, .cons _ t, e => by
    obtain ⟨u, h1, h2⟩ := Vals.get (i := i) (x := x) t (by simpa using e)
    exact ⟨u, by simpa using h1, h2⟩
theorem Vals.set {x : V} {u : Value} (r : RelV x u) : ∀ {xs : List V} {us : List Value} (i : Nat), Vals xs us → Vals (xs.set i x) (us.set i u)
  | _, _, _, .nil => .nil
  | _, _, 0, .cons _ t => .cons r t
  | _, _, i + 1, .cons q t => .cons q (Vals.set r i t)
theorem Vals.append : ∀ {xs ys : List V} {us ws : List Value}, Vals xs us → Vals ys ws → Vals (xs ++ ys) (us ++ ws)
  | _, _, _, _, .nil, s => s
  | _, _, _, _, .cons r t, s => .cons r (Vals.append t s)
theorem Vals.take : ∀ {xs : List V} {us : List Value} (n : Nat), Vals xs us → Vals (xs.take n) (us.take n)
  | _, _, 0, _ => .nil
  | _, _, _ + 1, .nil => .nil
  | _, _, n + 1, .cons r t => .cons r (Vals.take n t)
theorem Vals.drop : ∀ {xs : List V} {us : List Value} (n : Nat), Vals xs us → Vals (xs.drop n) (us.drop n)
  | _, _, 0, r => r
  | _, _, _ + 1, .nil => .nil
  | _, _, n + 1, .cons _ t => Vals.drop n t
def RelO : Option V → Option Value → Prop
  | some v, some u => RelV v u
  | none, none => True
  | _, _ => False
def KV {κ : Type} : List (κ × V) → List (κ × Value) → Prop := Paired fun (p : κ × V) (q : κ × Value) => p.1 = q.1 ∧ RelV p.2 q.2
def kV : Key → V
  | .inl i => .int i
  | .inr x => .str x
inductive HO where
  | lst (xs : List V)
  | tup (xs : List V)
  | dK (kvs : List (Key × V)) | dT (kvs : List (List Key × V))
  | set (S : Int → Bool) (n : Nat)
  | ins (C dx : Addr) (fs : List (Str × V))
  | own (x : Addr)
  | xd (fs : List (Str × V))
  | met (f x : Addr)
  | rng (lo hi : Int)
  | frz (o : Obj) (u : HO)
  | tbl (ps : Array Value)
  | ext (φ : Heap → Prop)
abbrev Hp := Addr → Option HO
def upd (H : Hp) (a : Addr) (o : HO) : Hp := fun b => if b = a then some o else H b
theorem upd_same {H : Hp} {a : Addr} {o : HO} : upd H a o a = some o := by unfold upd; rw [if_pos rfl]
theorem upd_ne {H : Hp} {a b : Addr} {o : HO} (h : b ≠ a) : upd H a o b = H b := by unfold upd; rw [if_neg h]
theorem upd_upd {H : Hp} {a : Addr} {o u : HO} : upd (upd H a o) a u = upd H a u := by
  funext b; unfold upd; split <;> rfl
theorem ne_of {H : Hp} {a b : Addr} {o u : HO} (h : H a = some o) (h' : H b = some u) (d : o ≠ u) : a ≠ b := by
  intro e; subst e; rw [h] at h'; exact d (Option.some.inj h')
theorem ne_of_none {H : Hp} {a b : Addr} {o : HO} (h : H a = some o) (h' : H b = none) : a ≠ b := by
  intro e; subst e; rw [h] at h'; cases h'
section
variable (P : Program) (w : World)
def ObjOk (H : Hp) (h : Heap) (a : Addr) : HO → Prop
  | .lst xs => xs.length ≤ sizeLine ∧ ∃ (its : List Value) (n : Nat), Vals xs its ∧ h.get? a = some { cls := .type "list", data := .seq its.toArray n }
  | .tup xs => xs.length ≤ sizeLine ∧ ∃ its : List Value, Vals xs its ∧ IsTup h a its.toArray
  | .dK kvs => kvs.length ≤ sizeLine ∧ (a == sysModules) = false ∧ ∃ vs, KV kvs vs ∧ h.DictOf (mixKind P w) a vs
  | .dT kvs => kvs.length ≤ sizeLine ∧ (a == sysModules) = false ∧ ∃ xs : List (List Key × Addr × Value),
      Paired (fun (p : List Key × V) (q : List Key × Addr × Value) => p.1 = q.1 ∧ H q.2.1 = some (.tup (p.1.map kV)) ∧ RelV p.2 q.2.2) kvs xs ∧
      ∃ o es ep, h.get? a = some o ∧ o.ExactDict ∧ o.data = .dict es ep ∧ es.toList = xs.map (entryOfKey (tupleKind (mixKind P w))) ∧ (xs.map (·.1)).Nodup
  | .set S n => h.SetOf (intKind P w) a S n
  | .ins C dx fs => H dx = some (.own a) ∧ fs.length ≤ 1000 ∧ dx ≠ a ∧ h.get? a = some (PySem.W.instObj C dx) ∧
      ∃ mA, h.Ns1 dx mA ∧ (∀ f, RelO (fs.lookup f) (mA f)) ∧ PySem.Within mA (fs.map (·.1))
  | .own _ => ∃ o, h.get? a = some o
  | .xd fs => ∃ mA, h.Ns1 a mA ∧ ∀ f, RelO (fs.lookup f) (mA f)
  | .rng lo hi => ∃ t u v, h.get? a = some { cls := .type "range", data := .fields #[.int lo t, .int hi u, .int 1 v] }
  | .frz o u => h.get? a = some o ∧ ObjOk H h a u
  | .tbl ps => h.get? a = some { cls := .none, data := .fields ps }
  | .met f x => h.get? a = some (PySem.W.methodObj (.ref f) (.ref x))
  | .ext φ => φ h ∧ (∃ o, h.get? a = some o) ∧ ∀ h1 h2 : Heap, φ h1 → (∀ o, h1.get? a = some o → h2.get? a = some o) → φ h2
def HOk (H : Hp) (h : Heap) : Prop := ∀ a o, H a = some o → ObjOk P w H h a o
end
section
variable {P : Program} {w : World} {H H' : Hp} {h h' : Heap} {a : Addr} {o : HO}
theorem ObjOk.lt (x : ObjOk P w H h a o) : a < h.objs.size := by
  cases o with
  | lst xs => obtain ⟨_, _, _, _, e⟩ := x; exact Heap.lt_size e
  | tup xs => obtain ⟨_, _, _, p⟩ := x; exact p.lt
  | dK kvs => obtain ⟨_, _, _, _, o, _, _, e, _⟩ := x; exact Heap.lt_size e
  | dT kvs => obtain ⟨_, _, _, _, o, _, _, e, _⟩ := x; exact Heap.lt_size e
  | set S n => obtain ⟨o, _, _, _, e, _⟩ := x; exact Heap.lt_size e
  | ins C dx fs => obtain ⟨_, _, _, e, _⟩ := x; exact Heap.lt_size e
  | own y => obtain ⟨_, e⟩ := x; exact Heap.lt_size e
  | xd fs => obtain ⟨_, ⟨_, _, _, e, _⟩, _⟩ := x; exact Heap.lt_size e
  | rng lo hi => obtain ⟨_, _, _, e⟩ := x; exact Heap.lt_size e
  | frz ob u => obtain ⟨e, _⟩ := x; exact Heap.lt_size e
  | tbl ps => exact Heap.lt_size (show h.get? a = some _ from x)
  | met f y => exact Heap.lt_size (show h.get? a = some _ from x)
  | ext φ => obtain ⟨_, ⟨_, e⟩, _⟩ := x; exact Heap.lt_size e
theorem Paired.mapP {α β : Type} {F G : α → β → Prop} : ∀ {l₁ : List α} {l₂ : List β}, Paired F l₁ l₂ → (∀ a b, F a b → G a b) → Paired G l₁ l₂
  | _, _, .nil, _ => .nil
  | _, _, .cons r t, f => .cons (f _ _ r) (Paired.mapP t f)
theorem ObjOk.stay (x : ObjOk P w H h a o) (k : ∀ b u, (b = a ∨ H b = some (.own a)) → h.get? b = some u → h'.get? b = some u)
    (ho : ∀ b, H b = some (.own a) → H' b = some (.own a)) (ht : ∀ b xs, H b = some (.tup xs) → H' b = some (.tup xs)) : ObjOk P w H' h' a o := by
  induction o with
  | lst xs => obtain ⟨z, its, n, r, e⟩ := x; exact ⟨z, its, n, r, k _ _ (.inl rfl) e⟩
  | tup xs => obtain ⟨z, its, r, ob, e, c⟩ := x; exact ⟨z, its, r, ob, k _ _ (.inl rfl) e, c⟩
  | dK kvs => obtain ⟨z, y, vs, r, ob, es, ep, e, c⟩ := x; exact ⟨z, y, vs, r, ob, es, ep, k _ _ (.inl rfl) e, c⟩
  | dT kvs =>
    obtain ⟨z, y, xs, r, ob, es, ep, e, c⟩ := x
    exact ⟨z, y, xs, Paired.mapP r fun p q z => ⟨z.1, ht _ _ z.2.1, z.2.2⟩, ob, es, ep, k _ _ (.inl rfl) e, c⟩
  | set S n => obtain ⟨ob, es, ep, t, e, c⟩ := x; exact ⟨ob, es, ep, t, k _ _ (.inl rfl) e, c⟩
  | ins C dx fs =>
    obtain ⟨d, z, ne, e, mA, ⟨od, es, ep, e2, c⟩, r⟩ := x
    exact ⟨ho _ d, z, ne, k _ _ (.inl rfl) e, mA, ⟨od, es, ep, k _ _ (.inr d) e2, c⟩, r⟩
  | own y => obtain ⟨ob, e⟩ := x; exact ⟨ob, k _ _ (.inl rfl) e⟩
  | xd fs => obtain ⟨mA, ⟨od, es, ep, e, c⟩, r⟩ := x; exact ⟨mA, ⟨od, es, ep, k _ _ (.inl rfl) e, c⟩, r⟩
  | rng lo hi => obtain ⟨t, u, v, e⟩ := x; exact ⟨t, u, v, k _ _ (.inl rfl) e⟩
  | frz ob u ih => obtain ⟨e, q⟩ := x; exact ⟨k _ _ (.inl rfl) e, ih q⟩
  | tbl ps =>
    have e : h.get? a = some { cls := .none, data := .fields ps } := x
    show h'.get? a = some { cls := .none, data := .fields ps }
    exact k a _ (.inl rfl) e
  | met f y =>
    have e : h.get? a = some (PySem.W.methodObj (.ref f) (.ref y)) := x
    show h'.get? a = some (PySem.W.methodObj (.ref f) (.ref y))
    exact k a _ (.inl rfl) e
  | ext φ => obtain ⟨p, ⟨o, e⟩, st⟩ := x; exact ⟨st _ _ p fun o q => k _ _ (.inl rfl) q, ⟨o, k _ _ (.inl rfl) e⟩, st⟩
theorem HOk.lt (x : HOk P w H h) (e : H a = some o) : a < h.objs.size := (x a o e).lt
theorem HOk.fresh (x : HOk P w H h) (e : h.objs.size ≤ a) : H a = none := by
  cases q : H a with
  | none => rfl
  | some u => exact absurd (Nat.lt_of_lt_of_le (x.lt q) e) (Nat.lt_irrefl _)
theorem HOk.kept (x : HOk P w H h) (k : ∀ b u, h.get? b = some u → h'.get? b = some u) : HOk P w H h' := fun a o e =>
  (x a o e).stay (fun b u _ q => k b u q) (fun _ q => q) fun _ _ q => q
theorem HOk.laid (x : HOk P w H h) (k : ∀ b u, h.get? b = some u → h'.get? b = some u) (hp : h.objs.size ≤ a) (new : ObjOk P w (upd H a o) h' a o) : HOk P w (upd H a o) h' := fun b u e => by
  have hn := x.fresh hp
  by_cases hb : b = a
  · subst hb; rw [upd_same] at e; cases e; exact new
  · rw [upd_ne hb] at e
    exact (x b u e).stay (fun c v _ q => k c v q) (fun c q => by rw [upd_ne (ne_of_none q hn)]; exact q) fun c xs q => by rw [upd_ne (ne_of_none q hn)]; exact q
end
def Rd (H : Hp) (a : Addr) (u : HO) : Prop := H a = some u ∨ ∃ o, H a = some (.frz o u)
theorem Rd.ok {P : Program} {w : World} {H : Hp} {h : Heap} {a : Addr} {u : HO} (r : Rd H a u) (x : HOk P w H h) : ObjOk P w H h a u := by
  rcases r with r | ⟨o, r⟩
  · exact x a u r
  · obtain ⟨_, q⟩ := x a _ r
    exact q
def Mut : Option HO → Prop
  | some (.lst _) => True
  | some (.dK _) => True
  | some (.dT _) => True
  | some (.set _ _) => True
  | some (.ins _ _ _) => True
  | some (.ext _) => True
  | _ => False
section
variable {P : Program} {w : World} {H : Hp} {h h' : Heap} {x e : Addr} {o' : HO}
theorem HOk.write (ok : HOk P w H h) (mu : Mut (H x)) (he : e = x ∨ H e = some (.own x)) (k : ∀ b u, b ≠ e → h.get? b = some u → h'.get? b = some u) (heo : ∃ u, h'.get? e = some u)
    (new : ObjOk P w (upd H x o') h' x o') : HOk P w (upd H x o') h' := fun b u q => by
  have nown : ∀ c y, H c = some (.own y) → c ≠ x := fun c y r z => by subst z; rw [r] at mu; exact mu
  have ntup : ∀ c xs, H c = some (.tup xs) → c ≠ x := fun c xs r z => by subst z; rw [r] at mu; exact mu
  by_cases hb : b = x
  · subst hb; rw [upd_same] at q; cases q; exact new
  · rw [upd_ne hb] at q
    by_cases hbe : b = e
    · have q' : H b = some (.own x) := by
        rcases he with z | z
        · exact absurd (hbe.trans z) hb
        · rw [hbe]; exact z
      rw [q] at q'; cases q'
      obtain ⟨v, hv⟩ := heo
      exact ⟨v, by rw [hbe]; exact hv⟩
    · refine (ok b u q).stay (fun c v hc r => k c v ?_ r) (fun c r => by rw [upd_ne (nown c b r)]; exact r) fun c xs r => by rw [upd_ne (ntup c xs r)]; exact r
      rcases hc with rfl | hc
      · exact hbe
      · rintro rfl
        rcases he with z | z
        · exact nown c b hc z
        · rw [hc] at z; cases z; exact hb rfl
end
structure Un (fs ex : List Addr) (H H' : Hp) (h h' : Heap) : Prop where
  keep : ∀ b o, h.get? b = some o → H b = none → b ∉ fs → b ∉ ex → h'.get? b = some o
  slot : ∀ b o, h.get? b = some o → H b = none → b ∈ fs → b ∉ ex → ∃ sl, h'.get? b = some { o with slots := sl }
  free : ∀ b o, h.get? b = some o → H b = none → b ∉ ex → H' b = none
  there : ∀ b o, h.get? b = some o → b ∉ ex → ∃ o', h'.get? b = some o'
  tups : ∀ b xs, H b = some (.tup xs) → H' b = some (.tup xs)
  frzs : ∀ b o u, H b = some (.frz o u) → H' b = some (.frz o u)
  tbls : ∀ b ps, H b = some (.tbl ps) → ∃ more, H' b = some (.tbl (ps ++ more))
section
variable {fs fs' ex ex' : List Addr} {H H1 H2 : Hp} {h h1 h2 h' : Heap} {a x e : Addr} {o : HO}
theorem Un.any (u : Un fs ex H H1 h h1) {b : Addr} {ob : Obj} (q : h.get? b = some ob) (n : H b = none) (hx : b ∉ ex) : ∃ sl, h1.get? b = some { ob with slots := sl } := by
  by_cases hb : b ∈ fs
  · exact u.slot b ob q n hb hx
  · exact ⟨ob.slots, u.keep b ob q n hb hx⟩
theorem Un.kept (k : ∀ b u, h.get? b = some u → h'.get? b = some u) : Un fs ex H H h h' :=
  ⟨fun b ob q _ _ _ => k b ob q, fun b ob q _ _ _ => ⟨ob.slots, k b ob q⟩, fun _ _ _ n _ => n, fun b ob q _ => ⟨ob, k b ob q⟩, fun _ _ q => q, fun _ _ _ q => q, fun _ ps q => ⟨#[], by rw [q]; simp⟩⟩
theorem Un.refl : Un fs ex H H h h := Un.kept fun _ _ q => q
theorem Un.laid (k : ∀ b u, h.get? b = some u → h'.get? b = some u) (hp : h.objs.size ≤ a) (hn : H a = none) : Un fs ex H (upd H a o) h h' where
  keep := fun b u q _ _ _ => k b u q
  slot := fun b u q _ _ _ => ⟨u.slots, k b u q⟩
  free := fun b u q n _ => by rw [upd_ne (Nat.ne_of_lt (Nat.lt_of_lt_of_le (Heap.lt_size q) hp))]; exact n
  there := fun b u q _ => ⟨u, k b u q⟩
  tups := fun b xs q => by rw [upd_ne (ne_of_none q hn)]; exact q
  frzs := fun b u xs q => by rw [upd_ne (ne_of_none q hn)]; exact q
  tbls := fun b ps q => ⟨#[], by rw [upd_ne (ne_of_none q hn), q]; simp⟩
theorem Un.write (mu : Mut (H x)) (he : e = x ∨ H e = some (.own x)) (k : ∀ b u, b ≠ e → h.get? b = some u → h'.get? b = some u) (heo : ∃ u, h'.get? e = some u) : Un fs ex H (upd H x o) h h' := by
  have hx : ∀ b, H b = none → b ≠ x := fun b n z => by subst z; rw [n] at mu; exact mu
  have hb : ∀ b, H b = none → b ≠ e := fun b n z => by
    subst z
    rcases he with r | r
    · exact hx b n r
    · rw [n] at r; cases r
  have hm : ∀ b u, H b = some u → ¬ Mut (some u) → b ≠ x := fun b u q nm z => by subst z; rw [q] at mu; exact nm mu
  refine ⟨fun b u q n _ _ => k b u (hb b n) q, fun b u q n _ _ => ⟨u.slots, k b u (hb b n) q⟩, fun b u q n _ => by rw [upd_ne (hx b n)]; exact n, fun b u q _ => ?_,
    fun b xs q => by rw [upd_ne (hm b _ q fun z => z)]; exact q, fun b u xs q => by rw [upd_ne (hm b _ q fun z => z)]; exact q, fun b ps q => ⟨#[], by rw [upd_ne (hm b _ q fun z => z), q]; simp⟩⟩
  by_cases hbe : b = e
  · subst hbe; exact heo
  · exact ⟨u, k b u hbe q⟩
end
def trk (h : Heap) (H : Hp) : List Addr := (List.range h.objs.size).filter fun a => (H a).isSome
def hidT (h : Heap) (H : Hp) : Heap := PySem.W.hideAll h (trk h H)
theorem hidT_size (h : Heap) (H : Hp) : (hidT h H).objs.size = h.objs.size := PySem.W.hideAll_size _ _
theorem hidT_get {h : Heap} {H : Hp} {b : Addr} {o : Obj} (e : h.get? b = some o) (n : H b = none) : (hidT h H).get? b = some o :=
  PySem.W.hideAll_get _ e fun hm => by
    have q : (H b).isSome = true := (List.mem_filter.mp hm).2
    rw [n] at q; simp at q
theorem of_hidT {h : Heap} {H : Hp} {b : Addr} {o : Obj} (e : (hidT h H).get? b = some o) : h.get? b = some o ∧ H b = none := by
  have e' : h.get? b = some o := PySem.W.of_hideAll (trk h H) e
  refine ⟨e', ?_⟩
  cases q : H b with
  | none => rfl
  | some x =>
    have hm : b ∈ trk h H := List.mem_filter.mpr ⟨List.mem_range.mpr (Heap.lt_size e'), by simp [q]⟩
    have z : (hidT h H).get? b = none := PySem.W.hideAll_none (trk h H) hm
    rw [z] at e; cases e
end L2
namespace L2
open PySem PySem.Spec PyProof.Rows
structure Mod (K : PySem.W.Frag) (mg : Str → Option Value) (base : Heap) : Prop where
  kin : K.In base
  glob : base.Ns mainGlobals mg
  blt : ∃ mb, base.Ns builtinsNs mb ∧ ∀ x : Str, x ≠ "__name__" → mb x = bootBuiltins x
  nolimit : base.NoLimit
structure Cx where
  prog : Program
  w : World
  K : PySem.W.Frag
  mg : Str → Option Value
  base : Heap
  A : Around
  N : List Str
  s₀ : Shared
  H₀ : Hp
  env : Env
  outer : List Env
  stack : List Env
  ex : List Addr
  fn : Str → Bool
  calm : Bool
  pn : List (Addr × Obj)
  xe : Value → Shared → Prop
def frs (l : List Env) : List Addr := l.filterMap (·.frame)
abbrev Cx.fs (X : Cx) : List Addr := frs X.outer
def Vis (sc : Scope) (x : Str) : Prop := sc.names.lookup x = some .local ∨ sc.names.lookup x = some .cell ∨ sc.names.lookup x = some .free
def Loc (sc : Scope) (x : Str) : Prop := sc.names.lookup x = some .local ∨ sc.names.lookup x = some .cell
def Look (env : Env) (h : Heap) (m : Str → Option Value) (x : Str) (u : Value) : Prop :=
  (env.kindOf x = some .local ∧ m x = some u) ∨ ((env.kindOf x = some .cell ∨ env.kindOf x = some .free) ∧ ∃ c, env.cells.lookup x = some c ∧ h.IsCell c (some u))
structure Cx.Ok (X : Cx) : Prop where
  mod : Mod X.K X.mg X.base
  kind : X.env.scope.kind = .function
  glob : X.env.globals = mainGlobals
  blt : X.env.builtins = builtinsNs
  above : X.s₀.heap.objs.size ≤ X.env.locals
  inj : ∀ x y c, X.env.cells.lookup x = some c → X.env.cells.lookup y = some c → x = y
  has : ∀ x, (X.env.kindOf x = some .cell ∨ X.env.kindOf x = some .free) → ∃ c, X.env.cells.lookup x = some c
  cab : ∀ x c, X.fn x = true → X.env.cells.lookup x = some c → X.s₀.heap.objs.size ≤ c
  hd : X.calm = true → X.A.handled = none
  frames : X.A.frames = some X.stack
  stk : X.stack = X.outer ∨ (X.stack = X.env :: X.outer ∧ X.env.frame = some X.env.locals)
  exf : ∀ b ∈ X.ex, b ≠ X.env.locals ∧ ∀ x c, X.env.cells.lookup x = some c → c ≠ b
  bs : ∀ b o, X.base.get? b = some o → X.s₀.heap.get? b = some o ∧ X.H₀ b = none
  bsz : X.base.objs.size ≤ X.s₀.heap.objs.size
  noex : ∀ b o, X.base.get? b = some o → b ∉ X.ex
  exfs : ∀ b ∈ X.ex, b ∉ X.fs
  funs : X.s₀.heap.FunFrames X.base X.outer
  frf : ∀ b ∈ X.fs, X.H₀ b = none
structure Inv (X : Cx) (pins : List (Addr × Obj)) (σ : List (Option V)) (H : Hp) (s : Shared) : Prop where
  ok : X.Ok
  os : s.os = X.s₀.os
  bare : AllBare s.gens
  base : Un X.fs X.ex X.H₀ H X.s₀.heap s.heap
  loc : ∃ m, s.heap.Ns X.env.locals m ∧ ∀ (i : Nat) (x : Str) (v : V), X.N[i]? = some x → σ[i]? = some (some v) → Vis X.env.scope x → ∃ u, RelV v u ∧ Look X.env s.heap m x u
  cell : ∀ x c, X.env.cells.lookup x = some c → ∃ v, s.heap.IsCell c v
  free : H X.env.locals = none
  freeC : ∀ x c, X.env.cells.lookup x = some c → H c = none
  pin : ∀ p ∈ X.pn ++ pins, s.heap.get? p.1 = some p.2 ∧ H p.1 = none ∧ p.1 ≠ X.env.locals ∧ p.1 ∉ X.fs ∧ ∀ v, p.2.data ≠ .cell v
  hok : HOk X.prog X.w H s.heap
  len : σ.length = X.N.length
section
variable {X : Cx} {pins : List (Addr × Obj)} {σ : List (Option V)} {H H' : Hp} {s : Shared} {h' : Heap}
theorem Cx.Ok.nofr (ok : X.Ok) {b : Addr} {o : Obj} (e : X.base.get? b = some o) : b ∉ X.fs := fun hb => by
  have := (ok.funs.mem hb).1
  rw [e] at this; cases this
theorem Inv.bs (I : Inv X pins σ H s) : ∀ b o, X.base.get? b = some o → s.heap.get? b = some o ∧ H b = none := fun b o e =>
  ⟨I.base.keep b o (I.ok.bs b o e).1 (I.ok.bs b o e).2 (I.ok.nofr e) (I.ok.noex b o e), I.base.free b o (I.ok.bs b o e).1 (I.ok.bs b o e).2 (I.ok.noex b o e)⟩
theorem Inv.bk (I : Inv X pins σ H s) : ∀ b o, X.base.get? b = some o → s.heap.get? b = some o := fun b o e => (I.bs b o e).1
theorem Inv.mod (I : Inv X pins σ H s) : Mod X.K X.mg X.base := I.ok.mod
theorem Inv.kIn (I : Inv X pins σ H s) : X.K.In s.heap := I.ok.mod.kin.keeps I.bk
theorem Inv.lt (I : Inv X pins σ H s) : X.env.locals < s.heap.objs.size := let ⟨_, hn, _⟩ := I.loc; hn.lt
theorem Inv.sz (I : Inv X pins σ H s) : X.s₀.heap.objs.size ≤ s.heap.objs.size := Nat.le_trans I.ok.above (Nat.le_of_lt I.lt)
theorem Inv.nofs (I : Inv X pins σ H s) {a : Addr} (h : s.heap.objs.size ≤ a) : a ∉ X.fs := fun hb => by
  obtain ⟨_, o, ho, _⟩ := I.ok.funs.mem hb
  exact absurd (Nat.lt_of_lt_of_le (Heap.lt_size ho) (Nat.le_trans I.sz h)) (Nat.lt_irrefl _)
theorem Inv.cne (I : Inv X pins σ H s) : ∀ x c, X.env.cells.lookup x = some c → c ≠ X.env.locals := fun x c e z => by
  obtain ⟨v, o, ho, hd⟩ := I.cell x c e
  obtain ⟨m, ⟨o', es, ep, ho', hd', _⟩, _⟩ := I.loc
  rw [z, ho'] at ho; cases ho; rw [hd'] at hd; cases hd
theorem Inv.funs (I : Inv X pins σ H s) : s.heap.FunFrames X.base X.outer := by
  have all : ∀ (l : List Env), (∀ b ∈ frs l, b ∈ X.fs) → X.s₀.heap.FunFrames X.base l → s.heap.FunFrames X.base l := by
    intro l
    induction l with
    | nil => intro _ _; trivial
    | cons env r ih =>
      intro hs hl
      obtain ⟨hk, ⟨L, o, hf, hn, ho, hd⟩, hr⟩ := hl
      have hL : L ∈ X.fs := hs L (by unfold frs; rw [List.filterMap_cons, hf]; exact List.mem_cons_self)
      obtain ⟨sl, e⟩ := I.base.slot L o ho (I.ok.frf L hL) hL fun z => I.ok.exfs L z hL
      exact ⟨hk, ⟨L, _, hf, hn, e, hd⟩, ih (fun b hb => hs b (by unfold frs; rw [List.filterMap_cons, hf]; exact List.mem_cons_of_mem _ hb)) hr⟩
  exact all X.outer (fun _ hb => hb) I.ok.funs
theorem Inv.stack (I : Inv X pins σ H s) : s.heap.FunFrames X.base X.stack := by
  rcases I.ok.stk with e | ⟨e, hf⟩
  · rw [e]; exact I.funs
  · rw [e]
    obtain ⟨m, hn, _⟩ := I.loc
    refine .cons (by rw [I.ok.kind]; decide) hf hn ?_ I.funs
    exact Heap.get?_none_of_le (Nat.le_trans I.ok.bsz I.ok.above)
theorem Inv.stkSub (I : Inv X pins σ H s) : ∀ b ∈ frs X.stack, b ∈ X.env.locals :: X.fs := fun b hb => by
  rcases I.ok.stk with e | ⟨e, hf⟩
  · rw [e] at hb; exact List.mem_cons_of_mem _ hb
  · rw [e] at hb
    unfold frs at hb
    rw [List.filterMap_cons, hf] at hb
    exact hb
theorem Inv.stkFree (I : Inv X pins σ H s) : ∀ b ∈ frs X.stack, H b = none := fun b hb => by
  rcases List.mem_cons.mp (I.stkSub b hb) with e | hb
  · rw [e]; exact I.free
  · obtain ⟨_, o, ho, _⟩ := I.ok.funs.mem hb
    exact I.base.free b o ho (I.ok.frf b hb) fun z => I.ok.exfs b z hb
theorem Inv.step {g' : Array GenState} {t' : Nat} {d' : Drawn} {ch : List Addr} (I : Inv X pins σ H s)
    (hch : ∀ b ∈ ch, (b ∈ X.ex ∨ X.s₀.heap.objs.size ≤ b) ∧ b ≠ X.env.locals ∧ (∀ x c, X.env.cells.lookup x = some c → c ≠ b) ∧ ∀ p ∈ X.pn ++ pins, p.1 ≠ b)
    (keep : ∀ b o, b ≠ X.env.locals → b ∉ X.fs → b ∉ ch → s.heap.get? b = some o → H b = none → h'.get? b = some o)
    (slot : ∀ b o, b ≠ X.env.locals → b ∈ X.fs → b ∉ ch → s.heap.get? b = some o → H b = none → ∃ sl, h'.get? b = some { o with slots := sl }) (free : ∀ b o, b ∉ ch → s.heap.get? b = some o → H b = none → H' b = none)
    (there : ∀ b o, b ∉ ch → s.heap.get? b = some o → ∃ o', h'.get? b = some o')
    (tups : ∀ b xs, H b = some (.tup xs) → H' b = some (.tup xs)) (frzs : ∀ b o u, H b = some (.frz o u) → H' b = some (.frz o u)) (tbls : ∀ b ps, H b = some (.tbl ps) → ∃ more, H' b = some (.tbl (ps ++ more)))
    (ns : ∀ m, s.heap.Ns X.env.locals m → h'.Ns X.env.locals m) (hok : HOk X.prog X.w H' h') (hg : AllBare g') :
    Inv X pins σ H' { s with heap := h', gens := g', drawn := d', toks := t' } := by
  have neL : ∀ b o, X.s₀.heap.get? b = some o → b ≠ X.env.locals := fun b o e => Nat.ne_of_lt (Nat.lt_of_lt_of_le (Heap.lt_size e) I.ok.above)
  have neC : ∀ b o, X.s₀.heap.get? b = some o → b ∉ X.ex → b ∉ ch := fun b o e hx hb => by
    rcases (hch b hb).1 with z | z
    · exact hx z
    · exact absurd (Nat.lt_of_lt_of_le (Heap.lt_size e) z) (Nat.lt_irrefl _)
  have cellK : ∀ x c, X.env.cells.lookup x = some c → ∀ v, s.heap.IsCell c v → h'.IsCell c v := fun x c e v ⟨o, ho, hd⟩ => by
    have nch : c ∉ ch := fun z => (hch c z).2.2.1 x c e rfl
    by_cases hc : c ∈ X.fs
    · obtain ⟨sl, q⟩ := slot c o (I.cne x c e) hc nch ho (I.freeC x c e)
      exact ⟨_, q, hd⟩
    · exact ⟨o, keep c o (I.cne x c e) hc nch ho (I.freeC x c e), hd⟩
  refine ⟨I.ok, I.os, hg, ⟨fun b o e n hb hx => ?_, fun b o e n hb hx => ?_, fun b o e n hx => ?_, fun b o e hx => ?_, fun b xs e => tups b xs (I.base.tups b xs e), fun b o xs e => frzs b o xs (I.base.frzs b o xs e), fun b ps e => ?_⟩, ?_, fun x c e => ?_, ?_, fun x c e => ?_, fun p hp => ?_, hok, I.len⟩
  · exact keep b o (neL b o e) hb (neC b o e hx) (I.base.keep b o e n hb hx) (I.base.free b o e n hx)
  · obtain ⟨sl, e1⟩ := I.base.slot b o e n hb hx
    obtain ⟨sl', e2⟩ := slot b _ (neL b o e) hb (neC b o e hx) e1 (I.base.free b o e n hx)
    exact ⟨sl', e2⟩
  · obtain ⟨o', e1⟩ := I.base.there b o e hx
    exact free b o' (neC b o e hx) e1 (I.base.free b o e n hx)
  · obtain ⟨o', e1⟩ := I.base.there b o e hx
    exact there b o' (neC b o e hx) e1
  · obtain ⟨m1, e1⟩ := I.base.tbls b ps e
    obtain ⟨m2, e2⟩ := tbls b _ e1
    exact ⟨m1 ++ m2, by rw [e2, Array.append_assoc]⟩
  · obtain ⟨m, hn, hl⟩ := I.loc
    refine ⟨m, ns m hn, fun i x v e1 e2 e3 => ?_⟩
    obtain ⟨u, r, l⟩ := hl i x v e1 e2 e3
    refine ⟨u, r, ?_⟩
    rcases l with l | ⟨k, c, e, z⟩
    · exact .inl l
    · exact .inr ⟨k, c, e, cellK x c e _ z⟩
  · obtain ⟨v, z⟩ := I.cell x c e
    exact ⟨v, cellK x c e v z⟩
  · obtain ⟨m, ⟨o, _, _, ho, _⟩, _⟩ := I.loc
    exact free _ o (fun z => (hch _ z).2.1 rfl) ho I.free
  · obtain ⟨v, o, ho, hd⟩ := I.cell x c e
    exact free c o (fun z => (hch c z).2.2.1 x c e rfl) ho (I.freeC x c e)
  · obtain ⟨e, n, ne, nf, d⟩ := I.pin p hp
    have nch : p.1 ∉ ch := fun z => (hch p.1 z).2.2.2 p hp rfl
    exact ⟨keep p.1 p.2 ne nf nch e n, free p.1 p.2 nch e n, ne, nf, d⟩
theorem Inv.un {t' : Nat} (I : Inv X pins σ H s) (u : Un X.fs [] H H' s.heap h') (hok : HOk X.prog X.w H' h') : Inv X pins σ H' { s with heap := h', toks := t' } := by
  obtain ⟨m, ⟨o, es, ep, ho, r⟩, _⟩ := id I.loc
  obtain ⟨sl, hL⟩ := u.any ho I.free (by simp)
  exact I.step (g' := s.gens) (d' := s.drawn) (ch := []) (fun _ z => nomatch z) (fun b o _ hb _ e n => u.keep b o e n hb (by simp)) (fun b o _ hb _ e n => u.slot b o e n hb (by simp)) (fun b o _ e n => u.free b o e n (by simp)) (fun b o _ e => u.there b o e (by simp)) u.tups u.frzs u.tbls (fun m' hm => by
    obtain ⟨o', es', ep', ho', r'⟩ := hm
    rw [ho] at ho'; cases ho'
    exact ⟨_, es', ep', hL, r'⟩) hok I.bare
theorem Inv.call {g' : Array GenState} {t' : Nat} {d' : Drawn} {ch : List Addr} (I : Inv X pins σ H s) (u : Un (frs X.stack) ch H H' s.heap h') (hok : HOk X.prog X.w H' h') (hg : AllBare g')
    (hch : ∀ b ∈ ch, (b ∈ X.ex ∨ X.s₀.heap.objs.size ≤ b) ∧ b ≠ X.env.locals ∧ (∀ x c, X.env.cells.lookup x = some c → c ≠ b) ∧ ∀ p ∈ X.pn ++ pins, p.1 ≠ b) :
    Inv X pins σ H' { s with heap := h', gens := g', drawn := d', toks := t' } := by
  obtain ⟨m, ⟨o, es, ep, ho, r⟩, _⟩ := id I.loc
  obtain ⟨sl, hL⟩ := u.any ho I.free fun z => (hch _ z).2.1 rfl
  exact I.step (ch := ch) hch (fun b o hL hb hc e n => u.keep b o e n (fun z => (List.mem_cons.mp (I.stkSub b z)).elim hL hb) hc) (fun b o _ _ hc e n => u.any e n hc) (fun b o hc e n => u.free b o e n hc) (fun b o hc e => u.there b o e hc) u.tups u.frzs u.tbls (fun m' hm => by
    obtain ⟨o', es', ep', ho', r'⟩ := hm
    rw [ho] at ho'; cases ho'
    exact ⟨_, es', ep', hL, r'⟩) hok hg
theorem Inv.turned {t' : Nat} {it : Addr} (I : Inv X pins σ H s) (k : ∀ b o, b ≠ it → s.heap.get? b = some o → h'.get? b = some o) (hn : H it = none) (hL : it ≠ X.env.locals)
    (h1 : it ∈ X.ex ∨ X.s₀.heap.objs.size ≤ it) (h2 : ∀ x c, X.env.cells.lookup x = some c → c ≠ it) (h3 : ∀ p ∈ X.pn ++ pins, p.1 ≠ it) : Inv X pins σ H { s with heap := h', toks := t' } := by
  have nit : ∀ b u, H b = some u → b ≠ it := fun b u e z => by rw [z, hn] at e; cases e
  refine I.step (g' := s.gens) (d' := s.drawn) (ch := [it]) (fun b hb => ?_) (fun b o _ _ hc e _ => k b o (fun z => hc (by simp [z])) e) (fun b o _ _ hc e _ => ⟨o.slots, k b o (fun z => hc (by simp [z])) e⟩) (fun _ _ _ _ n => n)
    (fun b o hc e => ⟨o, k b o (fun z => hc (by simp [z])) e⟩) (fun _ _ e => e) (fun _ _ _ e => e) (fun b ps e => ⟨#[], by rw [e]; simp⟩) (fun m hm => ?_) (fun b u e => ?_) I.bare
  · have e : b = it := by simpa using hb
    subst e
    exact ⟨h1, hL, h2, h3⟩
  · obtain ⟨o, es, ep, ho, r⟩ := hm
    exact ⟨o, es, ep, k _ o (Ne.symm hL) ho, r⟩
  · refine (I.hok b u e).stay (fun c v hc q => k c v ?_ q) (fun _ q => q) fun _ _ q => q
    rcases hc with z | z
    · rw [z]; exact nit b u e
    · exact nit c _ z
theorem Inv.tok (I : Inv X pins σ H s) (t : Nat) : Inv X pins σ H { s with toks := t } := I.un (h' := s.heap) (t' := t) Un.refl I.hok
theorem Inv.kept {t' : Nat} (I : Inv X pins σ H s) (k : ∀ b u, s.heap.get? b = some u → h'.get? b = some u) : Inv X pins σ H { s with heap := h', toks := t' } := I.un (Un.kept k) (I.hok.kept k)
theorem Inv.laid {a : Addr} {o : HO} {t' : Nat} (I : Inv X pins σ H s) (k : ∀ b u, s.heap.get? b = some u → h'.get? b = some u) (hp : s.heap.objs.size ≤ a) (new : ObjOk X.prog X.w (upd H a o) h' a o) :
    Inv X pins σ (upd H a o) { s with heap := h', toks := t' } := I.un (Un.laid k hp (I.hok.fresh hp)) (I.hok.laid k hp new)
theorem Inv.write {x e : Addr} {o : HO} {t' : Nat} (I : Inv X pins σ H s) (mu : Mut (H x)) (he : e = x ∨ H e = some (.own x)) (k : ∀ b u, b ≠ e → s.heap.get? b = some u → h'.get? b = some u) (heo : ∃ u, h'.get? e = some u)
    (new : ObjOk X.prog X.w (upd H x o) h' x o) : Inv X pins σ (upd H x o) { s with heap := h', toks := t' } := I.un (Un.write mu he k heo) (I.hok.write mu he k heo new)
theorem Inv.pins_of {pins' : List (Addr × Obj)} (I : Inv X pins σ H s) (h : ∀ p ∈ pins', s.heap.get? p.1 = some p.2 ∧ H p.1 = none ∧ p.1 ≠ X.env.locals ∧ p.1 ∉ X.fs ∧ ∀ v, p.2.data ≠ .cell v) : Inv X pins' σ H s :=
  ⟨I.ok, I.os, I.bare, I.base, I.loc, I.cell, I.free, I.freeC, fun p hp => (List.mem_append.mp hp).elim (fun z => I.pin p (List.mem_append_left _ z)) (h p), I.hok, I.len⟩
theorem nodup_ix {N : List Str} (hN : N.Nodup) {i j : Nat} {x : Str} (a : N[i]? = some x) (b : N[j]? = some x) : i = j := by
  obtain ⟨h1, e1⟩ := List.getElem?_eq_some_iff.mp a
  obtain ⟨h2, e2⟩ := List.getElem?_eq_some_iff.mp b
  exact (List.getElem_inj hN).mp (e1.trans e2.symm)
theorem store_ok2 {M : Model} {A : Around} {E : Value → Shared → Prop} {i : Nat} {x : Str} {v : V} {u : Value} {Q : Unit → Shared → Prop} (I : Inv X pins σ H s) (hN : X.N.Nodup) (hi : X.N[i]? = some x) (hx : Loc X.env.scope x) (r : RelV v u)
    (h : ∀ s', Inv X pins (σ.set i (some v)) H s' → (∃ a, Heap.SameBut a s.heap s'.heap ∧ (a = X.env.locals ∨ X.env.cells.lookup x = some a)) → Q () s') (hf : X.fn x = true ∨ X.env.scope.names.lookup x = some .local := by first | exact .inl rfl | exact .inr rfl | assumption) : wpAny M A (storeName X.env x u) Q E s := by
  obtain ⟨m, hn, hl⟩ := id I.loc
  have hcls : (X.env.scope.kind == .class || (X.env.scope.kind == .module && X.env.locals != X.env.globals)) = false := by rw [I.ok.kind]; rfl
  have hiσ : i < σ.length := by rw [I.len]; exact (List.getElem?_eq_some_iff.mp hi).1
  have cne := I.cne
  have tracked : ∀ {a : Addr} {h' : Heap}, (∃ o, s.heap.get? a = some o ∧ H a = none) → Heap.SameBut a s.heap h' → HOk X.prog X.w H h' := fun {a h'} ha hs b ob e => by
    obtain ⟨_, _, hfree⟩ := ha
    refine (I.hok b ob e).stay (fun c w' hc q => (hs.2 c ?_).trans q) (fun _ q => q) fun _ _ q => q
    rintro rfl
    rcases hc with rfl | hc
    · rw [hfree] at e; cases e
    · rw [hfree] at hc; cases hc
  rcases hx with hk | hk
  · refine wpAny_storeName_local hk hn (fun h' hn' hs => ?_) hcls
    obtain ⟨oL, _, _, hoL, _⟩ := id hn
    refine h _ ⟨I.ok, I.os, I.bare, ⟨fun b o e n hb hx => ?_, fun b o e n hb hx => ?_, I.base.free, fun b o e hx => ?_, I.base.tups, I.base.frzs, I.base.tbls⟩, ⟨_, hn', fun j y v' e1 e2 e3 => ?_⟩, fun y c e => ?_, I.free, I.freeC, fun p hp => ?_, tracked ⟨oL, hoL, I.free⟩ hs, by simpa using I.len⟩ ⟨_, hs, .inl rfl⟩
    · exact (hs.2 b (Nat.ne_of_lt (Nat.lt_of_lt_of_le (Heap.lt_size e) I.ok.above))).trans (I.base.keep b o e n hb hx)
    · obtain ⟨sl, e1⟩ := I.base.slot b o e n hb hx
      exact ⟨sl, (hs.2 b (Nat.ne_of_lt (Nat.lt_of_lt_of_le (Heap.lt_size e) I.ok.above))).trans e1⟩
    · obtain ⟨o', e1⟩ := I.base.there b o e hx
      exact ⟨o', (hs.2 b (Nat.ne_of_lt (Nat.lt_of_lt_of_le (Heap.lt_size e) I.ok.above))).trans e1⟩
    · by_cases hj : j = i
      · subst hj
        rw [hi] at e1; cases e1
        rw [List.getElem?_set_self hiσ] at e2
        cases e2
        exact ⟨u, r, .inl ⟨hk, by simp⟩⟩
      · rw [List.getElem?_set_ne (Ne.symm hj)] at e2
        obtain ⟨u', r', q⟩ := hl j y v' e1 e2 e3
        refine ⟨u', r', ?_⟩
        rcases q with ⟨k, e⟩ | ⟨k, c, e, z⟩
        · refine .inl ⟨k, ?_⟩
          have : y ≠ x := fun e => hj (nodup_ix hN e1 (e ▸ hi))
          simp [this, e]
        · exact .inr ⟨k, c, e, z.sameBut hs (cne y c e)⟩
    · obtain ⟨w', z⟩ := I.cell y c e
      exact ⟨w', z.sameBut hs (cne y c e)⟩
    · obtain ⟨e, n, ne, nf, d⟩ := I.pin p hp
      exact ⟨(hs.2 p.1 ne).trans e, n, ne, nf, d⟩
  · have hfn : X.fn x = true := by
      rcases hf with z | z
      · exact z
      · rw [z] at hk; cases hk
    obtain ⟨c, hc⟩ := I.ok.has x (.inl hk)
    obtain ⟨w', z⟩ := I.cell x c hc
    refine wpAny_storeName_cell I.ok.kind hk hc z (fun h' hc' hs => ?_)
    obtain ⟨oc, hoc, hocd⟩ := id z
    refine h { s with heap := h' } ⟨I.ok, I.os, I.bare, ⟨fun b o e n hb hx => ?_, fun b o e n hb hx => ?_, I.base.free, fun b o e hx => ?_, I.base.tups, I.base.frzs, I.base.tbls⟩, ⟨m, hn.sameBut hs (Ne.symm (cne x c hc)), fun j y v' e1 e2 e3 => ?_⟩, fun y c' e => ?_, I.free, I.freeC, fun p hp => ?_, tracked ⟨oc, hoc, I.freeC x c hc⟩ hs, by simpa using I.len⟩ ⟨c, hs, .inr hc⟩
    · exact (hs.2 b (Nat.ne_of_lt (Nat.lt_of_lt_of_le (Heap.lt_size e) (I.ok.cab x c hfn hc)))).trans (I.base.keep b o e n hb hx)
    · obtain ⟨sl, e1⟩ := I.base.slot b o e n hb hx
      exact ⟨sl, (hs.2 b (Nat.ne_of_lt (Nat.lt_of_lt_of_le (Heap.lt_size e) (I.ok.cab x c hfn hc)))).trans e1⟩
    · obtain ⟨o', e1⟩ := I.base.there b o e hx
      exact ⟨o', (hs.2 b (Nat.ne_of_lt (Nat.lt_of_lt_of_le (Heap.lt_size e) (I.ok.cab x c hfn hc)))).trans e1⟩
    · by_cases hj : j = i
      · subst hj
        rw [hi] at e1; cases e1
        rw [List.getElem?_set_self hiσ] at e2
        cases e2
        exact ⟨u, r, .inr ⟨.inl hk, c, hc, hc'⟩⟩
      · rw [List.getElem?_set_ne (Ne.symm hj)] at e2
        obtain ⟨u', r', q⟩ := hl j y v' e1 e2 e3
        refine ⟨u', r', ?_⟩
        rcases q with q | ⟨k, c', e, z'⟩
        · exact .inl q
        · refine .inr ⟨k, c', e, z'.sameBut hs ?_⟩
          rintro rfl
          exact hj (nodup_ix hN e1 (I.ok.inj _ _ _ e hc ▸ hi))
    · by_cases hcc : c' = c
      · subst hcc; exact ⟨_, hc'⟩
      · obtain ⟨w2, z2⟩ := I.cell y c' e
        exact ⟨w2, z2.sameBut hs hcc⟩
    · obtain ⟨e, n, ne, nf, d⟩ := I.pin p hp
      refine ⟨(hs.2 p.1 ?_).trans e, n, ne, nf, d⟩
      intro q
      rw [q, hoc] at e
      have q' : oc = p.2 := Option.some.inj e
      exact d w' (by rw [← q']; exact hocd)
theorem store_ok {M : Model} {A : Around} {E : Value → Shared → Prop} {i : Nat} {x : Str} {v : V} {u : Value} {Q : Unit → Shared → Prop} (I : Inv X pins σ H s) (hN : X.N.Nodup) (hi : X.N[i]? = some x) (hx : Loc X.env.scope x) (r : RelV v u)
    (h : ∀ s', Inv X pins (σ.set i (some v)) H s' → Q () s') (hf : X.fn x = true ∨ X.env.scope.names.lookup x = some .local := by first | exact .inl rfl | exact .inr rfl | assumption) : wpAny M A (storeName X.env x u) Q E s :=
  store_ok2 I hN hi hx r (fun s' I' _ => h s' I') hf
theorem Inv.call' {s' : Shared} {ch : List Addr} (I : Inv X pins σ H s) (ho : s'.os = s.os) (u : Un (frs X.stack) ch H H' s.heap s'.heap) (hok : HOk X.prog X.w H' s'.heap) (hg : AllBare s'.gens)
    (hch : ∀ b ∈ ch, (b ∈ X.ex ∨ X.s₀.heap.objs.size ≤ b) ∧ b ≠ X.env.locals ∧ (∀ x c, X.env.cells.lookup x = some c → c ≠ b) ∧ ∀ p ∈ X.pn ++ pins, p.1 ≠ b) : Inv X pins σ H' s' := by
  obtain ⟨h', g', d', t', o'⟩ := s'
  have e : o' = s.os := ho
  subst e
  exact I.call (g' := g') (t' := t') (d' := d') u hok hg hch
end
abbrev XK := Value → Option Addr → Hp → Prop
abbrev St := List (Option V)
abbrev VK := V → Hp → Prop
abbrev TE := St → Hp → VK → Prop
abbrev TT := St → Hp → (Bool → Hp → Prop) → Prop
abbrev TA := St → Hp → (List V → Hp → Prop) → Prop
structure Ends where
  nx : St → Hp → Prop
  rt : VK
  bk : St → Hp → Prop := fun _ _ => False
  ct : St → Hp → Prop := fun _ _ => False
abbrev TS := Ends → St → Hp → Prop
def EP (X : Cx) (pins : List (Addr × Obj)) (σ : St) (Q : VK) (u : Value) (s' : Shared) : Prop := ∃ v H', Inv X pins σ H' s' ∧ RelV v u ∧ Q v H'
def TP (X : Cx) (pins : List (Addr × Obj)) (σ : St) (Q : Bool → Hp → Prop) (b : Bool) (s' : Shared) : Prop := ∃ H', Inv X pins σ H' s' ∧ Q b H'
def AP (X : Cx) (pins : List (Addr × Obj)) (σ : St) (Q : List V → Hp → Prop) (us : List Value) (s' : Shared) : Prop := ∃ vs H', Inv X pins σ H' s' ∧ Vals vs us ∧ Q vs H'
def SP (X : Cx) (pins : List (Addr × Obj)) (D : Ends) (f : Flow) (s' : Shared) : Prop :=
  match f with
  | .next => ∃ σ' H', Inv X pins σ' H' s' ∧ D.nx σ' H'
  | .brk => ∃ σ' H', Inv X pins σ' H' s' ∧ D.bk σ' H'
  | .cont => ∃ σ' H', Inv X pins σ' H' s' ∧ D.ct σ' H'
  | .ret u => ∃ v σ' H', Inv X pins σ' H' s' ∧ RelV v u ∧ D.rt v H'
def PE (X : Cx) (e : Expr) (t : TE) : Prop :=
  ∀ (pins : List (Addr × Obj)) (s : Shared) (σ : St) (H : Hp) (Q : VK), Inv X pins σ H s → t σ H Q → wpAny (model X.prog X.w) X.A (eval e X.env) (EP X pins σ Q) X.xe s
def PT (X : Cx) (e : Expr) (t : TT) : Prop :=
  ∀ (pins : List (Addr × Obj)) (s : Shared) (σ : St) (H : Hp) (Q : Bool → Hp → Prop), Inv X pins σ H s → t σ H Q → wpAny (model X.prog X.w) X.A (isTrue e X.env (eval e X.env)) (TP X pins σ Q) X.xe s
def PW (X : Cx) (e : Expr) (t : TT) : Prop :=
  ∀ (whole : Sem Value) (pins : List (Addr × Obj)) (s : Shared) (σ : St) (H : Hp) (Q : Bool → Hp → Prop), Inv X pins σ H s → t σ H Q → wpAny (model X.prog X.w) X.A (isTrue e X.env whole) (TP X pins σ Q) X.xe s
theorem PW.pt {X : Cx} {e : Expr} {t : TT} (h : PW X e t) : PT X e t := h _
def PA (X : Cx) (es : List Expr) (t : TA) : Prop :=
  ∀ (pos : Pos) (pins : List (Addr × Obj)) (s : Shared) (σ : St) (H : Hp) (Q : List V → Hp → Prop), Inv X pins σ H s → t σ H Q → wpAny (model X.prog X.w) X.A (spliced (backTo pos (starEach es X.env))) (AP X pins σ Q) X.xe s
def PS (X : Cx) (st : Stmt) (t : TS) : Prop :=
  ∀ (pins : List (Addr × Obj)) (s : Shared) (σ : St) (H : Hp) (D : Ends), Inv X pins σ H s → t D σ H → wpAny (model X.prog X.w) X.A (exec st X.env) (SP X pins D) X.xe s
def PSs (X : Cx) (st : List Stmt) (t : TS) : Prop :=
  ∀ (pins : List (Addr × Obj)) (s : Shared) (σ : St) (H : Hp) (D : Ends), Inv X pins σ H s → t D σ H → wpAny (model X.prog X.w) X.A (execs st X.env) (SP X pins D) X.xe s
theorem thn {α : Type} {t : Sem α} {Q Q' : α → Shared → Prop} {M : Model} {A : Around} {E : Value → Shared → Prop} {s : Shared} (h : wpAny M A t Q E s) (hQ : ∀ a s, Q a s → Q' a s) : wpAny M A t Q' E s := wpAny_mono h hQ fun _ _ x => x
end L2
namespace L2
open PySem PySem.Spec PyProof.Rows
section
variable {X : Cx}
def tVar (i : Nat) : TE := fun σ H Q => ∃ v, σ[i]? = some (some v) ∧ Q v H
def tC (v : V) : TE := fun _ H Q => Q v H
theorem pe_var {i : Nat} {x : Str} {pos : Pos} (hN : X.N[i]? = some x) (hv : Vis X.env.scope x) (hd : (x == ("__debug__" : Str)) = false := by decide) (hcd : (x == ("__classdict__" : Str)) = false := by decide) : PE X (.Name x pos) (tVar i) := by
  intro pins s σ H Q I h
  obtain ⟨v, e, h⟩ := h
  obtain ⟨m, hn, hl⟩ := I.loc
  obtain ⟨u, r, l⟩ := hl i x v hN e hv
  have fin : EP X pins σ Q u s := ⟨v, H, I, r, h⟩
  rcases l with ⟨hk, hm⟩ | ⟨hk, c, hc, hcell⟩
  · exact wpAny_Name (wpAny_loadName_local I.ok.kind hk hn hm fin) hd
  · rcases hk with hk | hk
    · exact wpAny_Name (wpAny_loadName_cell I.ok.kind hk hc hcell fin) hd
    · exact wpAny_Name (wpAny_loadName_free I.ok.kind hk hc hcell fin hcd) hd
theorem pe_int {i j pos} : PE X (.Constant (.int i) j pos) (tC (.int i)) := fun _ _ _ H _ I h => wpAny_Constant_int ⟨.int i, H, I.tok _, ⟨_, rfl⟩, h⟩
theorem pe_bl {b j pos} : PE X (.Constant (.bool b) j pos) (tC (.bl b)) := fun _ _ _ H _ I h => Constant_bool ⟨.bl b, H, I, rfl, h⟩
theorem pe_str {x j pos} : PE X (.Constant (.str x) j pos) (tC (.str x)) := fun _ _ _ H _ I h => Calls.Constant_str ⟨.str x, H, I.tok _, ⟨_, rfl⟩, h⟩
def Gl (X : Cx) (x : Str) : Prop := X.env.kindOf x = some .globalImplicit
theorem ld_glob {E : Value → Shared → Prop} {pins : List (Addr × Obj)} {s : Shared} {σ : St} {H : Hp} {x : Str} {u : Value} {pos : Pos} {Q : Value → Shared → Prop} (I : Inv X pins σ H s) (hg : Gl X x) (hm : X.mg x = some u) (h : Q u s)
    (hd : (x == ("__debug__" : Str)) = false := by decide) : wpAny (model X.prog X.w) X.A (eval (.Name x pos) X.env) Q E s :=
  Calls.Name_function_global I.ok.kind hg (Calls.loadGlobal_global (by rw [I.ok.glob]; exact I.mod.glob.keeps I.bk) hm h) hd
theorem ld_blt {E : Value → Shared → Prop} {pins : List (Addr × Obj)} {s : Shared} {σ : St} {H : Hp} {x : Str} {u : Value} {pos : Pos} {Q : Value → Shared → Prop} (I : Inv X pins σ H s) (hg : Gl X x) (hm : X.mg x = none) (hv : bootBuiltins x = some u) (h : Q u s)
    (hn : x ≠ "__name__" := by decide) (hd : (x == ("__debug__" : Str)) = false := by decide) : wpAny (model X.prog X.w) X.A (eval (.Name x pos) X.env) Q E s := by
  obtain ⟨mb, h1, h2⟩ := I.mod.blt
  exact Calls.Name_function_global I.ok.kind hg (Calls.loadGlobal_builtin (by rw [I.ok.glob]; exact I.mod.glob.keeps I.bk) hm (by rw [I.ok.blt]; exact h1.keeps I.bk) ((h2 x hn).trans hv) h) hd
theorem pe_bltn {x : Str} {v : V} {u : Value} {pos : Pos} (hg : Gl X x) (hm : X.mg x = none) (hv : bootBuiltins x = some u) (r : RelV v u) (hn : x ≠ "__name__" := by decide) (hd : (x == ("__debug__" : Str)) = false := by decide) : PE X (.Name x pos) (tC v) :=
  fun _ _ _ H _ I h => ld_blt I hg hm hv ⟨v, H, I, r, h⟩ hn hd
variable {a b : Expr} {ta tb : TE} {pos : Pos}
def tB (t : TE) : TT := fun σ H Q => t σ H fun x H1 => ∃ c, x = .bl c ∧ Q c H1
theorem pt_val {e : Expr} {t : TE} (h : PE X e t) (he : ∀ whole, isTrue e X.env whole = (do let v ← whole; standAt e.pos; holding [v] (truthy v)) := by intro _; rfl) : PT X e (tB t) := by
  intro pins s σ H Q I hw
  refine isTrue_plain (thn (h pins s σ H _ I hw) fun v s1 ⟨x, H1, I1, r1, q1⟩ => ?_) (he _)
  obtain ⟨d, rfl, q⟩ := q1
  cases r1
  exact wpAny_truthy_bool ⟨H1, I1, q⟩
variable {tA tB' : TT} {rest : List Expr}
def tOr (t u : TT) : TT := fun σ H Q => t σ H fun c H1 => if c = true then Q true H1 else u σ H1 Q
def tNot (t : TT) : TT := fun σ H Q => t σ H fun c H1 => Q (!c) H1
theorem pw_or1 (ha : PT X a tA) : PW X (.BoolOp .Or [a] pos) tA := by
  intro wh pins s σ H Q I h
  refine isTrue_or (thn (ha pins s σ H Q I h) fun c s1 e => ?_)
  cases c with
  | false => exact isTrue_or_nil e
  | true => exact e
theorem pw_or (ha : PT X a tA) (hb : PW X (.BoolOp .Or (b :: rest) pos) tB') : PW X (.BoolOp .Or (a :: b :: rest) pos) (tOr tA tB') := by
  intro wh pins s σ H Q I h
  refine isTrue_or (thn (ha pins s σ H _ I h) fun c s1 ⟨H1, I1, q1⟩ => ?_)
  cases c with
  | true => exact ⟨H1, I1, q1⟩
  | false => exact hb wh pins s1 σ H1 Q I1 q1
theorem pt_not (ha : PT X a tA) : PT X (.UnaryOp .Not a pos) (tNot tA) := by
  intro pins s σ H Q I h
  exact isTrue_not (ha pins s σ H (fun c H1 => Q (!c) H1) I h)
def tIf (t : TT) (ta tb : TE) : TE := fun σ H Q => t σ H fun c H1 => if c = true then ta σ H1 Q else tb σ H1 Q
theorem pe_ifExp {c : Expr} (hc : PT X c tA) (ha : PE X a ta) (hb : PE X b tb) : PE X (.IfExp c a b pos) (tIf tA ta tb) := by
  intro pins s σ H Q I h
  refine wpAny_IfExp (thn (hc pins s σ H _ I h) fun d s1 ⟨H1, I1, q1⟩ => ?_)
  cases d with
  | true => exact ha pins s1 σ H1 Q I1 q1
  | false => exact hb pins s1 σ H1 Q I1 q1
end
end L2
namespace L2
open PySem PySem.Spec PyProof.Rows
def SqL (K : PySem.W.Frag) (H : Hp) (a : Addr) (xs : List V) : Prop :=
  Rd H a (.lst xs) ∨
    ∃ (o : Obj) (its : Array Value) (n : Nat), K.lookup a = some o ∧ o.cls = .type "list" ∧ o.dict = none ∧ o.data = .seq its n ∧ its.size ≤ sizeLine ∧ Vals xs its.toList
def SqT (K : PySem.W.Frag) (H : Hp) (a : Addr) (xs : List V) : Prop :=
  Rd H a (.tup xs) ∨
    ∃ (o : Obj) (its : Array Value) (n : Nat), K.lookup a = some o ∧ o.cls = .type "tuple" ∧ o.data = .seq its n ∧ its.size ≤ sizeLine ∧ Vals xs its.toList
def absV : Value → Option V
  | .none => some .non
  | .bool b => some (.bl b)
  | .int i _ => some (.int i)
  | .str x _ => some (.str x)
  | .bytes b _ => some (.byt b)
  | .float b _ => some (.flt b)
  | .ref a => some (.ref a)
  | .type n => some (.ty n)
  | _ => none
theorem RelV.abs {x : V} {u : Value} (r : RelV x u) : absV u = some x := by
  cases x with
  | non => cases r; rfl
  | bl _ => cases r; rfl
  | int _ => obtain ⟨t, rfl⟩ := r; rfl
  | str _ => obtain ⟨t, rfl⟩ := r; rfl
  | byt _ => obtain ⟨t, rfl⟩ := r; rfl
  | flt _ => obtain ⟨t, rfl⟩ := r; rfl
  | ref _ => cases r; rfl
  | ty _ => cases r; rfl
theorem RelV.inj {x y : V} {u : Value} (r : RelV x u) (q : RelV y u) : x = y := Option.some.inj (r.abs.symm.trans q.abs)
theorem Vals.inj : ∀ {xs ys : List V} {us : List Value}, Vals xs us → Vals ys us → xs = ys
  | _, _, _, .nil, .nil => rfl
  | _, _, _, .cons r t, .cons r' t' => by rw [r.inj r', Vals.inj t t']
section
variable {X : Cx} {pins : List (Addr × Obj)} {σ : St} {H : Hp} {s : Shared} {a : Addr} {xs ys : List V}
theorem SqL.of {K : PySem.W.Frag} (h : H a = some (.lst xs)) : SqL K H a xs := .inl (.inl h)
theorem SqT.of {K : PySem.W.Frag} (h : H a = some (.tup xs)) : SqT K H a xs := .inl (.inl h)
theorem Inv.list (I : Inv X pins σ H s) (h : SqL X.K H a xs) : ∃ its : List Value, Vals xs its ∧ PlainL s.heap a its.toArray ∧ xs.length ≤ sizeLine := by
  rcases h with h | ⟨o, its, n, hk, hc, hd, hs, hz, r⟩
  · obtain ⟨z, its, n, r, e⟩ := h.ok I.hok
    exact ⟨its, r, ⟨_, n, e, rfl, rfl, rfl⟩, z⟩
  · refine ⟨its.toList, r, ⟨o, n, I.kIn a o hk, hc, hd, by simpa using hs⟩, ?_⟩
    have e := r.length
    simp only [Array.length_toList] at e
    omega
theorem Inv.tuple (I : Inv X pins σ H s) (h : SqT X.K H a xs) : ∃ its : List Value, Vals xs its ∧ IsTup s.heap a its.toArray ∧ xs.length ≤ sizeLine := by
  rcases h with h | ⟨o, its, n, hk, hc, hs, hz, r⟩
  · obtain ⟨z, its, r, p⟩ := h.ok I.hok
    exact ⟨its, r, p, z⟩
  · refine ⟨its.toList, r, ⟨o, I.kIn a o hk, hc, n, by simpa using hs⟩, ?_⟩
    have e := r.length
    simp only [Array.length_toList] at e
    omega
theorem Inv.list_inj (I : Inv X pins σ H s) (h : SqL X.K H a xs) (h' : SqL X.K H a ys) : xs = ys := by
  obtain ⟨its, r, ⟨o, n, e, _, _, d⟩, _⟩ := I.list h
  obtain ⟨its', r', ⟨o', n', e', _, _, d'⟩, _⟩ := I.list h'
  rw [e] at e'; cases e'
  rw [d] at d'
  injection d' with d1 _
  have : its = its' := by simpa using congrArg Array.toList d1
  subst this
  exact r.inj r'
end
abbrev Cx.wish (X : Cx) (E : Value → Shared → Prop) : Cx := { X with xe := E }
abbrev Cx.nox (X : Cx) : Cx := X.wish fun _ _ => False
theorem Cx.Ok.wish {X : Cx} (ok : X.Ok) (E : Value → Shared → Prop) : (X.wish E).Ok :=
  ⟨ok.mod, ok.kind, ok.glob, ok.blt, ok.above, ok.inj, ok.has, ok.cab, ok.hd, ok.frames, ok.stk, ok.exf, ok.bs, ok.bsz, ok.noex, ok.exfs, ok.funs, ok.frf⟩
theorem Cx.Ok.unwish {X : Cx} {E : Value → Shared → Prop} (ok : (X.wish E).Ok) : X.Ok :=
  ⟨ok.mod, ok.kind, ok.glob, ok.blt, ok.above, ok.inj, ok.has, ok.cab, ok.hd, ok.frames, ok.stk, ok.exf, ok.bs, ok.bsz, ok.noex, ok.exfs, ok.funs, ok.frf⟩
section
variable {X : Cx} {pins : List (Addr × Obj)} {σ : St} {H : Hp} {s : Shared} {E : Value → Shared → Prop}
theorem Inv.wish (I : Inv X pins σ H s) (E : Value → Shared → Prop) : Inv (X.wish E) pins σ H s := ⟨I.ok.wish E, I.os, I.bare, I.base, I.loc, I.cell, I.free, I.freeC, I.pin, I.hok, I.len⟩
theorem Inv.unwish (I : Inv (X.wish E) pins σ H s) : Inv X pins σ H s := ⟨I.ok.unwish, I.os, I.bare, I.base, I.loc, I.cell, I.free, I.freeC, I.pin, I.hok, I.len⟩
theorem SP.unwish {D : Ends} {f : Flow} {s' : Shared} (h : SP (X.wish E) pins D f s') : SP X pins D f s' := by
  cases f with
  | next => obtain ⟨σ', H', I, q⟩ := h; exact ⟨σ', H', I.unwish, q⟩
  | brk => obtain ⟨σ', H', I, q⟩ := h; exact ⟨σ', H', I.unwish, q⟩
  | cont => obtain ⟨σ', H', I, q⟩ := h; exact ⟨σ', H', I.unwish, q⟩
  | ret u => obtain ⟨v, σ', H', I, r, q⟩ := h; exact ⟨v, σ', H', I.unwish, r, q⟩
theorem PSs.nox {st : List Stmt} {t : TS} (h : PSs X.nox st t) : PSs X st t := fun pins s σ H D I hw =>
  wpAny_mono (h pins s σ H D (I.wish _) hw) (fun _ _ q => q.unwish) fun _ _ z => False.elim z
end
section
variable {X : Cx} {st : Stmt} {rest : List Stmt} {t u : TS} {e : Expr} {te : TE} {pos : Pos}
def tNext : TS := fun D σ H => D.nx σ H
def tSeq (t u : TS) : TS := fun D σ H => t { D with nx := u D } σ H
theorem pss_nil : PSs X [] tNext := fun _ _ σ H _ I h => wpAny_execs_nil ⟨σ, H, I, h⟩
theorem pss_cons (h1 : PS X st t) (h2 : PSs X rest u) : PSs X (st :: rest) (tSeq t u) := by
  intro pins s σ H D I h
  refine wpAny_execs_cons (thn (h1 pins s σ H { D with nx := u D } I h) fun f s1 q => ?_)
  cases f with
  | next =>
    obtain ⟨σ', H', I', q⟩ := q
    exact h2 pins s1 σ' H' D I' q
  | ret v => exact q
  | brk => exact q
  | cont => exact q
theorem pss_one (h1 : PS X st t) : PSs X [st] t := by
  intro pins s σ H D I h
  refine wpAny_execs_cons (thn (h1 pins s σ H D I h) fun f s1 q => ?_)
  cases f with
  | next => exact wpAny_execs_nil q
  | ret v => exact q
  | brk => exact q
  | cont => exact q
theorem Inv.quiet {pins : List (Addr × Obj)} {σ : St} {H : Hp} {s : Shared} (I : Inv X pins σ H s) : interactive X.env = false := by simp [interactive, I.ok.kind]
def tDrop (te : TE) : TS := fun D σ H => te σ H fun _ H1 => D.nx σ H1
theorem ps_expr (he : PE X e te) (hs : swapsWith e none pos.line X.env = pure false := by rfl) : PS X (.Expr e pos) (tDrop te) := by
  intro pins s σ H D I h
  exact wpAny_Expr_any (thn (he pins s σ H _ I h) fun v s1 ⟨x, H1, I1, r1, q1⟩ => ⟨σ, H1, I1, q1⟩) I.quiet hs
def tRet (te : TE) : TS := fun D σ H => te σ H D.rt
theorem ps_ret (he : PE X e te) : PS X (.Return (some e) pos) (tRet te) := by
  intro pins s σ H D I h
  exact wpAny_Return_some (thn (he pins s σ H _ I h) fun v s1 ⟨x, H1, I1, r1, q1⟩ => ⟨x, σ, H1, I1, r1, q1⟩)
def tIfS (c : TT) (t u : TS) : TS := fun D σ H => c σ H fun b H1 => if b = true then t D σ H1 else u D σ H1
theorem ps_if {c : Expr} {a b : List Stmt} {tc : TT} (hc : PT X c tc) (ha : PSs X a t) (hb : PSs X b u) : PS X (.If c a b pos) (tIfS tc t u) := by
  intro pins s σ H D I h
  refine wpAny_If (thn (hc pins s σ H _ I h) fun d s1 ⟨H1, I1, q1⟩ => ?_)
  cases d with
  | true => exact ha pins s1 σ H1 D I1 q1
  | false => exact hb pins s1 σ H1 D I1 q1
end
abbrev TG := V → St → Hp → (St → Hp → Prop) → Prop
abbrev TGs := List V → St → Hp → (St → Hp → Prop) → Prop
def PG (X : Cx) (target : Expr) (t : TG) : Prop :=
  ∀ (pins : List (Addr × Obj)) (s : Shared) (σ : St) (H : Hp) (v : V) (u : Value) (Q : St → Hp → Prop), Inv X pins σ H s → RelV v u → t v σ H Q →
    wpAny (model X.prog X.w) X.A (assign target X.env u) (fun _ s' => ∃ σ' H', Inv X pins σ' H' s' ∧ Q σ' H') X.xe s
def PGs (X : Cx) (ts : List Expr) (t : TGs) : Prop :=
  ∀ (pins : List (Addr × Obj)) (s : Shared) (σ : St) (H : Hp) (vs : List V) (us : List Value) (Q : St → Hp → Prop), Inv X pins σ H s → Vals vs us → t vs σ H Q →
    wpAny (model X.prog X.w) X.A (assignInOrder ((assignEach ts X.env).map (·.2)) us) (fun _ s' => ∃ σ' H', Inv X pins σ' H' s' ∧ Q σ' H') X.xe s
abbrev TSet := V → V → V → Hp → (Hp → Prop) → Prop
def PSet (X : Cx) (t : TSet) : Prop :=
  ∀ (pins : List (Addr × Obj)) (s : Shared) (σ : St) (H : Hp) (o i v : V) (ov iv u : Value) (Q : Hp → Prop), Inv X pins σ H s → RelV o ov → RelV i iv → RelV v u → t o i v H Q →
    wpAny (model X.prog X.w) X.A (setItem ov iv u) (fun _ s' => ∃ H', Inv X pins σ H' s' ∧ Q H') X.xe s
section
variable {X : Cx} {pos : Pos}
def gName (i : Nat) : TG := fun v σ H Q => Q (σ.set i (some v)) H
theorem pg_name {i : Nat} {x : Str} (hN : X.N.Nodup) (hi : X.N[i]? = some x) (hx : Loc X.env.scope x) (hf : X.fn x = true ∨ X.env.scope.names.lookup x = some .local := by first | exact .inl rfl | exact .inr rfl | assumption) : PG X (.Name x pos) (gName i) := by
  intro pins s σ H v u Q I r h
  exact wpAny_assign_Name (store_ok I hN hi hx r (fun s' I' => ⟨_, H, I', h⟩) hf)
def gNil : TGs := fun vs σ H Q => vs = [] ∧ Q σ H
def gCons (t : TG) (u : TGs) : TGs := fun vs σ H Q => ∃ v r, vs = v :: r ∧ t v σ H fun σ' H' => u r σ' H' Q
theorem pgs_nil : PGs X [] gNil := by
  intro pins s σ H vs us Q I r h
  obtain ⟨e, h⟩ := h
  subst e
  cases r
  exact assignInOrder_nil ⟨σ, H, I, h⟩
theorem pgs_cons {e : Expr} {es : List Expr} {t : TG} {u : TGs} (h1 : PG X e t) (h2 : PGs X es u)
    (hs : (assignEach (e :: es) X.env).map (·.2) = assign e X.env :: (assignEach es X.env).map (·.2) := by rfl) : PGs X (e :: es) (gCons t u) := by
  intro pins s σ H vs us Q I r h
  obtain ⟨v, vr, e1, h⟩ := h
  subst e1
  cases r with
  | cons r rr =>
    rw [hs]
    refine assignInOrder_cons (thn (h1 pins s σ H _ _ _ I r h) fun _ s1 ⟨σ1, H1, I1, q1⟩ => ?_)
    exact h2 pins s1 σ1 H1 _ _ Q I1 rr q1
def gTup (K : PySem.W.Frag) (n : Nat) (t : TGs) : TG := fun v σ H Q => ∃ a xs, v = .ref a ∧ SqT K H a xs ∧ xs.length = n ∧ t xs σ H Q
theorem pg_tup {es : List Expr} {k : Nat} {t : TGs} {n : Nat} (hc : X.calm = true) (h : PGs X es t)
    (hn : (assignEach es X.env).length = n := by rfl) (hst : (assignEach es X.env).findIdx? (·.1) = none := by rfl) : PG X (.Tuple es k pos) (gTup X.K n t) := by
  intro pins s σ H v u Q I r hw
  obtain ⟨a, xs, e1, hq, hl, hw⟩ := hw
  subst e1
  cases r
  obtain ⟨its, rv, ht, hz⟩ := I.tuple hq
  refine assign_Tuple_tuple (I.ok.hd hc) ht (by simp [hn, ← hl, rv.length]) hst fun h' hx => ?_
  have I1 : Inv X pins σ H { s with heap := h' } := I.kept (t' := s.toks) fun b o e => hx b o (Nat.ne_of_lt (Heap.lt_size e)) e
  exact h pins _ σ H xs _ Q I1 (by simpa using rv) hw
def gSub (to ti : TE) (t : TSet) : TG := fun v σ H Q => to σ H fun o H1 => ti σ H1 fun i H2 => t o i v H2 fun H3 => Q σ H3
theorem pg_sub {o i : Expr} {to ti : TE} {t : TSet} (ho : PE X o to) (hi : PE X i ti) (hs : PSet X t)
    (ha : ∀ v, assign (.Subscript o i pos) X.env v = (do
      let ov ← holding [v] (eval o X.env)
      let iv ← holding [v, ov] (eval i X.env)
      standAt pos
      holding [v, ov, iv] (setItem ov iv v)
      release [v, ov, iv] []) := by intro _; rfl) : PG X (.Subscript o i pos) (gSub to ti t) := by
  intro pins s σ H v u Q I r h
  rw [ha]
  refine wpAny_bind (wpAny_holding (thn (ho pins s σ H _ I h) fun ov s1 ⟨x, H1, I1, r1, q1⟩ => ?_))
  refine wpAny_bind (wpAny_holding (thn (hi pins s1 σ H1 _ I1 q1) fun iv s2 ⟨y, H2, I2, r2, q2⟩ => ?_))
  refine wpAny_bind (wpAny_standAt (wpAny_bind (wpAny_holding (thn (hs pins s2 σ H2 x y v ov iv u _ I2 r1 r2 r q2) fun _ s3 ⟨H3, I3, q3⟩ => ?_))))
  exact wpAny_release ⟨σ, H3, I3, q3⟩
def tAsg (te : TE) (g : TG) : TS := fun D σ H => te σ H fun x H1 => g x σ H1 D.nx
theorem ps_asg {tg e : Expr} {te : TE} {g : TG} (he : PE X e te) (hg : PG X tg g) (hs : swapsWithSole [tg] e pos.line X.env = pure false := by rfl) (hw : swappedStores [tg] e X.env = pure none := by rfl)
    (h1 : (assignEach [tg] X.env).map (·.2) = [assign tg X.env] := by rfl) : PS X (.Assign [tg] e pos) (tAsg te g) := by
  intro pins s σ H D I h
  refine wpAny_Assign_stores (thn (he pins s σ H _ I h) fun v s1 ⟨x, H1, I1, r1, q1⟩ => ?_) hs hw
  rw [h1]
  exact thn (hg pins s1 σ H1 x v _ I1 r1 q1) fun _ s2 q => q
theorem ps_set {i : Nat} {x : Str} {e : Expr} {te : TE} {pos' : Pos} (hN : X.N.Nodup) (hi : X.N[i]? = some x) (hx : Loc X.env.scope x) (he : PE X e te) (hs : swapsWith e (some (.Name x pos')) pos.line X.env = pure false := by rfl) (hf : X.fn x = true ∨ X.env.scope.names.lookup x = some .local := by first | exact .inl rfl | exact .inr rfl | assumption) :
    PS X (.Assign [.Name x pos'] e pos) (tAsg te (gName i)) := by
  intro pins s σ H D I h
  refine wpAny_Assign_Name (thn (he pins s σ H _ I h) fun v s1 ⟨y, H1, I1, r1, q1⟩ => ?_) hs
  exact store_ok I1 hN hi hx r1 (fun s2 I2 => ⟨_, H1, I2, q1⟩) hf
end
section
variable {X : Cx} {pos : Pos}
end
structure It where
  go : Nat → Hp → Prop
  yld : Nat → Hp → V → Hp → Prop
  stop : Nat → Hp → Prop
def FpOk (X : Cx) (pins : List (Addr × Obj)) (H : Hp) (b : Addr) : Prop :=
  H b = none ∧ b ≠ X.env.locals ∧ b ∉ X.fs ∧ (b ∈ X.ex ∨ X.s₀.heap.objs.size ≤ b) ∧ (∀ x c, X.env.cells.lookup x = some c → c ≠ b) ∧ ∀ p ∈ X.pn ++ pins, p.1 ≠ b
theorem Inv.fpOk {X : Cx} {pins : List (Addr × Obj)} {σ : St} {H H' : Hp} {s : Shared} {b : Addr} (I : Inv X pins σ H s) (hb : s.heap.objs.size ≤ b) (hn : H' b = none) : FpOk X pins H' b := by
  refine ⟨hn, Nat.ne_of_gt (Nat.lt_of_lt_of_le I.lt hb), I.nofs hb, .inr (Nat.le_trans I.sz hb), fun x c e z => ?_, fun p hp z => ?_⟩
  · obtain ⟨v, q⟩ := I.cell x c e
    exact absurd (Nat.lt_of_lt_of_le q.lt (by rw [z]; exact hb)) (Nat.lt_irrefl _)
  · exact absurd (Nat.lt_of_lt_of_le (Heap.lt_size (I.pin p hp).1) (by rw [z]; exact hb)) (Nat.lt_irrefl _)
structure Turn (P : Program) (w : World) (K : PySem.W.Frag) (tg : Expr) (J : It) (fp : List Addr) (it : Addr) (tn : Nat → Heap → Prop) : Prop where
  mem : it ∈ fp
  obj : ∀ i h, tn i h → ∀ b ∈ fp, ∃ o, h.get? b = some o ∧ ∀ v, o.data ≠ .cell v
  keep : ∀ i h h', tn i h → (∀ b ∈ fp, ∀ o, h.get? b = some o → h'.get? b = some o) → tn i h'
  item : ∀ (X : Cx), X.prog = P → X.w = w → X.K = K → X.calm = true → ∀ (i : Nat) (pins : List (Addr × Obj)) (s : Shared) (σ : St) (H : Hp) (E : Value → Shared → Prop), Inv X pins σ H s → (∀ b ∈ fp, FpOk X pins H b) → tn i s.heap → J.go i H →
    wpAny (model P w) X.A (pyNext (.ref it)) (fun r s1 => ∃ u, r = some u ∧
      wpAny (model P w) X.A (letOwnedTupleGo tg (.ref it) u) (fun _ s2 => ∃ x H', Inv X pins σ H' s2 ∧ RelV x u ∧ J.yld i H x H' ∧ tn (i + 1) s2.heap ∧ ∀ b ∈ fp, H' b = none) E s1) E s
  done : ∀ (X : Cx), X.prog = P → X.w = w → X.K = K → X.calm = true → ∀ (i : Nat) (pins : List (Addr × Obj)) (s : Shared) (σ : St) (H : Hp) (E : Value → Shared → Prop), Inv X pins σ H s → (∀ b ∈ fp, FpOk X pins H b) → tn i s.heap → J.stop i H →
    wpAny (model P w) X.A (pyNext (.ref it)) (fun r s1 => r = none ∧ Inv X pins σ H s1) E s
  self : ∀ (A : Around) (i : Nat) (s : Shared) (Q : Value → Shared → Prop) (E : Value → Shared → Prop), tn i s.heap → Q (.ref it) s → wpAny (model P w) A (pyIter (.ref it)) Q E s
abbrev TI := St → Hp → (It → Hp → Prop) → Prop
def PIE (X : Cx) (pins : List (Addr × Obj)) (σ : St) (tg : Expr) (R : It → Hp → Prop) (itv : Value) (s2 : Shared) : Prop :=
  ∃ (it : Addr) (fp : List Addr) (tn : Nat → Heap → Prop) (J : It) (H' : Hp), itv = .ref it ∧ Inv X pins σ H' s2 ∧ Turn X.prog X.w X.K tg J fp it tn ∧ tn 0 s2.heap ∧ (∀ b ∈ fp, FpOk X pins H' b) ∧ R J H'
def PI (X : Cx) (tg iter : Expr) (wi : TI) : Prop :=
  ∀ (pins : List (Addr × Obj)) (s : Shared) (σ : St) (H : Hp) (R : It → Hp → Prop), Inv X pins σ H s → wi σ H R →
    wpAny (model X.prog X.w) X.A (eval iter X.env) (fun v s1 => wpAny (model X.prog X.w) X.A (pyIter v) (PIE X pins σ tg R) X.xe s1) X.xe s
theorem go_of {M : Model} {A : Around} {E : Value → Shared → Prop} {s : Shared} {tg : Expr} {it : Addr} {u : Value} {o : Obj} {n : String} {vs : Array Value} {Q : Unit → Shared → Prop} (ho : s.heap.get? it = some o) (hc : o.cls = .type n) (hd : o.data = .fields vs)
    (hn : ["enumerate", "zip", "dict_itemiterator", "dict_reverseitemiterator", "odict_iterator", "itertools.zip_longest", "itertools.pairwise"].contains n = false) (hQ : Q () s) : wpAny M A (letOwnedTupleGo tg (.ref it) u) Q E s := by
  unfold letOwnedTupleGo
  cases tg <;> first
    | exact wpAny_pure hQ
    | (cases u <;> first
        | exact wpAny_pure hQ
        | (refine wpAny_bind (wpAny_load ho ?_)
           rw [hc, hd]
           show wpAny M A (if (["enumerate", "zip", "dict_itemiterator", "dict_reverseitemiterator", "odict_iterator", "itertools.zip_longest", "itertools.pairwise"].contains n && vs[0]? == some (rawInt _)) = true then _ else _) Q E s
           rw [if_neg (by intro h; rw [hn, Bool.false_and] at h; cases h)]
           exact wpAny_pure hQ))
def Itl (K : PySem.W.Frag) (a : Addr) : It :=
  ⟨fun i H => ∃ xs x, SqL K H a xs ∧ xs[i]? = some x, fun i H x H' => H' = H ∧ ∀ xs, SqL K H a xs → xs[i]? = some x, fun i H => ∃ xs, SqL K H a xs ∧ xs.length ≤ i⟩
def Itr (lo : Int) (n : Nat) : It := ⟨fun i _ => i < n, fun i H x H' => H' = H ∧ x = .int (lo + i), fun i _ => n ≤ i⟩
theorem turn_list {P : Program} {w : World} {K : PySem.W.Frag} {tg : Expr} (a it : Addr) : Turn P w K tg (Itl K a) [it] it (fun i h => h.IsListIter it a i) where
  mem := by simp
  obj := fun i h st b hb => by
    have e : b = it := by simpa using hb
    subst e
    obtain ⟨o, e, c, d⟩ := st
    exact ⟨o, e, fun v z => by rw [d] at z; cases z⟩
  keep := fun i h h' st k => st.at fun o e => k it (by simp) o e
  item := by
    intro X hP hw hK hc i pins s σ H E I hf st hg
    subst hP hw hK
    obtain ⟨xs, x, hq, hx⟩ := hg
    obtain ⟨its, rv, p, hz⟩ := I.list hq
    obtain ⟨u, hu, ru⟩ := rv.get hx
    obtain ⟨f0, f1, f2, f3, f4, f5⟩ := hf it (by simp)
    refine wpAny_pyNext_list_item st p.isList (x := u) (by simpa using hu) fun h' st' sb => ?_
    have I1 : Inv X pins σ H { s with heap := h' } := I.turned (t' := s.toks) (fun b o hb e => (sb.2 b hb).trans e) f0 f1 f3 f4 f5
    obtain ⟨o, e, c, d⟩ := id st'
    exact ⟨u, rfl, go_of (s := { s with heap := h' }) e c d (by decide) ⟨x, H, I1, ru, ⟨rfl, fun ys hy => by rw [I.list_inj hy hq]; exact hx⟩, st', fun b hb => (hf b hb).1⟩⟩
  done := by
    intro X hP hw hK hc i pins s σ H E I hf st hg
    subst hP hw hK
    obtain ⟨xs, hq, hx⟩ := hg
    obtain ⟨its, rv, p, hz⟩ := I.list hq
    obtain ⟨f0, f1, f2, f3, f4, f5⟩ := hf it (by simp)
    have hl := rv.length
    exact wpAny_pyNext_list_end (I.ok.hd hc) st p.isList (by simp; omega) fun h' eb => ⟨rfl, I.turned (t' := s.toks) (fun b o hb e => eb b o hb e) f0 f1 f3 f4 f5⟩
  self := fun _ _ _ _ _ st h => wpAny_pyIter_listiter st h
theorem turn_range {P : Program} {w : World} {K : PySem.W.Frag} {tg : Expr} (it : Addr) (lo : Int) (n : Nat) : Turn P w K tg (Itr lo n) [it] it (fun i h => IsRangeIter h it (lo + (i : Nat) * 1) ((n : Int) - (i : Nat)) 1) where
  mem := by simp
  obj := fun i h st b hb => by
    have e : b = it := by simpa using hb
    subst e
    exact ⟨_, st, fun v z => by
      have z' : Data.fields _ = Data.cell v := z
      cases z'⟩
  keep := fun i h h' st k => k it (by simp) _ st
  item := by
    intro X hP hw hK hc i pins s σ H E I hf st hg
    subst hP hw hK
    obtain ⟨f0, f1, f2, f3, f4, f5⟩ := hf it (by simp)
    have W := Walks.range (prog := X.prog) (w := X.w) (I.ok.hd hc) it lo 1 n
    refine W.item i s _ _ hg st fun v h' tk hv st' kk => ?_
    obtain ⟨t, rfl⟩ := hv
    have I1 : Inv X pins σ H { s with heap := h', toks := tk } := I.turned (fun b o hb e => kk b o (by simpa using hb) e) f0 f1 f3 f4 f5
    refine ⟨_, rfl, go_of (s := { s with heap := h', toks := tk }) (n := "range_iterator") st' rfl rfl (by decide) ⟨.int (lo + i), H, I1, ⟨t, ?_⟩, ⟨rfl, rfl⟩, st', fun b hb => (hf b hb).1⟩⟩
    rw [Int.mul_one]
  done := by
    intro X hP hw hK hc i pins s σ H E I hf st hg
    subst hP hw hK
    obtain ⟨f0, f1, f2, f3, f4, f5⟩ := hf it (by simp)
    exact wpAny_pyNext_range_end (I.ok.hd hc) st (by have : n ≤ i := hg; omega) fun h' eb => ⟨rfl, I.turned (t' := s.toks) (fun b o hb e => eb b o hb e) f0 f1 f3 f4 f5⟩
  self := fun _ _ _ _ _ st h => wpAny_pyIter_rangeiter st h
end L2
namespace L2
open PySem PySem.Spec PyProof.Rows
section
variable {X : Cx} {tg : Expr}
def iList (K : PySem.W.Frag) (tl : TE) : TI := fun σ H R => tl σ H fun x H1 => ∃ a, x = .ref a ∧ (∃ xs, SqL K H1 a xs) ∧ R (Itl K a) H1
theorem pi_list {l : Expr} {tl : TE} (hl : PE X l tl) : PI X tg l (iList X.K tl) := by
  intro pins s σ H R I h
  refine thn (hl pins s σ H _ I h) fun v s1 ⟨x, H1, I1, r1, q1⟩ => ?_
  obtain ⟨a, e, ⟨xs, hq⟩, q⟩ := q1
  subst e
  cases r1
  obtain ⟨its, rv, p, hz⟩ := I1.list hq
  refine wpAny_pyIter_list p.isList ?_
  refine ⟨s1.heap.objs.size, [s1.heap.objs.size], _, _, H1, rfl, I1.kept (t' := s1.toks) fun b o e => Heap.get?_push_of_some _ e, turn_list a _, ⟨_, Heap.get?_push_size _ rfl, rfl, rfl⟩, fun b hb => ?_, q⟩
  have e : b = s1.heap.objs.size := by simpa using hb
  subst e
  exact I1.fpOk (Nat.le_refl _) (I1.hok.fresh (Nat.le_refl _))
theorem range_it {pins : List (Addr × Obj)} {σ : St} {H : Hp} {s : Shared} {R : It → Hp → Prop} {E : Value → Shared → Prop} {lo hi : Int} {t u v : Tok} {tk : Nat} (I : Inv X pins σ H s) (h1 : -(2 ^ 62) ≤ lo) (h2 : lo < 2 ^ 62) (h3 : -(2 ^ 62) ≤ hi) (h4 : hi < 2 ^ 62)
    (q : R (Itr lo (hi - lo).toNat) H) : wpAny (model X.prog X.w) X.A (pyIter (.ref s.heap.objs.size)) (PIE X pins σ tg R) E { s with heap := s.heap.push { cls := .type "range", data := .fields #[.int lo t, .int hi u, .int 1 v] }, toks := tk } := by
  refine wpAny_pyIter_range (IsRange.new ..) (small_one h1 h2 h3 h4) ?_
  have I1 : Inv X pins σ H { s with heap := s.heap.push { cls := .type "range", data := .fields #[.int lo t, .int hi u, .int 1 v] }, toks := tk } := I.kept fun b o e => Heap.get?_push_of_some _ e
  refine ⟨(s.heap.push { cls := .type "range", data := .fields #[.int lo t, .int hi u, .int 1 v] }).objs.size, [(s.heap.push { cls := .type "range", data := .fields #[.int lo t, .int hi u, .int 1 v] }).objs.size], _, _, H, rfl,
    I1.kept (t' := tk) fun b o e => Heap.get?_push_of_some _ e, turn_range _ lo (hi - lo).toNat, ?_, fun b hb => ?_, q⟩
  · have e1 : lo + ((0 : Nat) : Int) * 1 = lo := by simp
    have e2 : (((hi - lo).toNat : Nat) : Int) - ((0 : Nat) : Int) = Builtin.Range.rangeSize lo hi 1 := by rw [rangeSize_one]; split <;> omega
    show IsRangeIter _ _ (lo + ((0 : Nat) : Int) * 1) ((((hi - lo).toNat : Nat) : Int) - ((0 : Nat) : Int)) 1
    rw [e1, e2]
    exact Heap.get?_push_size _ rfl
  · have e : b = (s.heap.push { cls := .type "range", data := .fields #[.int lo t, .int hi u, .int 1 v] }).objs.size := by simpa using hb
    subst e
    exact I1.fpOk (Nat.le_refl _) (I1.hok.fresh (Nat.le_refl _))
def iRng1 (ta : TA) : TI := fun σ H R => ta σ H fun vs H1 => ∃ j : Int, vs = [.int j] ∧ -(2 ^ 62) ≤ j ∧ j < 2 ^ 62 ∧ R (Itr 0 j.toNat) H1
theorem pi_range1 {a : Expr} {ta : TA} {p pos : Pos} (hg : Gl X "range") (hm : X.mg "range" = none) (ha : PA X [a] ta) (hs : starEach [a] X.env = [(false, eval a X.env)] := by rfl) : PI X tg (.Call (.Name "range" p) [a] [] pos) (iRng1 ta) := by
  intro pins s σ H R I h
  refine Call_ (ld_blt I hg hm boot_range (PyProof.Rows.callWith_type1 (thn (ha pos pins s σ H _ I h) fun us s1 ⟨vs, H1, I1, r1, q1⟩ => ?_) hs rfl))
  obtain ⟨j, e, q1, q2, q⟩ := q1
  subst e
  cases r1 with
  | cons r rr =>
    cases rr
    obtain ⟨t, rfl⟩ := r
    exact call_range_1 (range_it I1 (by omega) (by omega) q1 q2 (by simpa using q))
def tFor (wi : TI) (g : TG) (tb : TS) : TS := fun D σ H => wi σ H fun J H1 => ∃ W : Nat → Nat → St → Hp → Prop, (∃ m, W 0 m σ H1) ∧ ∀ i m σ H, W i m σ H →
  (J.stop i H ∧ D.nx σ H) ∨ (J.go i H ∧ ∃ N : St → Hp → Prop, (∀ σ' H', N σ' H' → ∃ m', m' < m ∧ W (i + 1) m' σ' H') ∧ ∀ x H', J.yld i H x H' → g x σ H' fun σ2 H2 => tb { D with nx := N, ct := N, bk := D.nx } σ2 H2)
def pinsAt (fp : List Addr) (h : Heap) : List (Addr × Obj) := fp.filterMap fun b => (h.get? b).map fun o => (b, o)
theorem mem_pinsAt {fp : List Addr} {h : Heap} {b : Addr} {o : Obj} (hb : b ∈ fp) (e : h.get? b = some o) : (b, o) ∈ pinsAt fp h := List.mem_filterMap.mpr ⟨b, hb, by rw [e]; rfl⟩
theorem of_pinsAt {fp : List Addr} {h : Heap} {p : Addr × Obj} (hp : p ∈ pinsAt fp h) : p.1 ∈ fp ∧ h.get? p.1 = some p.2 := by
  obtain ⟨b, hb, e⟩ := List.mem_filterMap.mp hp
  cases q : h.get? b with
  | none => rw [q] at e; cases e
  | some o =>
    rw [q] at e
    have e' : (b, o) = p := Option.some.inj e
    subst e'
    exact ⟨hb, q⟩
theorem Inv.pinned {pins : List (Addr × Obj)} {σ : St} {H : Hp} {s : Shared} {fp : List Addr} (I : Inv X pins σ H s) (hf : ∀ b ∈ fp, FpOk X pins H b) (ho : ∀ b ∈ fp, ∃ o, s.heap.get? b = some o ∧ ∀ v, o.data ≠ .cell v) : Inv X (pins ++ pinsAt fp s.heap) σ H s :=
  I.pins_of fun p hp => (List.mem_append.mp hp).elim (fun z => I.pin p (List.mem_append_right _ z)) fun z => by
    obtain ⟨hb, e⟩ := of_pinsAt z
    obtain ⟨f0, f1, f2, _⟩ := hf p.1 hb
    obtain ⟨o, e', d⟩ := ho p.1 hb
    rw [e] at e'; cases e'
    exact ⟨e, f0, f1, f2, d⟩
theorem Inv.unpinned {pins pl : List (Addr × Obj)} {σ : St} {H : Hp} {s : Shared} (I : Inv X (pins ++ pl) σ H s) : Inv X pins σ H s := I.pins_of fun p hp => I.pin p (List.mem_append_right _ (List.mem_append_left _ hp))
theorem ps_for {iter : Expr} {body : List Stmt} {wi : TI} {g : TG} {tb : TS} {pos : Pos} (hp : PassesOwn (model X.prog X.w) X.A X.env X.xe) (hc : X.calm = true) (hi : PI X tg iter wi) (hg : PG X tg g) (hb : PSs X body tb)
    (hs : ∀ x, foldedSetIterable iter X.env x = pure x := by intro _; rfl) : PS X (.For tg iter body [] pos) (tFor wi g tb) := by
  intro pins s σ H D I h
  refine wpAny_For (thn (hi pins s σ H _ I h) fun v s1 h1 => thn h1 fun itv s2 h2 => ?_) hs
  obtain ⟨it, fp, tn, J, H2, e, I2, T, st2, f2, W, ⟨m0, w0⟩, turn⟩ := h2
  subst e
  have stat : ∀ {H' : Hp}, (∀ b ∈ fp, H' b = none) → ∀ b ∈ fp, FpOk X pins H' b := fun hn b hb => ⟨hn b hb, (f2 b hb).2⟩
  refine codeAny_forLoop_any (fun n s' => ∃ i σ' H', Inv X pins σ' H' s' ∧ tn i s'.heap ∧ (∀ b ∈ fp, H' b = none) ∧ W i n σ' H') ?_ m0 ⟨0, σ, H2, I2, st2, fun b hb => (f2 b hb).1, w0⟩
  rintro n s3 ⟨i, σ3, H3, I3, st3, fr3, w3⟩
  rcases turn i n σ3 H3 w3 with ⟨stop, qn⟩ | ⟨go, N, hN, step⟩
  · refine wpAny_passesOwn hp (thn (T.done X rfl rfl rfl hc i pins s3 σ3 H3 X.xe I3 (stat fr3) st3 stop) fun r s4 ⟨hr, I4⟩ => ?_)
    subst hr
    exact wpAny_execs_nil ⟨σ3, H3, I4, qn⟩
  · refine wpAny_passesOwn hp (thn (T.item X rfl rfl rfl hc i pins s3 σ3 H3 X.xe I3 (stat fr3) st3 go) fun r s4 ⟨u, hr, h4⟩ => ?_)
    subst hr
    refine wpAny_passesOwn hp (thn h4 fun _ s5 ⟨x, H5, I5, r5, y5, st5, fr5⟩ => ?_)
    have I5' := I5.pinned (stat fr5) (T.obj _ _ st5)
    refine wpAny_passesOwn hp (thn (hg _ s5 σ3 H5 x u _ I5' r5 (step x H5 y5)) fun _ s6 ⟨σ6, H6, I6, q6⟩ => ?_)
    refine wpAny_passesOwn hp (thn (hb _ s6 σ6 H6 _ I6 q6) fun f s7 q7 => ?_)
    have again : ∀ {σ7 : St} {H7 : Hp}, Inv X (pins ++ pinsAt fp s5.heap) σ7 H7 s7 → N σ7 H7 → ∃ m, m < n ∧ ∃ i σ' H', Inv X pins σ' H' s7 ∧ tn i s7.heap ∧ (∀ b ∈ fp, H' b = none) ∧ W i m σ' H' := fun {σ7 H7} I7 n7 => by
      obtain ⟨m', hm, w7⟩ := hN σ7 H7 n7
      refine ⟨m', hm, i + 1, σ7, H7, I7.unpinned, T.keep _ _ _ st5 fun b hb o e => (I7.pin (b, o) (List.mem_append_right _ (List.mem_append_right _ (mem_pinsAt hb e)))).1, fun b hb => ?_, w7⟩
      obtain ⟨o, e, d⟩ := T.obj _ _ st5 b hb
      exact (I7.pin (b, o) (List.mem_append_right _ (List.mem_append_right _ (mem_pinsAt hb e)))).2.1
    cases f with
    | next => obtain ⟨σ7, H7, I7, n7⟩ := q7; exact again I7 n7
    | cont => obtain ⟨σ7, H7, I7, n7⟩ := q7; exact again I7 n7
    | brk => obtain ⟨σ7, H7, I7, q7⟩ := q7; exact ⟨σ7, H7, I7.unpinned, q7⟩
    | ret v => obtain ⟨x7, σ7, H7, I7, r7, q7⟩ := q7; exact ⟨x7, σ7, H7, I7.unpinned, r7, q7⟩
end
theorem for_list {K : PySem.W.Frag} {a : Addr} {xs : List V} {g : TG} {tb : TS} {D : Ends} {σ : St} {H : Hp} (Pv : Nat → St → Hp → Prop) (h0 : Pv 0 σ H) (hl : ∀ i σ H, i ≤ xs.length → Pv i σ H → SqL K H a xs)
    (hs : ∀ i x σ H, xs[i]? = some x → Pv i σ H → g x σ H fun σ2 H2 => tb { D with nx := Pv (i + 1), ct := Pv (i + 1), bk := D.nx } σ2 H2) (hd : ∀ σ H, Pv xs.length σ H → D.nx σ H) :
    ∃ W : Nat → Nat → St → Hp → Prop, (∃ m, W 0 m σ H) ∧ ∀ i m σ H, W i m σ H →
      ((Itl K a).stop i H ∧ D.nx σ H) ∨ ((Itl K a).go i H ∧ ∃ N : St → Hp → Prop, (∀ σ' H', N σ' H' → ∃ m', m' < m ∧ W (i + 1) m' σ' H') ∧ ∀ x H', (Itl K a).yld i H x H' → g x σ H' fun σ2 H2 => tb { D with nx := N, ct := N, bk := D.nx } σ2 H2) := by
  refine ⟨fun i m σ H => m = xs.length - i ∧ i ≤ xs.length ∧ Pv i σ H, ⟨xs.length, by simp, Nat.zero_le _, h0⟩, ?_⟩
  rintro i m σ H ⟨rfl, hi, p⟩
  have q := hl i σ H hi p
  by_cases hlt : i < xs.length
  · refine .inr ⟨⟨xs, xs[i], q, by simp [hlt]⟩, Pv (i + 1), fun σ' H' p' => ⟨xs.length - (i + 1), by omega, rfl, hlt, p'⟩, fun x H' y => ?_⟩
    obtain ⟨e, y⟩ := y
    subst e
    exact hs i x σ _ (y xs q) p
  · have e : i = xs.length := by omega
    subst e
    exact .inl ⟨⟨xs, q, Nat.le_refl _⟩, hd σ H p⟩
theorem for_range {lo : Int} {n : Nat} {g : TG} {tb : TS} {D : Ends} {σ : St} {H : Hp} (Pv : Nat → St → Hp → Prop) (h0 : Pv 0 σ H)
    (hs : ∀ i σ H, i < n → Pv i σ H → g (.int (lo + i)) σ H fun σ2 H2 => tb { D with nx := Pv (i + 1), ct := Pv (i + 1), bk := D.nx } σ2 H2) (hd : ∀ σ H, Pv n σ H → D.nx σ H) :
    ∃ W : Nat → Nat → St → Hp → Prop, (∃ m, W 0 m σ H) ∧ ∀ i m σ H, W i m σ H →
      ((Itr lo n).stop i H ∧ D.nx σ H) ∨ ((Itr lo n).go i H ∧ ∃ N : St → Hp → Prop, (∀ σ' H', N σ' H' → ∃ m', m' < m ∧ W (i + 1) m' σ' H') ∧ ∀ x H', (Itr lo n).yld i H x H' → g x σ H' fun σ2 H2 => tb { D with nx := N, ct := N, bk := D.nx } σ2 H2) := by
  refine ⟨fun i m σ H => m = n - i ∧ i ≤ n ∧ Pv i σ H, ⟨n, by simp, Nat.zero_le _, h0⟩, ?_⟩
  rintro i m σ H ⟨rfl, hi, p⟩
  by_cases hlt : i < n
  · refine .inr ⟨hlt, Pv (i + 1), fun σ' H' p' => ⟨n - (i + 1), by omega, rfl, hlt, p'⟩, fun x H' y => ?_⟩
    obtain ⟨e, y⟩ := y
    subst e y
    exact hs i σ _ hlt p
  · have e : i = n := by omega
    subst e
    exact .inl ⟨Nat.le_refl _, hd σ H p⟩
end L2
namespace L2
open PySem PySem.Spec PyProof.Rows
abbrev R2 := V → V → Hp → VK → Prop
def OpR (X : Cx) (f : Value → Value → Sem Value) (r : R2) : Prop :=
  ∀ (pins : List (Addr × Obj)) (s : Shared) (σ : St) (H : Hp) (x y : V) (v u : Value) (Q : VK), Inv X pins σ H s → RelV x v → RelV y u → r x y H Q →
    wpAny (model X.prog X.w) X.A (f v u) (EP X pins σ Q) X.xe s
def CallR (X : Cx) (f : Value) (r : List V → Hp → VK → Prop) : Prop :=
  ∀ (pins : List (Addr × Obj)) (s : Shared) (σ : St) (H : Hp) (xs : List V) (us : List Value) (Q : VK), Inv X pins σ H s → Vals xs us → r xs H Q →
    wpAny (model X.prog X.w) X.A (call f us) (EP X pins σ Q) X.xe s
def tOp (r : R2) (ta tb : TE) : TE := fun σ H Q => ta σ H fun x H1 => tb σ H1 fun y H2 => r x y H2 Q
def rI (C : Int → Int → Prop) (g : Int → Int → V) : R2 := fun x y H Q => ∃ i j, x = .int i ∧ y = .int j ∧ C i j ∧ Q (g i j) H
def rI0 (g : Int → Int → V) : R2 := fun x y H Q => ∃ i j, x = .int i ∧ y = .int j ∧ Q (g i j) H
section
variable {X : Cx} {a b c : Expr} {ta tb tc : TE} {pos : Pos}
theorem binT (ha : PE X a ta) (hb : PE X b tb) {pins : List (Addr × Obj)} {s : Shared} {σ : St} {H : Hp} {R : V → V → Hp → Prop} (I : Inv X pins σ H s)
    (h : ta σ H fun x H1 => tb σ H1 fun y H2 => R x y H2) {Q : Value → Shared → Prop} {f : Value → Value → Sem Value}
    (hf : ∀ v u s2 x y H2, Inv X pins σ H2 s2 → RelV x v → RelV y u → R x y H2 → wpAny (model X.prog X.w) X.A (f v u) Q X.xe s2) :
    wpAny (model X.prog X.w) X.A (eval a X.env) (fun v s₁ => wpAny (model X.prog X.w) X.A (eval b X.env) (fun u s₂ => wpAny (model X.prog X.w) X.A (f v u) Q X.xe s₂) X.xe s₁) X.xe s := by
  refine thn (ha pins s σ H _ I h) fun v s1 ⟨x, H1, I1, r1, q1⟩ => ?_
  refine thn (hb pins s1 σ H1 _ I1 q1) fun u s2 ⟨y, H2, I2, r2, q2⟩ => ?_
  exact hf v u s2 x y H2 I2 r1 r2 q2
theorem pe_op {op : Operator} {r : R2} (ho : OpR X (binaryOp op) r) (ha : PE X a ta) (hb : PE X b tb) : PE X (.BinOp a op b pos) (tOp r ta tb) := by
  intro pins s σ H Q I h
  exact wpAny_BinOp (binT ha hb I h fun v u s2 x y H2 I2 rx ry q => ho pins s2 σ H2 x y v u Q I2 rx ry q)
theorem opI {f : Value → Value → Sem Value} {C : Int → Int → Prop} {g : Int → Int → Int}
    (rule : ∀ (i j : Int) (t u : Tok) (s : Shared) (Q : Value → Shared → Prop) (E : Value → Shared → Prop), C i j → Q (.int (g i j) s.toks) { s with toks := s.toks + 1 } → wpAny (model X.prog X.w) X.A (f (.int i t) (.int j u)) Q E s) :
    OpR X f (rI C fun i j => .int (g i j)) := by
  intro pins s σ H x y v u Q I rx ry h
  obtain ⟨i, j, rfl, rfl, hc, q⟩ := h
  obtain ⟨t, rfl⟩ := rx
  obtain ⟨t', rfl⟩ := ry
  exact rule i j t t' s _ _ hc ⟨.int (g i j), H, I.tok _, ⟨_, rfl⟩, q⟩
theorem opI0 {f : Value → Value → Sem Value} {g : Int → Int → Int}
    (rule : ∀ (i j : Int) (t u : Tok) (s : Shared) (Q : Value → Shared → Prop) (E : Value → Shared → Prop), Q (.int (g i j) s.toks) { s with toks := s.toks + 1 } → wpAny (model X.prog X.w) X.A (f (.int i t) (.int j u)) Q E s) :
    OpR X f (rI0 fun i j => .int (g i j)) := by
  intro pins s σ H x y v u Q I rx ry h
  obtain ⟨i, j, rfl, rfl, q⟩ := h
  obtain ⟨t, rfl⟩ := rx
  obtain ⟨t', rfl⟩ := ry
  exact rule i j t t' s _ _ ⟨.int (g i j), H, I.tok _, ⟨_, rfl⟩, q⟩
theorem opB0 {f : Value → Value → Sem Value} {g : Int → Int → Bool}
    (rule : ∀ (i j : Int) (t u : Tok) (s : Shared) (Q : Value → Shared → Prop) (E : Value → Shared → Prop), Q (.bool (g i j)) s → wpAny (model X.prog X.w) X.A (f (.int i t) (.int j u)) Q E s) :
    OpR X f (rI0 fun i j => .bl (g i j)) := by
  intro pins s σ H x y v u Q I rx ry h
  obtain ⟨i, j, rfl, rfl, q⟩ := h
  obtain ⟨t, rfl⟩ := rx
  obtain ⟨t', rfl⟩ := ry
  exact rule i j t t' s _ _ ⟨.bl (g i j), H, I, rfl, q⟩
def CDiv (i j : Int) : Prop := 0 < j ∧ j < 1073741824
def CPow (i j : Int) : Prop := 0 ≤ j ∧ j ≤ 1000000 ∧ i.natAbs < 2 ^ 64
def CMul (i j : Int) : Prop := (-(2 ^ 64) < i ∧ i < 2 ^ 64) ∨ (-(2 ^ 64) < j ∧ j < 2 ^ 64)
theorem CMul.ok {i j : Int} (h : CMul i j) : IntMulOk i j := by
  rcases h with ⟨h1, h2⟩ | ⟨h1, h2⟩
  · exact .of_left (intBits_le_64 h1 h2)
  · exact .of_right (intBits_le_64 h1 h2)
theorem op_add : OpR X (binaryOp .Add) (rI0 fun i j => .int (i + j)) := opI0 fun _ _ _ _ _ _ _ q => add_int q
theorem op_sub : OpR X (binaryOp .Sub) (rI0 fun i j => .int (i - j)) := opI0 fun _ _ _ _ _ _ _ q => sub_int q
theorem op_mul : OpR X (binaryOp .Mult) (rI CMul fun i j => .int (i * j)) := opI fun _ _ _ _ _ _ _ hc q => mul_int q hc.ok
theorem op_fdiv : OpR X (binaryOp .FloorDiv) (rI CDiv fun i j => .int (i / j)) := opI fun i j _ _ _ _ _ hc q => by
  have h1 : (0 : Int) < j := hc.1
  have h2 : j < 1073741824 := hc.2
  exact floordiv_int (by omega) (by rw [Int.fdiv_eq_ediv_of_nonneg i (by omega)]; exact q) (.inl (PyProof.noPylong_small (by omega)))
theorem op_mod : OpR X (binaryOp .Mod) (rI (fun _ j => 0 < j) fun i j => .int (i % j)) := opI fun i j _ _ _ _ _ hc q => by
  have h1 : (0 : Int) < j := hc
  exact mod_int' (by omega) (by rw [Int.fmod_eq_emod_of_nonneg i (by omega)]; exact q)
theorem op_pow : OpR X (binaryOp .Pow) (rI CPow fun i j => .int (i ^ j.toNat)) := opI fun _ _ _ _ _ _ _ hc q => pow_int_small hc.1 hc.2.1 hc.2.2 q
end
def scal : V → V → Bool
  | .non, .non => true | .non, .int _ => true | .int _, .non => true | .non, .bl _ => true | .bl _, .non => true | .non, .str _ => true | .str _, .non => true
  | .int _, .int _ => true | .bl _, .bl _ => true | .str _, .str _ => true | .byt _, .byt _ => true
  | .int _, .str _ => true | .str _, .int _ => true | .bl _, .str _ => true | .str _, .bl _ => true
  | _, _ => false
def rEq : R2 := fun x y H Q => scal x y = true ∧ Q (.bl (decide (x = y))) H
def rNe : R2 := fun x y H Q => scal x y = true ∧ Q (.bl (!decide (x = y))) H
theorem dec_int {i j : Int} : decide (V.int i = V.int j) = (i == j) := by
  rw [Bool.eq_iff_iff]
  simp
theorem dec_bl {i j : Bool} : decide (V.bl i = V.bl j) = (i == j) := by
  rw [Bool.eq_iff_iff]
  simp
theorem dec_str {i j : Str} : decide (V.str i = V.str j) = (i == j) := by
  rw [Bool.eq_iff_iff]
  simp
theorem dec_byt {i j : Array UInt8} : decide (V.byt i = V.byt j) = (i.toList == j.toList) := by
  rw [Bool.eq_iff_iff]
  cases i
  cases j
  simp
section
variable {X : Cx} {a b c : Expr} {ta tb tc : TE} {pos : Pos}
theorem fin_bl {pins : List (Addr × Obj)} {σ : St} {H : Hp} {s : Shared} {Q : VK} {k k' : Bool} (I : Inv X pins σ H s) (q : Q (.bl k) H) (e : k = k') : EP X pins σ Q (.bool k') s := by
  subst e
  exact ⟨.bl k, H, I, rfl, q⟩
theorem op_eq : OpR X (compareOp .Eq) rEq := by
  intro pins s σ H x y v u Q I rx ry h
  obtain ⟨hs, q⟩ := h
  cases x with
  | non =>
    cases rx
    cases y with
    | non => cases ry; exact PySem.EqNone.eq_none_none (fin_bl I q (by simp))
    | bl j => cases ry; exact PySem.EqNone.eq_none_bool (fin_bl I q (by simp))
    | int j => obtain ⟨t', rfl⟩ := ry; exact PySem.EqNone.eq_none_int (fin_bl I q (by simp))
    | str j => obtain ⟨t', rfl⟩ := ry; exact PySem.EqNone.eq_none_str (fin_bl I q (by simp))
    | _ => exact absurd (show false = true from hs) Bool.false_ne_true
  | bl i =>
    cases rx
    cases y with
    | non => cases ry; exact PySem.EqNone.eq_bool_none (fin_bl I q (by simp))
    | bl j => cases ry; exact eq_bool (fin_bl I q dec_bl)
    | str j => obtain ⟨t', rfl⟩ := ry; exact PySem.EqMixed.eq_bool_str (fin_bl I q (by simp))
    | _ => exact absurd (show false = true from hs) Bool.false_ne_true
  | int i =>
    obtain ⟨t, rfl⟩ := rx
    cases y with
    | non => cases ry; exact PySem.EqNone.eq_int_none (fin_bl I q (by simp))
    | int j => obtain ⟨t', rfl⟩ := ry; exact eq_int (fin_bl I q dec_int)
    | str j => obtain ⟨t', rfl⟩ := ry; exact PySem.EqMixed.eq_int_str (fin_bl I q (by simp))
    | _ => exact absurd (show false = true from hs) Bool.false_ne_true
  | str i =>
    obtain ⟨t, rfl⟩ := rx
    cases y with
    | non => cases ry; exact PySem.EqNone.eq_str_none (fin_bl I q (by simp))
    | bl j => cases ry; exact PySem.EqMixed.eq_str_bool (fin_bl I q (by simp))
    | int j => obtain ⟨t', rfl⟩ := ry; exact PySem.EqMixed.eq_str_int (fin_bl I q (by simp))
    | str j => obtain ⟨t', rfl⟩ := ry; exact eq_str (fin_bl I q dec_str)
    | _ => exact absurd (show false = true from hs) Bool.false_ne_true
  | byt i =>
    obtain ⟨t, rfl⟩ := rx
    cases y with
    | byt j => obtain ⟨t', rfl⟩ := ry; exact PySem.W.eq_bytes (fin_bl I q dec_byt)
    | _ => exact absurd (show false = true from hs) Bool.false_ne_true
  | _ => cases y <;> exact absurd (show false = true from hs) Bool.false_ne_true
theorem op_ne : OpR X (compareOp .NotEq) rNe := by
  intro pins s σ H x y v u Q I rx ry h
  obtain ⟨hs, q⟩ := h
  cases x with
  | non =>
    cases rx
    cases y with
    | non => cases ry; exact PySem.EqNone.ne_none_none (fin_bl I q (by simp))
    | bl j => cases ry; exact PySem.EqNone.ne_none_bool (fin_bl I q (by simp))
    | int j => obtain ⟨t', rfl⟩ := ry; exact PySem.EqNone.ne_none_int (fin_bl I q (by simp))
    | str j => obtain ⟨t', rfl⟩ := ry; exact PySem.EqNone.ne_none_str (fin_bl I q (by simp))
    | _ => exact absurd (show false = true from hs) Bool.false_ne_true
  | bl i =>
    cases rx
    cases y with
    | non => cases ry; exact PySem.EqNone.ne_bool_none (fin_bl I q (by simp))
    | bl j => cases ry; exact ne_bool (fin_bl I q (congrArg not dec_bl))
    | str j => obtain ⟨t', rfl⟩ := ry; exact PySem.EqMixed.ne_bool_str (fin_bl I q (by simp))
    | _ => exact absurd (show false = true from hs) Bool.false_ne_true
  | int i =>
    obtain ⟨t, rfl⟩ := rx
    cases y with
    | non => cases ry; exact PySem.EqNone.ne_int_none (fin_bl I q (by simp))
    | int j => obtain ⟨t', rfl⟩ := ry; exact ne_int (fin_bl I q (congrArg not dec_int))
    | str j => obtain ⟨t', rfl⟩ := ry; exact PySem.EqMixed.ne_int_str (fin_bl I q (by simp))
    | _ => exact absurd (show false = true from hs) Bool.false_ne_true
  | str i =>
    obtain ⟨t, rfl⟩ := rx
    cases y with
    | non => cases ry; exact PySem.EqNone.ne_str_none (fin_bl I q (by simp))
    | bl j => cases ry; exact PySem.EqMixed.ne_str_bool (fin_bl I q (by simp))
    | int j => obtain ⟨t', rfl⟩ := ry; exact PySem.EqMixed.ne_str_int (fin_bl I q (by simp))
    | str j => obtain ⟨t', rfl⟩ := ry; exact ne_str (fin_bl I q (congrArg not dec_str))
    | _ => exact absurd (show false = true from hs) Bool.false_ne_true
  | byt i =>
    obtain ⟨t, rfl⟩ := rx
    cases y with
    | byt j => obtain ⟨t', rfl⟩ := ry; exact PySem.W.ne_bytes (fin_bl I q (congrArg not dec_byt))
    | _ => exact absurd (show false = true from hs) Bool.false_ne_true
  | _ => cases y <;> exact absurd (show false = true from hs) Bool.false_ne_true
theorem op_lt : OpR X (compareOp .Lt) (rI0 fun i j => .bl (decide (i < j))) := opB0 fun _ _ _ _ _ _ _ q => lt_int q
theorem op_gt : OpR X (compareOp .Gt) (rI0 fun i j => .bl (decide (j < i))) := opB0 fun _ _ _ _ _ _ _ q => gt_int q
theorem nomark (b : Expr) {op : CmpOp} (h : op ≠ .In := by decide) (h2 : op ≠ .NotIn := by decide) : behindInMarks op b = false := by
  have e1 : (op == CmpOp.In) = false := by cases op <;> first | rfl | exact absurd rfl h
  have e2 : (op == CmpOp.NotIn) = false := by cases op <;> first | rfl | exact absurd rfl h2
  cases b <;> simp [behindInMarks, e1, e2]
def tTest (t : TE) : TT := fun σ H Q => t σ H fun x H' => ∃ k, x = .bl k ∧ Q k H'
theorem pt_cmpR {op : CmpOp} {r : R2} (ho : OpR X (compareOp op) r) (ha : PE X a ta) (hb : PE X b tb) (hm : behindInMarks op b = false) : PT X (.Compare a [op] [b] pos) (tTest (tOp r ta tb)) := by
  intro pins s σ H Q I h
  refine wpAny_isTrue_Compare1 (thn (ha pins s σ H _ I h) fun v s1 ⟨x, H1, I1, r1, q1⟩ => thn (hb pins s1 σ H1 _ I1 q1) fun u s2 ⟨y, H2, I2, r2, q2⟩ =>
    thn (ho pins s2 σ H2 x y v u _ I2 r1 r2 q2) fun c s3 ⟨z, H3, I3, r3, k, e, q3⟩ => ?_) hm
  subst e
  cases r3
  exact wpAny_truthy_bool ⟨H3, I3, q3⟩
theorem line63 : (sizeLine : Nat) < 2 ^ 63 := by rw [sizeLine_eq]; decide
theorem op_add_str : OpR X (binaryOp .Add) (fun x y H Q => ∃ i j, x = .str i ∧ y = .str j ∧ i.length + j.length ≤ sizeLine ∧ Q (.str (i ++ j)) H) := by
  intro pins s σ H x y v u Q I rx ry h
  obtain ⟨i, j, rfl, rfl, hz, q⟩ := h
  obtain ⟨t, rfl⟩ := rx
  obtain ⟨t', rfl⟩ := ry
  exact add_str (fun t' tk => ⟨.str (i ++ j), H, I.tok _, ⟨_, rfl⟩, q⟩) hz
theorem vals1 {x : V} {us : List Value} (r : Vals [x] us) : ∃ u, us = [u] ∧ RelV x u := by
  cases r with
  | cons r1 r2 => cases r2; exact ⟨_, rfl, r1⟩
theorem vals2 {x y : V} {us : List Value} (r : Vals [x, y] us) : ∃ u w', us = [u, w'] ∧ RelV x u ∧ RelV y w' := by
  cases r with
  | cons r1 r2 =>
    cases r2 with
    | cons r3 r4 => cases r4; exact ⟨_, _, rfl, r1, r3⟩
theorem call_max2 (hc : X.calm = true) : CallR X (.builtin "max") (fun xs H Q => ∃ i j, xs = [.int i, .int j] ∧ Q (.int (if j > i then j else i)) H) := by
  intro pins s σ H xs us Q I r h
  obtain ⟨i, j, rfl, q⟩ := h
  obtain ⟨u, w', rfl, ⟨t, rfl⟩, ⟨t', rfl⟩⟩ := vals2 r
  refine max_two_ints (I.ok.hd hc) fun h' tk k => ⟨_, H, I.kept k, ?_, q⟩
  by_cases hj : j > i
  · rw [if_pos hj, if_pos hj]; exact ⟨_, rfl⟩
  · rw [if_neg hj, if_neg hj]; exact ⟨_, rfl⟩
theorem call_min2 (hc : X.calm = true) : CallR X (.builtin "min") (fun xs H Q => ∃ i j, xs = [.int i, .int j] ∧ Q (.int (if j < i then j else i)) H) := by
  intro pins s σ H xs us Q I r h
  obtain ⟨i, j, rfl, q⟩ := h
  obtain ⟨u, w', rfl, ⟨t, rfl⟩, ⟨t', rfl⟩⟩ := vals2 r
  refine min_two_ints (I.ok.hd hc) fun h' tk k => ⟨_, H, I.kept k, ?_, q⟩
  by_cases hj : j < i
  · rw [if_pos hj, if_pos hj]; exact ⟨_, rfl⟩
  · rw [if_neg hj, if_neg hj]; exact ⟨_, rfl⟩
end
end L2
namespace L2
open PySem PySem.Spec PyProof.Rows
structure ObjM (h : Heap) (x dx C : Addr) (mA : Str → Option Value) : Prop where
  obj : h.get? x = some (PySem.W.instObj C dx)
  ns : h.Ns1 dx mA
  ne : dx ≠ x
theorem lookIn_ns {h : Heap} {dx : Addr} {mA : Str → Option Value} (n : h.Ns1 dx mA) : ∃ od, h.get? dx = some od ∧ ∀ name, PySem.W.lookIn name od = some (mA name) := by
  obtain ⟨o, es, ep, ho, hd, hk, _, hm⟩ := n
  refine ⟨o, ho, fun name => ?_⟩
  have e := hm name
  unfold nsFind findBy at e
  rw [← Array.find?_toList] at e
  unfold PySem.W.lookIn
  rw [hd]
  dsimp only
  split
  · rename_i y q
    rw [q] at e
    exact congrArg some e
  · rename_i q
    rw [q] at e
    have a : es.toList.any (·.refKey) = false := by
      rw [List.any_eq_false]
      intro y hy
      obtain ⟨z, t, hkey⟩ := hk y (Array.mem_toList_iff.mp hy)
      simp [DictEntry.refKey, hkey]
    have a' : ¬ es.toList.any (·.refKey) = true := by rw [a]; exact Bool.false_ne_true
    rw [if_neg a']
    exact congrArg some e
theorem ObjM.look {h : Heap} {x dx C : Addr} {mA : Str → Option Value} (I : ObjM h x dx C mA) : ∃ od, PySem.W.InstAt h x (PySem.W.instObj C dx) C (some od) ∧ ∀ name, PySem.W.lookIn name od = some (mA name) :=
  let ⟨od, ho, hl⟩ := lookIn_ns I.ns
  ⟨od, ⟨I.obj, rfl, rfl, ho⟩, hl⟩
section
variable {prog : Program} {w : World} {A : Around} {E : Value → Shared → Prop} {s : Shared} {K : PySem.W.Frag} {x dx C f : Addr} {mA : Str → Option Value} {name : Str} {v : Value}
end
theorem RelO.some_of {v : V} {o : Option Value} (r : RelO (some v) o) : ∃ u, o = some u ∧ RelV v u := by
  cases o with
  | none => exact (show False from r).elim
  | some u => exact ⟨u, rfl, r⟩
section
variable {P : Program} {w : World} {H H' : Hp} {h h' : Heap} {a C dx : Addr} {fs fs' : List (Str × V)}
theorem ins_get (hok : HOk P w H h) (e : H a = some (.ins C dx fs)) : ∃ mA, ObjM h a dx C mA ∧ (∀ f, RelO (fs.lookup f) (mA f)) ∧ PySem.Within mA (fs.map (·.1)) ∧ fs.length ≤ 1000 ∧ H dx = some (.own a) := by
  obtain ⟨d, z, ne, ob, mA, n, r, q⟩ := (show ObjOk P w H h a (.ins C dx fs) from hok a _ e)
  exact ⟨mA, ⟨ob, n, ne⟩, r, q, z, d⟩
end
structure Cls (K : PySem.W.Frag) (C : Addr) : Prop where
  pg : PySem.W.plainGet K C Str.empty = true
  hd : PySem.W.hasDictIn K C = true
  po : PySem.W.plainOver K C = true
  sa : PySem.W.findIn K (.ref C) "__setattr__" = some (some (.builtin "object.__setattr__"))
theorem Cls.get {K : PySem.W.Frag} {C : Addr} (c : Cls K C) (f : Str) : PySem.W.plainGet K C f = true := c.pg
section
variable {X : Cx} {pins : List (Addr × Obj)} {σ : St} {H : Hp} {s : Shared} {a C dx : Addr} {fs : List (Str × V)} {f : Str} {v : V} {A : Around} {E : Value → Shared → Prop}
end
section
variable {X : Cx} {o e value : Expr} {f : Str} {pos pos' tpos : Pos} {ta tv : TE}
end
section
variable {X : Cx} {pins : List (Addr × Obj)} {σ : St} {H : Hp} {s : Shared} {A : Around} {E : Value → Shared → Prop} {Q : Value → Shared → Prop} {c : Value} {b : Bool}
inductive TyOf (K : PySem.W.Frag) (H : Hp) : V → Value → Prop where
  | non : TyOf K H .non (.type "NoneType")
  | bl (x : Bool) : TyOf K H (.bl x) (.type "bool")
  | int (i : Int) : TyOf K H (.int i) (.type "int")
  | str (x : Str) : TyOf K H (.str x) (.type "str")
  | flt (x : UInt64) : TyOf K H (.flt x) (.type "float")
  | lst {a : Addr} {xs : List V} (e : H a = some (.lst xs)) : TyOf K H (.ref a) (.type "list")
  | frz {a : Addr} {o : Obj} {xs : List V} (e : H a = some (.frz o (.lst xs))) : TyOf K H (.ref a) (.type "list")
  | tup {a : Addr} {xs : List V} (e : H a = some (.tup xs)) : TyOf K H (.ref a) (.type "tuple")
  | dK {a : Addr} {kvs : List (Key × V)} (e : H a = some (.dK kvs)) : TyOf K H (.ref a) (.type "dict")
  | dT {a : Addr} {kvs : List (List Key × V)} (e : H a = some (.dT kvs)) : TyOf K H (.ref a) (.type "dict")
  | ins {a C dx : Addr} {fs : List (Str × V)} (e : H a = some (.ins C dx fs)) (cl : Cls K C) (ha : PySem.W.findIn K (.ref C) "__class__" = some (some (.builtin "object.__class__")))
      (hn : PySem.W.specialIn K (.builtin "object.__class__") "__get__" = some (some (.builtin "getset_descriptor.__get__"))) (htk : PySem.W.takesIn K (.builtin "object.__class__") = some true)
      (hm : PySem.W.mroIn K C (.type "object") = some true) : TyOf K H (.ref a) (.ref C)
theorem isinst_ok {x : V} {u t : Value} (I : Inv X pins σ H s) (rx : RelV x u) (ty : TyOf X.K H x t) (e : PySem.W.kitOne X.K t c = some b) (h : ∀ tk, Q (.bool b) { s with toks := tk }) :
    wpAny (model X.prog X.w) A (call (.builtin "isinstance") [u, c]) Q E s := by
  cases ty with
  | non => cases (show u = Value.none from rx); exact PySem.W.kia_one PySem.W.kitx_none I.kIn True.intro e (fun z => nomatch z) h
  | bl y => cases (show u = Value.bool y from rx); exact PySem.W.kia_one PySem.W.kitx_bool I.kIn True.intro e (fun z => nomatch z) h
  | int i => obtain ⟨t, q⟩ := (show ∃ t, u = Value.int i t from rx); cases q; exact PySem.W.kia_one PySem.W.kitx_int I.kIn True.intro e (fun z => nomatch z) h
  | str y => obtain ⟨t, q⟩ := (show ∃ t, u = Value.str y t from rx); cases q; exact PySem.W.kia_one PySem.W.kitx_str I.kIn True.intro e (fun z => nomatch z) h
  | flt y => obtain ⟨t, q⟩ := (show ∃ t, u = Value.float y t from rx); cases q; exact PySem.W.kia_one PySem.W.kitx_float I.kIn True.intro e (fun z => nomatch z) h
  | @lst a xs ea =>
    cases (show u = Value.ref a from rx)
    obtain ⟨_, _, n, _, h1⟩ := (show ObjOk X.prog X.w H s.heap a (.lst xs) from I.hok a _ ea)
    exact PySem.W.kia_one PySem.W.kitx_list I.kIn ⟨_, h1, rfl⟩ e (fun z => nomatch z) h
  | @frz a ob xs ea =>
    cases (show u = Value.ref a from rx)
    obtain ⟨_, _, _, n, _, h1⟩ := (show ObjOk X.prog X.w H s.heap a (.frz ob (.lst xs)) from I.hok a _ ea)
    exact PySem.W.kia_one PySem.W.kitx_list I.kIn ⟨_, h1, rfl⟩ e (fun z => nomatch z) h
  | @tup a xs ea =>
    cases (show u = Value.ref a from rx)
    obtain ⟨_, _, _, p⟩ := (show ObjOk X.prog X.w H s.heap a (.tup xs) from I.hok a _ ea)
    obtain ⟨o, h1, h2, _⟩ := p
    exact PySem.W.kia_one PySem.W.kitx_tuple I.kIn ⟨o, h1, h2⟩ e (fun z => nomatch z) h
  | @dK a kvs ea =>
    cases (show u = Value.ref a from rx)
    obtain ⟨_, _, vs, _, p⟩ := (show ObjOk X.prog X.w H s.heap a (.dK kvs) from I.hok a _ ea)
    obtain ⟨o, es, ep, h1, h2, _⟩ := p
    exact PySem.W.kia_one PySem.W.kitx_dict I.kIn ⟨o, h1, h2.1⟩ e (fun z => nomatch z) h
  | @dT a kvs ea =>
    cases (show u = Value.ref a from rx)
    obtain ⟨_, _, xs, _, o, es, ep, h1, h2, _⟩ := (show ObjOk X.prog X.w H s.heap a (.dT kvs) from I.hok a _ ea)
    exact PySem.W.kia_one PySem.W.kitx_dict I.kIn ⟨o, h1, h2.1⟩ e (fun z => nomatch z) h
  | @ins a C dx fs ea cl ha hn htk hm =>
    cases (show u = Value.ref a from rx)
    obtain ⟨mA, O, _⟩ := ins_get I.hok ea
    obtain ⟨od, J, _⟩ := O.look
    exact PySem.W.kia_one (PySem.W.kitx_own (cl.get _) cl.hd ha hn htk hm) I.kIn J e (fun z => nomatch z) h
end
end L2
namespace L2
open PySem PySem.Spec PyProof.Rows
structure Room (k : Nat) (A : Around) : Prop where
  hd : A.handled = none
  dp : A.depth + 3 * k + 5 < recursionLimit
  un : A.units + 16 * k + 200 < cLine
theorem Room.mono {j k : Nat} {A : Around} (r : Room k A) (h : j ≤ k) : Room j A := ⟨r.hd, by have := r.dp; omega, by have := r.un; omega⟩
theorem Room.deeper {k : Nat} {A : Around} (r : Room (k + 1) A) (env : Env) : Room k (A.deeper env) :=
  ⟨r.hd, by have := r.dp; show A.depth + 1 + 3 * k + 5 < _; omega, by have := r.un; show A.units + 3 + 16 * k + 200 < _; omega⟩
theorem Room.depth {k : Nat} {A : Around} (r : Room k A) : A.depth < recursionLimit := by have := r.dp; omega
theorem Room.units {k : Nat} {A : Around} (r : Room k A) : A.units + 64 < cLine := by have := r.un; omega
def tNil : TA := fun _ H Q => Q [] H
def tCons (ta : TE) (tr : TA) : TA := fun σ H Q => ta σ H fun x H1 => tr σ H1 fun xs H2 => Q (x :: xs) H2
section
variable {X : Cx} {e : Expr} {es : List Expr} {te : TE} {t : TA} {pos : Pos}
theorem pa_nil : PA X [] tNil := fun _ _ _ _ H Q I h => Calls.spliced_nil ⟨[], H, I, .nil, h⟩
theorem pa_cons (ha : PE X e te) (hr : PA X es t) (hs : starEach (e :: es) X.env = (false, eval e X.env) :: starEach es X.env := by rfl) : PA X (e :: es) (tCons te t) := by
  intro pos pins s σ H Q I h
  rw [hs]
  show wpAny _ _ (spliced ((false, eval e X.env) :: backTo pos (starEach es X.env))) _ _ s
  refine Calls.spliced_cons (thn (ha pins s σ H _ I h) fun u s1 ⟨x, H1, I1, r1, q1⟩ => ?_)
  exact thn (hr pos pins s1 σ H1 _ I1 q1) fun us s2 ⟨xs, H2, I2, r2, q2⟩ => ⟨x :: xs, H2, I2, .cons r1 r2, q2⟩
def tTup (t : TA) : TE := fun σ H Q => t σ H fun xs H1 => xs.length ≤ sizeLine ∧ ∀ p, H1 p = none → Q (.ref p) (upd H1 p (.tup xs))
def tLst (t : TA) : TE := fun σ H Q => t σ H fun xs H1 => xs.length ≤ sizeLine ∧ ∀ p, H1 p = none → Q (.ref p) (upd H1 p (.lst xs))
theorem pe_tup {x1} (h : PA X es t) : PE X (.Tuple es x1 pos) (tTup t) := by
  intro pins s σ H Q I hq
  refine wpAny_Tuple_spliced (thn (h pos pins s σ H _ I hq) fun us s1 ⟨xs, H1, I1, r, z, q⟩ => ⟨by rw [← r.length]; exact z, ?_⟩)
  have hf : H1 s1.heap.objs.size = none := I1.hok.fresh (Nat.le_refl _)
  refine ⟨.ref s1.heap.objs.size, upd H1 s1.heap.objs.size (.tup xs), I1.laid (t' := s1.toks) (fun b u e => Heap.get?_push_of_some _ e) (Nat.le_refl _) ?_, rfl, q _ hf⟩
  exact ⟨z, us, r, ⟨_, Heap.get?_push_size _ rfl, rfl, _, rfl⟩⟩
theorem pe_lst (h : PA X es t) : PE X (.List es pos) (tLst t) := by
  intro pins s σ H Q I hq
  refine wpAny_List_spliced (thn (h pos pins s σ H _ I hq) fun us s1 ⟨xs, H1, I1, r, z, q⟩ => ⟨by rw [← r.length]; exact z, ?_⟩)
  have hf : H1 s1.heap.objs.size = none := I1.hok.fresh (Nat.le_refl _)
  refine ⟨.ref s1.heap.objs.size, upd H1 s1.heap.objs.size (.lst xs), I1.laid (t' := s1.toks) (fun b u e => Heap.get?_push_of_some _ e) (Nat.le_refl _) ?_, rfl, q _ hf⟩
  exact ⟨z, us, 0, r, Heap.get?_push_size _ rfl⟩
end
abbrev Sp := List V → Hp → VK → XK → Prop
abbrev CXT := List Env → Hp → Shared → XK → Value → Shared → Prop
structure Env0 (P : Program) (w : World) (K : PySem.W.Frag) (mg : Str → Option Value) (base : Heap) (A : Around) (outer : List Env) (s : Shared) (H : Hp) : Prop where
  frames : A.frames = some outer
  mod : Mod K mg base
  bs : ∀ b o, base.get? b = some o → s.heap.get? b = some o ∧ H b = none
  bsz : base.objs.size ≤ s.heap.objs.size
  funs : s.heap.FunFrames base outer
  frf : ∀ b ∈ frs outer, H b = none
  hok : HOk P w H s.heap
  bare : AllBare s.gens
def CE (outer : List Env) (P : Program) (w : World) (H : Hp) (s : Shared) (Q : VK) (u : Value) (s' : Shared) : Prop :=
  ∃ v H', s'.os = s.os ∧ AllBare s'.gens ∧ Un (frs outer) [] H H' s.heap s'.heap ∧ HOk P w H' s'.heap ∧ RelV v u ∧ Q v H'
def CR (CX : CXT) (outer : List Env) (P : Program) (w : World) (H : Hp) (s : Shared) (Q : VK) (E : XK) (r : Result) (s' : Shared) : Prop :=
  match r with
  | .ok (.ret u) => CE outer P w H s Q u s'
  | .ok _ => False
  | .error e => CX outer H s E e s'
structure FnOk (P : Program) (w : World) (K : PySem.W.Frag) (mg : Str → Option Value) (base : Heap) (CX : CXT) (k : Nat) (f : Addr) (fd : FuncData) (ps : List Str) (sp : Sp) : Prop where
  len : ∀ vs H Q E, sp vs H Q E → vs.length = ps.length
  run : ∀ (A : Around) (outer : List Env) (s : Shared) (H : Hp) (args : Args) (us : List Value) (vs : List V) (Q : VK) (E : XK), Room k A → Env0 P w K mg base A outer s H → BindsTo s fd args (ps.zip us) → Vals vs us → sp vs H Q E →
    codeAny (model P w) A (.call (.ref f) args) (CR CX outer P w H s Q E) s
section
variable {X : Cx} {pins : List (Addr × Obj)} {σ : St} {H : Hp} {s s' : Shared}
theorem Inv.env0 (I : Inv X pins σ H s) : Env0 X.prog X.w X.K X.mg X.base X.A X.stack s H :=
  ⟨I.ok.frames, I.ok.mod, I.bs, Nat.le_trans I.ok.bsz I.sz, I.stack, I.stkFree, I.hok, I.bare⟩
theorem Inv.after {Q : VK} {u : Value} (I : Inv X pins σ H s) (h : CE X.stack X.prog X.w H s Q u s') : EP X pins σ Q u s' := by
  obtain ⟨v, H', os, bare, un, hok, r, q⟩ := h
  obtain ⟨hh, g, d, t, os'⟩ := s'
  obtain rfl : os' = s.os := os
  exact ⟨v, H', I.call (h' := hh) (g' := g) (d' := d) (t' := t) (ch := []) un hok bare (fun b z => absurd z (by simp)), r, q⟩
end
def tCall (sp : Sp) (dvs : List V) (E : XK) (t : TA) : TE := fun σ H Q => t σ H fun vs H1 => sp (vs ++ dvs) H1 Q E
def Binds (K : PySem.W.Frag) (fd : FuncData) (ps : List Str) (ds : List Value) : Prop :=
  ∀ (s : Shared) (us : List Value), K.In s.heap → (us ++ ds).length = ps.length → BindsTo s fd ⟨us, []⟩ (ps.zip (us ++ ds))
theorem Binds.all {K : PySem.W.Frag} {fd : FuncData} {ps : List Str} (h : ∀ us : List Value, us.length = ps.length → bindArgs fd ⟨us, []⟩ = pure (ps.zip us)) : Binds K fd ps [] := fun s us _ hl => by
  rw [List.append_nil] at hl ⊢
  exact .of_eq (h us hl)
def Passes (CX : CXT) (X : Cx) (E : XK) : Prop := ∀ (pins : List (Addr × Obj)) (σ : St) (H : Hp) (s : Shared) (e : Value) (s' : Shared), Inv X pins σ H s → CX X.stack H s E e s' → X.xe e s'
section
variable {X : Cx} {CX : CXT} {k : Nat} {f C : Addr} {fd : FuncData} {ps : List Str} {sp : Sp} {dvs : List V} {ds : List Value} {E : XK} {x m : Str} {p pos apos : Pos} {e o : Expr} {es : List Expr} {ta : TE} {t : TA}
theorem run_fn {pins : List (Addr × Obj)} {σ : St} {H : Hp} {s : Shared} {Q : VK} {us : List Value} {vs : List V} (F : FnOk X.prog X.w X.K X.mg X.base CX k f fd ps sp) (hr : Room k X.A) (hb : Binds X.K fd ps ds) (hd : Vals dvs ds) (hx : Passes CX X E)
    (I : Inv X pins σ H s) (r : Vals vs us) (h : sp (vs ++ dvs) H Q E) : wpAny (model X.prog X.w) X.A (call (.ref f) us) (EP X pins σ Q) X.xe s := by
  have r2 : Vals (vs ++ dvs) (us ++ ds) := r.append hd
  have hl : (us ++ ds).length = ps.length := by rw [← r2.length]; exact F.len _ _ _ _ h
  refine wpAny_call (codeAny_mono (F.run X.A X.stack s H ⟨us, []⟩ (us ++ ds) (vs ++ dvs) Q E hr I.env0 (hb s us I.kIn hl) r2 h) fun r s' hq => ?_)
  cases r with
  | error e => exact hx pins σ H s e s' I hq
  | ok fl =>
    cases fl with
    | ret u => exact I.after hq
    | next => exact False.elim hq
    | brk => exact False.elim hq
    | cont => exact False.elim hq
theorem pe_call (F : FnOk X.prog X.w X.K X.mg X.base CX k f fd ps sp) (hr : Room k X.A) (hg : Gl X x) (hm : X.mg x = some (.ref f)) (hk : PySem.W.keepIn X.K (.ref f) = true) (hb : Binds X.K fd ps ds) (hd : Vals dvs ds) (hx : Passes CX X E)
    (ha : PA X (e :: es) t) (hdb : (x == ("__debug__" : Str)) = false := by decide) (he : starEach (e :: es) X.env = (false, eval e X.env) :: starEach es X.env := by rfl) (hpl : (backTo pos (starEach es X.env)).any (·.1) = false := by rfl) :
    PE X (.Call (.Name x p) (e :: es) [] pos) (tCall sp dvs E t) := by
  intro pins s σ H Q I h
  refine wpAny_Call_Name_kw (ld_glob I hg hm ?_ hdb)
  refine PySem.W.callWith_K (h₀ := X.base) I.ok.mod.kin hk (thn (ha pos pins s σ H _ I h) fun us s1 ⟨vs, H1, I1, r, q⟩ => ⟨I1.kIn, ?_⟩) he hpl
  exact run_fn F hr hb hd hx I1 r q
end
def PK (X : Cx) (kws : List Keyword) (t : TA) : Prop :=
  ∀ (pos : Pos) (pins : List (Addr × Obj)) (s : Shared) (σ : St) (H : Hp) (Q : List V → Hp → Prop), Inv X pins σ H s → t σ H Q → wpAny (model X.prog X.w) X.A (evalAll ((backToKw pos (keywordEach kws X.env)).map (·.2))) (AP X pins σ Q) X.xe s
section
variable {X : Cx} {CX : CXT} {k : Nat} {f C : Addr} {fd : FuncData} {ps ks : List Str} {sp : Sp} {E : XK} {x m : Str} {p pos apos kpos : Pos} {e o : Expr} {es : List Expr} {kws : List Keyword} {te ta : TE} {t tk : TA} {nm : Option Str}
theorem pk_nil : PK X [] tNil := fun _ _ _ _ H Q I h => wpAny_evalAll_nil ⟨[], H, I, .nil, h⟩
theorem pk_cons (ha : PE X e te) (hr : PK X kws t) : PK X (⟨nm, e, kpos⟩ :: kws) (tCons te t) := by
  intro pos pins s σ H Q I h
  show wpAny _ _ (evalAll ((do let v ← eval e X.env; standAt pos; pure v) :: (backToKw pos (keywordEach kws X.env)).map (·.2))) _ _ s
  refine wpAny_evalAll_cons (wpAny_bind (thn (ha pins s σ H _ I h) fun u s1 ⟨x, H1, I1, r1, q1⟩ => wpAny_bind (wpAny_standAt (wpAny_pure ?_))))
  exact thn (hr pos pins s1 σ H1 _ I1 q1) fun us s2 ⟨xs, H2, I2, r2, q2⟩ => ⟨x :: xs, H2, I2, .cons r1 r2, q2⟩
variable {g : List Value → List Value → List Value} {gV : List V → List V → List V}
end
structure FnScope (N P : List Str) (sc : Scope) : Prop where
  kind : sc.kind = .function
  co : sc.isCoroutine = false
  gen : sc.isGenerator = false
  nd : N.Nodup
  pre : N.take P.length = P
  par : ∀ x ∈ P, sc.names.lookup x = some .local ∨ sc.names.lookup x = some .cell
  nofree : ∀ y ∈ sc.names, y.2 ≠ .free
theorem bindL_out {kindOf : Str → Option NameKind} {x : Str} : ∀ {binds : List (Str × Value)} {m : Str → Option Value}, (∀ v, (x, v) ∉ binds) → bindL kindOf binds m x = m x
  | [], _, _ => rfl
  | (n, v) :: r, m, h => by
    unfold bindL
    rw [bindL_out fun w hw => h w (List.mem_cons_of_mem _ hw)]
    split
    · have : x ≠ n := by rintro rfl; exact h v List.mem_cons_self
      simp [this]
    · rfl
theorem bindC_out {kindOf : Str → Option NameKind} {x : Str} : ∀ {binds : List (Str × Value)} {m : Str → Option Value}, (∀ v, (x, v) ∉ binds) → bindC kindOf binds m x = m x
  | [], _, _ => rfl
  | (n, v) :: r, m, h => by
    unfold bindC
    rw [bindC_out fun w hw => h w (List.mem_cons_of_mem _ hw)]
    split
    · rfl
    · have : x ≠ n := by rintro rfl; exact h v List.mem_cons_self
      simp [this]
theorem bindL_get {kindOf : Str → Option NameKind} {x : Str} {v : Value} : ∀ {P : List Str} {vs : List Value} {i : Nat} {m : Str → Option Value}, P.Nodup → P[i]? = some x → vs[i]? = some v → kindOf x = some .local →
    bindL kindOf (P.zip vs) m x = some v
  | [], _, _, _, _, h, _, _ => by simp at h
  | _ :: _, [], _, _, _, _, h, _ => by simp at h
  | p :: P, w :: vs, 0, m, nd, h1, h2, hk => by
    simp at h1 h2; subst h1; subst h2
    show bindL kindOf ((p, w) :: P.zip vs) m p = _
    unfold bindL
    rw [bindL_out fun v hv => (List.nodup_cons.mp nd).1 (List.of_mem_zip hv).1, if_pos hk]
    simp
  | p :: P, w :: vs, i + 1, m, nd, h1, h2, hk => by
    show bindL kindOf ((p, w) :: P.zip vs) m x = _
    unfold bindL
    exact bindL_get (i := i) (List.nodup_cons.mp nd).2 (by simpa using h1) (by simpa using h2) hk
theorem bindC_get {kindOf : Str → Option NameKind} {x : Str} {v : Value} : ∀ {P : List Str} {vs : List Value} {i : Nat} {m : Str → Option Value}, P.Nodup → P[i]? = some x → vs[i]? = some v → kindOf x ≠ some .local →
    bindC kindOf (P.zip vs) m x = some v
  | [], _, _, _, _, h, _, _ => by simp at h
  | _ :: _, [], _, _, _, _, h, _ => by simp at h
  | p :: P, w :: vs, 0, m, nd, h1, h2, hk => by
    simp at h1 h2; subst h1; subst h2
    show bindC kindOf ((p, w) :: P.zip vs) m p = _
    unfold bindC
    rw [bindC_out fun v hv => (List.nodup_cons.mp nd).1 (List.of_mem_zip hv).1, if_neg hk]
    simp
  | p :: P, w :: vs, i + 1, m, nd, h1, h2, hk => by
    show bindC kindOf ((p, w) :: P.zip vs) m x = _
    unfold bindC
    exact bindC_get (i := i) (List.nodup_cons.mp nd).2 (by simpa using h1) (by simpa using h2) hk
def start (N : List Str) (vs : List V) : St := vs.map some ++ List.replicate (N.length - vs.length) none
def cxOf (CX : CXT) (P : Program) (w : World) (K : PySem.W.Frag) (mg : Str → Option Value) (base : Heap) (N : List Str) (qual : Str) (scope : Scope) (f : Addr) (cd : Value) (A : Around) (outer : List Env) (s : Shared) (H : Hp) (E : XK) : Cx where
  prog := P
  w := w
  K := K
  mg := mg
  base := base
  A := A.deeper (envOfC qual scope s.heap.objs.size f cd)
  N := N
  s₀ := s
  H₀ := H
  env := envOfC qual scope s.heap.objs.size f cd
  outer := outer
  stack := envOfC qual scope s.heap.objs.size f cd :: outer
  ex := []
  calm := true
  fn := fun _ => true
  pn := []
  xe := fun e s' => wpAny (model P w) (A.deeper (envOfC qual scope s.heap.objs.size f cd)) (leaving (envOfC qual scope s.heap.objs.size f cd) e) (fun _ s'' => CX outer H s E e s'') (fun e' s'' => CX outer H s E e' s'') s'
theorem cell_has {sc : Scope} {n : Nat} {x : Str} (h : sc.names.lookup x = some .cell) : ∃ c, (cellsFrom n sc.names []).lookup x = some c := by
  have q := PySem.W.cellsFrom_some sc.names n [] (.inl h)
  exact Option.isSome_iff_exists.mp q
theorem inv_start {CX : CXT} {P : Program} {w : World} {K : PySem.W.Frag} {mg : Str → Option Value} {base : Heap} {N ps : List Str} {qual : Str} {scope : Scope} {f : Addr} {cd : Value} {A : Around} {outer : List Env} {s s1 : Shared} {H : Hp} {E : XK} {us : List Value} {vs : List V}
    (S : FnScope N ps scope) (hd : A.handled = none) (e0 : Env0 P w K mg base A outer s H) (hl : vs.length = ps.length) (r : Vals vs us)
    (x : InCallC s s.heap.objs.size (bindL (envOfC qual scope s.heap.objs.size f cd).kindOf (ps.zip us) fun _ => none) (cellsFrom (s.heap.objs.size + 1) scope.names []) (bindC (envOfC qual scope s.heap.objs.size f cd).kindOf (ps.zip us) fun _ => none) s1) :
    Inv (cxOf CX P w K mg base N qual scope f cd A outer s H E) [] (start N vs) H s1 := by
  have hpl : ps.length ≤ N.length := by have := congrArg List.length S.pre; rw [List.length_take] at this; omega
  obtain ⟨h1, tk, rfl, hk⟩ := x.done
  have noA : ∀ b : Addr, b ∉ (cxOf CX P w K mg base N qual scope f cd A outer s H E).ex := fun b z => absurd (show b ∈ ([] : List Addr) from z) (by simp)
  refine ⟨⟨e0.mod, S.kind, rfl, rfl, Nat.le_refl _, fun y z c h1 h2 => ?_, fun y hy => ?_, fun y c _ h => ?_, fun _ => hd, Around.frames_deeper e0.frames, .inr ⟨rfl, rfl⟩, fun b z => absurd z (noA b), e0.bs, e0.bsz, fun b _ _ => noA b, fun b z => absurd z (noA b), e0.funs, e0.frf⟩,
    rfl, e0.bare, Un.kept hk, ⟨_, x.toInCall.ns, fun i y v h1 h2 h3 => ?_⟩, fun y c h => ⟨_, x.cell y c h⟩, e0.hok.fresh (Nat.le_refl _), fun y c h => ?_, fun p hp => absurd (show p ∈ ([] : List (Addr × Obj)) from hp) (by simp), e0.hok.kept hk, ?_⟩
  · exact name_of_addr x.apart (PySem.mem_of_lookup h1) (PySem.mem_of_lookup h2)
  · have hy : scope.names.lookup y = some .cell ∨ scope.names.lookup y = some .free := hy
    rcases hy with hy | hy
    · exact cell_has hy
    · exact absurd rfl (S.nofree _ (PySem.mem_of_lookup hy))
  · exact Nat.le_of_lt (x.above y c (PySem.mem_of_lookup h))
  · have hi : i < vs.length := by
      unfold start at h2
      by_cases hi : i < vs.length
      · exact hi
      · rw [List.getElem?_append_right (by simpa using hi)] at h2
        rw [List.getElem?_replicate] at h2
        split at h2 <;> cases h2
    have ha : vs[i]? = some v := by
      unfold start at h2
      rw [List.getElem?_append_left (by simpa using hi), List.getElem?_map] at h2
      cases e : vs[i]? with
      | none => rw [e] at h2; cases h2
      | some a => rw [e] at h2; cases h2; rfl
    obtain ⟨u, hu, rv⟩ := r.get ha
    have hp : ps[i]? = some y := by
      rw [← S.pre, List.getElem?_take_of_lt (by omega)]; exact h1
    have ndP : ps.Nodup := by rw [← S.pre]; exact S.nd.sublist (List.take_sublist _ _)
    refine ⟨u, rv, ?_⟩
    rcases S.par y (List.mem_of_getElem? hp) with k | k
    · exact .inl ⟨k, bindL_get ndP hp hu k⟩
    · obtain ⟨c, e⟩ := cell_has (n := s.heap.objs.size + 1) k
      refine .inr ⟨.inl k, c, e, ?_⟩
      have q := x.cell y c e
      rw [bindC_get ndP hp hu (by show scope.names.lookup y ≠ _; rw [k]; decide)] at q
      exact q
  · exact e0.hok.fresh (Nat.le_of_lt (x.above y c (PySem.mem_of_lookup h)))
  · unfold start
    show _ = N.length
    rw [List.length_append, List.length_map, List.length_replicate]
    omega
theorem fn_of {CX : CXT} {P : Program} {w : World} {K : PySem.W.Frag} {mg : Str → Option Value} {base : Heap} {k : Nat} {f : Addr} {name qual : Str} {params : Arguments} {body : List Stmt} {scope : Scope} {dV kV doc pm cdv ct oc : Value} {an od : Option Addr}
    {osl : Array (Option Value)} {N ps : List Str} {sp : Sp} (lk : K.lookup f = some ⟨oc, od, .func (PySem.W.fnOf name qual params body scope dV kV doc pm an cdv ct), osl⟩) (hcd : PySem.W.codeIn K cdv qual = true) (S : FnScope N ps scope)
    (len : ∀ vs H Q E, sp vs H Q E → vs.length = ps.length)
    (hbody : ∀ (A : Around) (outer : List Env) (s : Shared) (H : Hp) (vs : List V) (Q : VK) (E : XK), Room k (A.deeper (envOfC qual scope s.heap.objs.size f cdv)) → sp vs H Q E →
      ∃ t, PSs (cxOf CX P w K mg base N qual scope f cdv A outer s H E) body t ∧ t { nx := fun _ H' => Q .non H', rt := Q } (start N vs) H) :
    FnOk P w K mg base CX (k + 1) f (PySem.W.fnOf name qual params body scope dV kV doc pm an cdv ct) ps sp := by
  refine ⟨len, fun A outer s H args us vs Q E hr e0 hb r hsp => ?_⟩
  have hl := len _ _ _ _ hsp
  have KX : K.In s.heap := e0.mod.kin.keeps fun b o e => (e0.bs b o e).1
  have lim : s.heap.NoLimit := e0.mod.nolimit.keeps fun b o e => (e0.bs b o e).1
  have hkind : ∀ y ∈ ps.zip us, scope.names.lookup y.1 = some .local ∨ (scope.names.lookup y.1 = some .cell ∧ ((cellsFrom (s.heap.objs.size + 1) scope.names []).lookup y.1).isSome = true) := fun ⟨n, v⟩ hy => by
    rcases S.par n (List.of_mem_zip hy).1 with q | q
    · exact .inl q
    · exact .inr ⟨q, PySem.W.cellsFrom_some _ _ _ (.inl q)⟩
  refine codeAny_call_function hr.depth (KX _ _ lk) rfl S.co S.gen rfl (PySem.W.codeRec_of KX hcd) (hb _ _ _ _ ?_)
  refine wpAny_newFunctionEnv_cells S.kind hkind fun env he s1 x => ?_
  subst he
  refine ⟨lim.keeps x.toInCall.keep, codeAny_func ?_⟩
  obtain ⟨t, ht, hq⟩ := hbody A outer s H vs Q E (hr.deeper _) hsp
  have I : Inv (cxOf CX P w K mg base N qual scope f cdv A outer s H E) [] (start N vs) H s1 := inv_start S hr.hd e0 hl r x
  refine wpAny_mono (ht [] s1 (start N vs) H _ I hq) (fun fl s' hs => ?_) fun e s' hs => hs
  have fin : ∀ {σ' : St} {H' : Hp} {v : V} {u : Value}, Inv (cxOf CX P w K mg base N qual scope f cdv A outer s H E) [] σ' H' s' → RelV v u → Q v H' → CE outer P w H s Q u s' :=
    fun {σ' H' v u} J rv q => ⟨v, H', J.os, J.bare, J.base, J.hok, rv, q⟩
  cases fl with
  | ret u =>
    obtain ⟨v, σ', H', J, rv, q⟩ := hs
    exact fin J rv q
  | next =>
    obtain ⟨σ', H', J, q⟩ := hs
    exact fin (v := V.non) (u := Value.none) J rfl q
  | brk =>
    obtain ⟨_, _, _, q⟩ := hs
    exact False.elim q
  | cont =>
    obtain ⟨_, _, _, q⟩ := hs
    exact False.elim q
end L2
namespace L2
open PySem PySem.Spec PyProof.Rows
section
variable {X : Cx} {x : Str} {p pos : Pos} {e : Expr} {es : List Expr} {t : TA} {id T : String} {r : List V → Hp → VK → Prop}
def tCB (r : List V → Hp → VK → Prop) (t : TA) : TE := fun σ H Q => t σ H fun vs H1 => r vs H1 Q
theorem pe_callB (hc : CallR X (.builtin id) r) (hg : Gl X x) (hm : X.mg x = none) (hv : bootBuiltins x = some (.builtin id)) (ha : PA X (e :: es) t) (hn : x ≠ "__name__" := by decide) (hdb : (x == ("__debug__" : Str)) = false := by decide)
    (he : starEach (e :: es) X.env = (false, eval e X.env) :: starEach es X.env := by rfl) (hpl : (backTo pos (starEach es X.env)).any (·.1) = false := by rfl) : PE X (.Call (.Name x p) (e :: es) [] pos) (tCB r t) := by
  intro pins s σ H Q I h
  refine wpAny_Call_Name_kw (ld_blt I hg hm hv ?_ hn hdb)
  exact PyProof.Rows.callWith_builtin1 (thn (ha pos pins s σ H _ I h) fun us s1 ⟨vs, H1, I1, r1, q1⟩ => hc pins s1 σ H1 vs us Q I1 r1 q1) he hpl
theorem pe_callTy (hc : CallR X (.type T) r) (hg : Gl X x) (hm : X.mg x = none) (hv : bootBuiltins x = some (.type T)) (ha : PA X (e :: es) t) (hn : x ≠ "__name__" := by decide) (hdb : (x == ("__debug__" : Str)) = false := by decide)
    (he : starEach (e :: es) X.env = (false, eval e X.env) :: starEach es X.env := by rfl) (hpl : (backTo pos (starEach es X.env)).any (·.1) = false := by rfl) : PE X (.Call (.Name x p) (e :: es) [] pos) (tCB r t) := by
  intro pins s σ H Q I h
  refine wpAny_Call_Name_kw (ld_blt I hg hm hv ?_ hn hdb)
  exact PyProof.Rows.callWith_type1 (thn (ha pos pins s σ H _ I h) fun us s1 ⟨vs, H1, I1, r1, q1⟩ => hc pins s1 σ H1 vs us Q I1 r1 q1) he hpl
end
end L2
namespace HT
open PySem PyProof.Rows
section
open PySem.SeqAt
open PySem.AutoSeq1 (wpAny_loadPart')
open PySem.MeetsSeq PySem.MeetsSeq2 PySem.MeetsSeq3
end
section
variable {prog : Program} {w : World} {A : Around} {E : Value → Shared → Prop} {s : Shared}
end
end HT
namespace L2
open PySem PySem.Spec PyProof.Rows
section
variable {X : Cx} {e : Expr} {te : TE} {lo hi : Option Expr} {tl th : TO} {pos p2 : Pos}
end
end L2
namespace L2
open PySem PySem.Spec PyProof.Rows
def ixN (n : Nat) (i : Int) : Option Nat := if 0 ≤ i then (if i < n then some i.toNat else none) else if -(n : Int) ≤ i then some (i + n).toNat else none
def atI {α : Type} (xs : List α) (i : Int) : Option α := (ixN xs.length i).bind fun j => xs[j]?
theorem ixN_seq {n : Nat} {i : Int} {j : Nat} (h : ixN n i = some j) : seqIndex? i n = some j ∧ j < n ∧ -(n : Int) ≤ i ∧ i < n := by
  unfold ixN at h
  by_cases h0 : 0 ≤ i
  · rw [if_pos h0] at h
    by_cases h1 : i < n
    · rw [if_pos h1] at h
      have e : i.toNat = j := Option.some.inj h
      exact ⟨by rw [seqIndex_of h0 h1, e], by omega, by omega, h1⟩
    · rw [if_neg h1] at h; cases h
  · rw [if_neg h0] at h
    by_cases h1 : -(n : Int) ≤ i
    · rw [if_pos h1] at h
      have e : (i + n).toNat = j := Option.some.inj h
      exact ⟨by rw [seqIndex_neg (by omega) h1, e], by omega, h1, by omega⟩
    · rw [if_neg h1] at h; cases h
theorem atI_get {α : Type} {xs : List α} {i : Int} {v : α} (h : atI xs i = some v) : ∃ j, seqIndex? i xs.length = some j ∧ xs[j]? = some v ∧ j < xs.length ∧ -(xs.length : Int) ≤ i ∧ i < xs.length := by
  unfold atI at h
  cases e : ixN xs.length i with
  | none => rw [e] at h; cases h
  | some j =>
    rw [e] at h
    obtain ⟨h1, h2, h3, h4⟩ := ixN_seq e
    exact ⟨j, h1, h, h2, h3, h4⟩
def PlainIx (b : Expr) : Prop := ∀ o i, subscripted b false o i = operate [o, i] (getItem o i)
def IxR (X : Cx) (r : R2) : Prop :=
  ∀ (value slice : Expr) (pins : List (Addr × Obj)) (s : Shared) (σ : St) (H : Hp) (x y : V) (v u : Value) (Q : VK), Inv X pins σ H s → RelV x v → RelV y u → r x y H Q →
    subscripted slice false v u = operate [v, u] (getItem v u) → wpAny (model X.prog X.w) X.A (subscriptTail value slice v u) (EP X pins σ Q) X.xe s
def MtR (X : Cx) (id : String) (r : V → List V → Hp → VK → Prop) : Prop :=
  ∀ (pins : List (Addr × Obj)) (s : Shared) (σ : St) (H : Hp) (x : V) (xs : List V) (v : Value) (us : List Value) (Q : VK), Inv X pins σ H s → RelV x v → Vals xs us → r x xs H Q →
    wpAny (model X.prog X.w) X.A (call (.builtin id) (v :: us)) (EP X pins σ Q) X.xe s
section
variable {X : Cx} {a b : Expr} {ta tb : TE} {pos : Pos}
theorem pe_ix {r : R2} (hr : IxR X r) (ha : PE X a ta) (hb : PE X b tb) (hs : PlainIx b) : PE X (.Subscript a b pos) (tOp r ta tb) := by
  intro pins s σ H Q I h
  exact Subscript_ (binT ha hb I h fun v u s2 x y H2 I2 rx ry q => hr a b pins s2 σ H2 x y v u Q I2 rx ry q (hs _ _))
def rIxL (K : PySem.W.Frag) : R2 := fun x y H Q => ∃ p xs i v, x = .ref p ∧ y = .int i ∧ SqL K H p xs ∧ atI xs i = some v ∧ Q v H
def rIxT (K : PySem.W.Frag) : R2 := fun x y H Q => ∃ p xs i v, x = .ref p ∧ y = .int i ∧ SqT K H p xs ∧ atI xs i = some v ∧ Q v H
def rIxS : R2 := fun x y H Q => ∃ z i c, x = .str z ∧ y = .int i ∧ z.length ≤ sizeLine ∧ atI z.cps.toList i = some c ∧ Q (.str ⟨#[c]⟩) H
theorem ix_list : IxR X (rIxL X.K) := by
  intro value slice pins s σ H x y v u Q I rx ry h hs
  obtain ⟨p, xs, i, z, rfl, rfl, hq, he, q⟩ := h
  cases rx
  obtain ⟨t, rfl⟩ := ry
  obtain ⟨its, r, pl, hz⟩ := I.list hq
  obtain ⟨j, h1, h2, h3, h4, h5⟩ := atI_get he
  obtain ⟨w, ew, rw'⟩ := r.get h2
  have hl := r.length
  have hn := line63
  have fin : EP X pins σ Q w s := ⟨z, H, I, rw', q⟩
  by_cases h0 : 0 ≤ i
  · have hj : i.toNat = j := by
      rw [seqIndex_of h0 h5] at h1
      exact Option.some.inj h1
    exact item_listR pl.isList h0 (by omega) (by rw [hj]; simpa using ew) fin hs
  · have hj : (i + (its.toArray.size : Int)).toNat = j := by
      rw [seqIndex_neg (by omega) h4] at h1
      rw [List.size_toArray, ← hl]
      exact Option.some.inj h1
    exact subscriptTail_builtinR (x := w) pl.isList.typeIs slot_list_getitem.lookup
      (wpAny_getItem_list_neg (Q := fun r s' => r = w ∧ EP X pins σ Q r s') pl.isList (by omega) (by rw [List.size_toArray] <;> omega) (by omega) (by rw [hj]; simpa using ew) ⟨rfl, fin⟩) hs
theorem ix_tup : IxR X (rIxT X.K) := by
  intro value slice pins s σ H x y v u Q I rx ry h hs
  obtain ⟨p, xs, i, z, rfl, rfl, hq, he, q⟩ := h
  cases rx
  obtain ⟨t, rfl⟩ := ry
  obtain ⟨its, r, pl, hz⟩ := I.tuple hq
  obtain ⟨j, h1, h2, h3, h4, h5⟩ := atI_get he
  obtain ⟨w, ew, rw'⟩ := r.get h2
  have hl := r.length
  have hn := line63
  have fin : EP X pins σ Q w s := ⟨z, H, I, rw', q⟩
  exact subscriptTail_builtinR (x := w) pl.typeIs slot_tuple_getitem.lookup
    (getItem_tuple (j := j) (Q := fun r s' => r = w ∧ EP X pins σ Q r s') pl (by omega) (by omega) (by rw [List.size_toArray, ← hl]; exact h1) (by simpa using ew) ⟨rfl, fin⟩) hs
theorem ix_str : IxR X rIxS := by
  intro value slice pins s σ H x y v u Q I rx ry h hs
  obtain ⟨z, i, c, rfl, rfl, hz, he, q⟩ := h
  obtain ⟨t, rfl⟩ := rx
  obtain ⟨t', rfl⟩ := ry
  obtain ⟨j, h1, h2, h3, h4, h5⟩ := atI_get he
  have hl : z.cps.toList.length = z.length := by simp [Str.length]
  rw [hl] at h1 h4 h5
  have hn := line63
  exact tail_any (typeIs_str s z t) slot_str_getitem.lookup (getItem_str (c := c) (by
    have e1 : decide (i < -(2 ^ 63 : Int)) = false := decide_eq_false (by omega)
    have e2 : decide (i ≥ 2 ^ 63) = false := decide_eq_false (by omega)
    rw [e1, e2, Bool.or_false]) (by rw [h1]; simpa using h2) ⟨.str ⟨#[c]⟩, H, I.tok _, ⟨_, rfl⟩, q⟩) hs
theorem mapSeq_set (its : List Value) (n j : Nat) (u : Value) : Obj.mapSeq (·.setIfInBounds j u) { cls := .type "list", data := .seq its.toArray n } = { cls := .type "list", data := .seq (its.set j u).toArray n } := by
  simp [Obj.mapSeq]
theorem Inv.lst {pins : List (Addr × Obj)} {σ : St} {H : Hp} {s : Shared} {p : Addr} {xs : List V} (I : Inv X pins σ H s) (h : H p = some (.lst xs)) :
    ∃ (its : List Value) (n : Nat), Vals xs its ∧ s.heap.get? p = some { cls := .type "list", data := .seq its.toArray n } ∧ xs.length ≤ sizeLine := by
  obtain ⟨z, its, n, r, e⟩ := I.hok p _ h
  exact ⟨its, n, r, e, z⟩
theorem Inv.lstUpd {pins : List (Addr × Obj)} {σ : St} {H : Hp} {s : Shared} {p : Addr} {xs ys : List V} {its its' : List Value} {n n' : Nat} {f : Obj → Obj} (I : Inv X pins σ H s) (h : H p = some (.lst xs))
    (ho : s.heap.get? p = some { cls := .type "list", data := .seq its.toArray n }) (hf : f { cls := .type "list", data := .seq its.toArray n } = { cls := .type "list", data := .seq its'.toArray n' }) (r : Vals ys its') (hz : ys.length ≤ sizeLine) (t : Nat) :
    Inv X pins σ (upd H p (.lst ys)) { s with heap := s.heap.update p f, toks := t } := by
  have e : (s.heap.update p f).get? p = some { cls := .type "list", data := .seq its'.toArray n' } := by
    rw [Heap.get?_update_self f ho (by rw [hf] <;> rfl), hf]
  refine I.write (x := p) (e := p) (by rw [h]; trivial) (.inl rfl) (fun b u hb q => (Heap.get?_update_other _ _ (Ne.symm hb)).trans q) ⟨_, e⟩ ?_
  exact ⟨hz, its', n', r, e⟩
def rSetL : V → V → V → Hp → (Hp → Prop) → Prop := fun o i v H Q => ∃ p xs k j, o = .ref p ∧ i = .int k ∧ H p = some (.lst xs) ∧ ixN xs.length k = some j ∧ Q (upd H p (.lst (xs.set j v)))
theorem set_list : PSet X rSetL := by
  intro pins s σ H o i v ov iv u Q I ro ri rv h
  obtain ⟨p, xs, k, j, rfl, rfl, hp, hj, q⟩ := h
  cases ro
  obtain ⟨t, rfl⟩ := ri
  obtain ⟨its, n, r, ho, hz⟩ := I.lst hp
  obtain ⟨h1, h2, h3, h4⟩ := ixN_seq hj
  have hl := r.length
  have hn := line63
  have I' : Inv X pins σ (upd H p (.lst (xs.set j v))) { s with heap := s.heap.update p (Obj.mapSeq (·.setIfInBounds j u)) } :=
    I.lstUpd hp ho (mapSeq_set its n j u) (r.set rv j) (by rw [List.length_set]; exact hz) s.toks
  by_cases h0 : 0 ≤ k
  · have hk : k.toNat = j := by
      rw [seqIndex_of h0 h4] at h1
      exact Option.some.inj h1
    exact PySem.W.ki_setAt ho h0 (by omega) (by rw [List.size_toArray, ← hl]; exact h4) (by rw [hk]; exact ⟨_, I', q⟩)
  · have hk : (k + (its.toArray.size : Int)).toNat = j := by
      rw [seqIndex_neg (by omega) h3] at h1
      rw [List.size_toArray, ← hl]
      exact Option.some.inj h1
    exact PySem.W.ki_setBack ho (by omega) (by rw [List.size_toArray, ← hl]; exact h3) (by omega) (by rw [hk]; exact ⟨_, I', q⟩)
def flatV : V → Bool
  | .non => true
  | .bl _ => true
  | .int _ => true
  | .str _ => true
  | _ => false
def eqV : V → V → Bool
  | .non, .non => true
  | .bl a, .bl b => a == b
  | .bl a, .int b => (if a then 1 else 0) == b
  | .int a, .bl b => a == (if b then 1 else 0)
  | .int a, .int b => a == b
  | .str a, .str b => a == b
  | _, _ => false
theorem eqAt_V {A : Around} {s : Shared} {y x : V} {u v : Value} (ry : RelV y u) (rx : RelV x v) (fy : flatV y = true) (fx : flatV x = true) : SeqAt.EqAt A s u v (eqV y x) := by
  cases y with
  | non =>
    cases ry
    cases x with
    | non => cases rx; exact SeqAt.EqAt.same _
    | bl b => cases rx; exact SeqAt.EqAt.none_bool b
    | int b => obtain ⟨t, rfl⟩ := rx; exact SeqAt.EqAt.none_int b t
    | str b => obtain ⟨t, rfl⟩ := rx; exact SeqAt.EqAt.none_str b t
    | _ => exact absurd (show false = true from fx) Bool.false_ne_true
  | bl a =>
    cases ry
    cases x with
    | non => cases rx; exact SeqAt.EqAt.bool_none a
    | bl b => cases rx; exact SeqAt.EqAt.bool_bool a b
    | int b => obtain ⟨t, rfl⟩ := rx; exact SeqAt.EqAt.bool_int a b t
    | str b => obtain ⟨t, rfl⟩ := rx; exact SeqAt.EqAt.bool_str a b t
    | _ => exact absurd (show false = true from fx) Bool.false_ne_true
  | int a =>
    obtain ⟨t', rfl⟩ := ry
    cases x with
    | non => cases rx; exact SeqAt.EqAt.int_none a t'
    | bl b => cases rx; exact SeqAt.EqAt.int_bool a t' b
    | int b => obtain ⟨t, rfl⟩ := rx; exact SeqAt.EqAt.int_int a t' b t
    | str b => obtain ⟨t, rfl⟩ := rx; exact SeqAt.EqAt.int_str a t' b t
    | _ => exact absurd (show false = true from fx) Bool.false_ne_true
  | str a =>
    obtain ⟨t', rfl⟩ := ry
    cases x with
    | non => cases rx; exact SeqAt.EqAt.str_none a t'
    | bl b => cases rx; exact SeqAt.EqAt.str_bool a t' b
    | int b => obtain ⟨t, rfl⟩ := rx; exact SeqAt.EqAt.str_int a t' b t
    | str b => obtain ⟨t, rfl⟩ := rx; exact SeqAt.EqAt.str_str a t' b t
    | _ => exact absurd (show false = true from fx) Bool.false_ne_true
  | _ => exact absurd (show false = true from fy) Bool.false_ne_true
def eqU (x : V) (u : Value) : Bool := match u with
  | .none => eqV .non x
  | .bool b => eqV (.bl b) x
  | .int i _ => eqV (.int i) x
  | .str z _ => eqV (.str z) x
  | _ => false
theorem eqU_of {x y : V} {u : Value} (r : RelV y u) (f : flatV y = true) : eqU x u = eqV y x := by
  cases y with
  | non => cases r; rfl
  | bl b => cases r; rfl
  | int i => obtain ⟨t, rfl⟩ := r; rfl
  | str z => obtain ⟨t, rfl⟩ := r; rfl
  | _ => exact absurd (show false = true from f) Bool.false_ne_true
theorem any_eqU {x : V} : ∀ {xs : List V} {us : List Value}, Vals xs us → xs.all flatV = true → us.any (eqU x) = xs.any fun y => eqV y x
  | _, _, .nil, _ => rfl
  | y :: xs, u :: us, .cons r t, f => by
    rw [List.all_cons, Bool.and_eq_true] at f
    rw [List.any_cons, List.any_cons, eqU_of r f.1, any_eqU t f.2]
theorem mem_eqAt {A : Around} {s : Shared} {x : V} {v : Value} (rx : RelV x v) (fx : flatV x = true) : ∀ {xs : List V} {us : List Value}, Vals xs us → xs.all flatV = true → ∀ u ∈ us, SeqAt.EqAt A s u v (eqU x u)
  | _, _, .nil, _ => fun u hu => by cases hu
  | y :: xs, u :: us, .cons r t, f => fun u' hu => by
    rw [List.all_cons, Bool.and_eq_true] at f
    rcases List.mem_cons.mp hu with rfl | hu
    · rw [eqU_of r f.1]; exact eqAt_V r rx f.1 fx
    · exact mem_eqAt rx fx t f.2 u' hu
def inV (x : V) (xs : List V) : Bool := xs.any fun y => eqV y x
def rIn (K : PySem.W.Frag) (neg : Bool) : R2 := fun x y H Q => ∃ p xs, y = .ref p ∧ (SqL K H p xs ∨ SqT K H p xs) ∧ flatV x = true ∧ xs.all flatV = true ∧ Q (.bl (if neg then !inV x xs else inV x xs)) H
theorem op_in_seq : OpR X (compareOp .In) (rIn X.K false) := by
  intro pins s σ H x y v u Q I rx ry h
  obtain ⟨p, xs, rfl, hq, fx, fs, q⟩ := h
  cases ry
  rcases hq with hq | hq
  · obtain ⟨its, r, pl, hz⟩ := I.list hq
    refine SeqAt.in_listAt (eqU x) pl.isList (fun w hw => mem_eqAt rx fx r fs w (by simpa using hw)) ⟨.bl _, H, I, rfl, ?_⟩
    rw [show its.toArray.any (eqU x) = its.any (eqU x) by simp, any_eqU r fs]
    exact q
  · obtain ⟨its, r, pl, hz⟩ := I.tuple hq
    refine SeqAt.in_tupleAt (eqU x) pl (fun w hw => mem_eqAt rx fx r fs w (by simpa using hw)) ⟨.bl _, H, I, rfl, ?_⟩
    rw [show its.toArray.any (eqU x) = its.any (eqU x) by simp, any_eqU r fs]
    exact q
theorem op_notIn_seq : OpR X (compareOp .NotIn) (rIn X.K true) := by
  intro pins s σ H x y v u Q I rx ry h
  obtain ⟨p, xs, rfl, hq, fx, fs, q⟩ := h
  cases ry
  rcases hq with hq | hq
  · obtain ⟨its, r, pl, hz⟩ := I.list hq
    refine SeqAt.notIn_listAt (eqU x) pl.isList (fun w hw => mem_eqAt rx fx r fs w (by simpa using hw)) ⟨.bl _, H, I, rfl, ?_⟩
    rw [show its.toArray.any (eqU x) = its.any (eqU x) by simp, any_eqU r fs]
    exact q
  · obtain ⟨its, r, pl, hz⟩ := I.tuple hq
    refine SeqAt.notIn_tupleAt (eqU x) pl (fun w hw => mem_eqAt rx fx r fs w (by simpa using hw)) ⟨.bl _, H, I, rfl, ?_⟩
    rw [show its.toArray.any (eqU x) = its.any (eqU x) by simp, any_eqU r fs]
    exact q
theorem call_len_seq : CallR X (.builtin "len") (fun xs H Q => ∃ p ys, xs = [.ref p] ∧ (SqL X.K H p ys ∨ SqT X.K H p ys) ∧ Q (.int ys.length) H) := by
  intro pins s σ H xs us Q I r h
  obtain ⟨p, ys, rfl, hq, q⟩ := h
  obtain ⟨u, rfl, rx⟩ := vals1 r
  cases rx
  have hn := line63
  rcases hq with hq | hq
  · obtain ⟨its, r', pl, hz⟩ := I.list hq
    have hlen := r'.length
    exact Calls.call_len_list pl.isList (by simp only [List.size_toArray] <;> omega) ⟨.int ys.length, H, I.tok _, ⟨s.toks + 1, by rw [List.size_toArray, hlen]⟩, q⟩
  · obtain ⟨its, r', pl, hz⟩ := I.tuple hq
    have hlen := r'.length
    exact len_tuple pl (by simp only [List.size_toArray] <;> omega) ⟨.int ys.length, H, I.tok _, ⟨s.toks + 1, by rw [List.size_toArray, hlen]⟩, q⟩
theorem call_list_of : CallR X (.type "list") (fun xs H Q => ∃ p ys, xs = [.ref p] ∧ (SqL X.K H p ys ∨ SqT X.K H p ys) ∧ ∀ l, H l = none → Q (.ref l) (upd H l (.lst ys))) := by
  intro pins s σ H xs us Q I r h
  obtain ⟨p, ys, rfl, hq, q⟩ := h
  obtain ⟨u, rfl, rx⟩ := vals1 r
  cases rx
  have fin : ∀ (its : List Value), Vals ys its → ys.length ≤ sizeLine → ∀ (h' : Heap) (c' : Nat), (∀ b o', s.heap.get? b = some o' → h'.get? b = some o') →
      h'.get? s.heap.objs.size = some { cls := .type "list", dict := none, data := .seq its.toArray c', slots := #[] } → EP X pins σ Q (.ref s.heap.objs.size) { s with heap := h' } := fun its r' hz h' c' kp e =>
    ⟨.ref s.heap.objs.size, _, I.laid (t' := s.toks) kp (Nat.le_refl _) (show ObjOk X.prog X.w _ h' _ (.lst ys) from ⟨hz, its, c', r', e⟩), rfl, q _ (I.hok.fresh (Nat.le_refl _))⟩
  rcases hq with hq | hq
  · obtain ⟨its, r', pl, hz⟩ := I.list hq
    have hlen := r'.length
    obtain ⟨o, ho, hc, n, hd⟩ := pl.isList
    exact call_list_seq p (.inl rfl) ho hc hd (fun h' c' kp e => fin its r' hz h' c' kp e) (by simp only [List.size_toArray] <;> omega)
  · obtain ⟨its, r', pl, hz⟩ := I.tuple hq
    have hlen := r'.length
    obtain ⟨o, ho, hc, n, hd⟩ := pl
    exact call_list_seq p (.inr rfl) ho hc hd (fun h' c' kp e => fin its r' hz h' c' kp e) (by simp only [List.size_toArray] <;> omega)
def tyV (K : PySem.W.Frag) (T : String) (x : V) (H : Hp) : Prop := match x with
  | .str _ => T = "str"
  | .int _ => T = "int"
  | .ref p => (T = "list" ∧ ∃ xs, SqL K H p xs) ∨ (T = "tuple" ∧ ∃ o, K.lookup p = some o ∧ o.cls = .type "tuple" ∧ o.dict = none) ∨
      (T = "dict" ∧ ((∃ kvs, H p = some (.dK kvs)) ∨ ∃ kvs, H p = some (.dT kvs))) ∨ (T = "set" ∧ ∃ S n, H p = some (.set S n))
  | _ => False
theorem tyV_is {pins : List (Addr × Obj)} {σ : St} {H : Hp} {s : Shared} {T : String} {x : V} {v : Value} (I : Inv X pins σ H s) (r : RelV x v) (ty : tyV X.K T x H) :
    s.TypeIs v T ∧ ∀ a, v = .ref a → ∃ ob, s.heap.get? a = some ob ∧ ob.dict = none := by
  cases x with
  | str z =>
    obtain ⟨t, rfl⟩ := r
    cases (show T = "str" from ty)
    exact ⟨typeIs_str s z t, fun _ e => nomatch e⟩
  | int i =>
    obtain ⟨t, rfl⟩ := r
    cases (show T = "int" from ty)
    exact ⟨typeIs_int s i t, fun _ e => nomatch e⟩
  | ref p =>
    cases r
    rcases ty with ⟨rfl, xs, hq⟩ | ⟨rfl, o, hk, hc, hd⟩ | ⟨rfl, hk⟩ | ⟨rfl, S, n, hk⟩
    · obtain ⟨its, _, pl, _⟩ := I.list hq
      refine ⟨pl.isList.typeIs, fun a e => ?_⟩
      cases e
      obtain ⟨o, n, e, c, hd, _⟩ := pl
      exact ⟨o, e, hd⟩
    · refine ⟨⟨o, I.kIn p o hk, hc⟩, fun a e => ?_⟩
      cases e
      exact ⟨o, I.kIn _ o hk, hd⟩
    · have z : ∃ o, s.heap.get? p = some o ∧ o.ExactDict := by
        rcases hk with ⟨kvs, hk⟩ | ⟨kvs, hk⟩
        · obtain ⟨_, _, _, _, o, _, _, e, ex, _⟩ := I.hok p _ hk
          exact ⟨o, e, ex⟩
        · obtain ⟨_, _, _, _, o, _, _, e, ex, _⟩ := I.hok p _ hk
          exact ⟨o, e, ex⟩
      obtain ⟨o, e, ex⟩ := z
      refine ⟨⟨o, e, ex.1⟩, fun a e2 => ?_⟩
      cases e2
      exact ⟨o, e, ex.2.1⟩
    · obtain ⟨o, _, _, _, e, ex, _⟩ := I.hok p _ hk
      refine ⟨⟨o, e, ex.1⟩, fun a e2 => ?_⟩
      cases e2
      exact ⟨o, e, ex.2.1⟩
  | _ => exact False.elim ty
def tBM0 (K : PySem.W.Frag) (T : String) (r : V → List V → Hp → VK → Prop) (to : TE) : TE := fun σ H Q => to σ H fun x H1 => tyV K T x H1 ∧ r x [] H1 Q
def tBM (K : PySem.W.Frag) (T : String) (r : V → List V → Hp → VK → Prop) (to : TE) (t : TA) : TE := fun σ H Q => to σ H fun x H1 => tyV K T x H1 ∧ t σ H1 fun xs H2 => r x xs H2 Q
variable {o e : Expr} {es : List Expr} {to : TE} {t : TA} {name : Str} {apos cpos : Pos} {T id : String} {r : V → List V → Hp → VK → Prop}
theorem pe_bm0 (pa : PlainAttrs T) (slot : Slot T name id) (hty : typeOf (.builtin id) = pure (.type "method_descriptor")) (hm : MtR X id r) (ho : PE X o to)
    (hbase : attributeBase o name X.env (eval o X.env) = eval o X.env := by rfl) (hline : (apos.endLine == cpos.line) = true := by rfl) : PE X (.Call (.Attribute o name apos) [] [] cpos) (tBM0 X.K T r to) := by
  intro pins s σ H Q I h
  refine wpAny_Call_method0_late hbase hline (thn (ho pins s σ H _ I h) fun v s1 ⟨x, H1, I1, r1, ty, q1⟩ => ?_)
  obtain ⟨h1, h2⟩ := tyV_is I1 r1 ty
  exact ⟨T, id, pa, slot, hty, h1, h2, Calls.callWith_builtin rfl (PySem.evalArgs_none (hm pins s1 σ H1 x [] v [] Q I1 r1 .nil q1))⟩
theorem pe_bm (pa : PlainAttrs T) (slot : Slot T name id) (hty : typeOf (.builtin id) = pure (.type "method_descriptor")) (hm : MtR X id r) (ho : PE X o to) (ha : PA X (e :: es) t)
    (hbase : attributeBase o name X.env (eval o X.env) = eval o X.env := by rfl)
    (hfew : ((backTo cpos (starEach (e :: es) X.env)).all (fun x => !x.1) && (backToKw cpos (keywordEach [] X.env)).all (fun x => x.1.isSome)
      && decide ((e :: es).length + ([] : List Keyword).length + (if ([] : List Keyword).isEmpty then 0 else 1) < 30)) = true := by rfl)
    (hline : (apos.endLine == cpos.line) = true := by rfl) (hs : starEach (e :: es) X.env = (false, eval e X.env) :: starEach es X.env := by rfl) (hplain : (backTo cpos (starEach es X.env)).any (·.1) = false := by rfl) :
    PE X (.Call (.Attribute o name apos) (e :: es) [] cpos) (tBM X.K T r to t) := by
  intro pins s σ H Q I h
  refine wpAny_Call_method_late hbase hfew hline rfl (thn (ho pins s σ H _ I h) fun v s1 ⟨x, H1, I1, r1, ty, q1⟩ => ?_)
  obtain ⟨h1, h2⟩ := tyV_is I1 r1 ty
  refine ⟨T, id, pa, slot, hty, h1, h2, ?_⟩
  have hA := ha cpos pins s1 σ H1 _ I1 q1
  rw [hs] at hA ⊢
  refine Calls.callWith_builtin (by show (false || (backTo cpos (starEach es X.env)).any (·.1)) = false; rw [hplain] <;> rfl) (Calls.evalArgs_plain ?_)
  exact thn hA fun us s2 ⟨vs, H2, I2, r2, q2⟩ => hm pins s2 σ H2 x vs v us Q I2 r1 r2 q2
/- xs.append(e), list.index on a module's tuple .. are MtR facts of 06m -/
end
end L2
namespace L2
open PySem PySem.Spec PyProof.Rows
def MtM (X : Cx) (id : String) (r : V → List V → Hp → VK → Prop) : Prop :=
  ∀ (pins : List (Addr × Obj)) (s : Shared) (σ : St) (H : Hp) (x : V) (xs : List V) (v : Value) (us : List Value) (Q : VK), Inv X pins σ H s → RelV x v → Vals xs us → r x xs H Q →
    wpAny (model X.prog X.w) X.A (call (.builtin id) (v :: us)) (EP X pins σ Q) X.xe s
theorem Vals.one : ∀ {x : V} {us : List Value}, Vals [x] us → ∃ u, us = [u] ∧ RelV x u
  | _, _, .cons r .nil => ⟨_, rfl, r⟩
theorem Vals.two : ∀ {x y : V} {us : List Value}, Vals [x, y] us → ∃ u v, us = [u, v] ∧ RelV x u ∧ RelV y v
  | _, _, _, .cons r (.cons q .nil) => ⟨_, _, rfl, r, q⟩
theorem Vals.zero : ∀ {us : List Value}, Vals [] us → us = []
  | _, .nil => rfl
section
variable {X : Cx} {pins : List (Addr × Obj)} {σ : St} {H : Hp} {s : Shared} {l b : Addr} {xs ys zs : List V}
theorem Inv.lset {its its' : List Value} {n : Nat} {f : Array Value → Array Value} {t' : Nat} (I : Inv X pins σ H s) (hH : H l = some (.lst xs))
    (e : s.heap.get? l = some { cls := .type "list", data := .seq its.toArray n }) (hf : f its.toArray = its'.toArray) (hv : Vals ys its') (hz : ys.length ≤ sizeLine) :
    Inv X pins σ (upd H l (.lst ys)) { s with heap := s.heap.update l (Obj.mapSeq f), toks := t' } := by
  have q := PySem.IsL.update e f
  rw [hf] at q
  refine I.write (x := l) (e := l) (by rw [hH]; exact trivial) (.inl rfl) (fun b' u hb hu => (Heap.get?_update_other s.heap (Obj.mapSeq f) (Ne.symm hb)).trans hu) ⟨_, q⟩ ?_
  exact ⟨hz, its', _, hv, q⟩
theorem Inv.lnew {its : List Value} {t' : Nat} (I : Inv X pins σ H s) (hv : Vals ys its) (hz : ys.length ≤ sizeLine) :
    Inv X pins σ (upd H s.heap.objs.size (.lst ys)) { s with heap := s.heap.push { cls := .type "list", data := .seq its.toArray }, toks := t' } :=
  I.laid (fun _ _ q => Heap.get?_push_of_some _ q) (Nat.le_refl _) ⟨hz, its, 0, hv, Heap.get?_push_size _ rfl⟩
theorem Inv.lstM (I : Inv X pins σ H s) (hH : H l = some (.lst xs)) : xs.length ≤ sizeLine ∧ ∃ (its : List Value) (n : Nat), Vals xs its ∧ xs.length = its.length ∧ s.heap.get? l = some { cls := .type "list", data := .seq its.toArray n } := by
  obtain ⟨z, its, n, r, e⟩ := I.hok l _ hH
  exact ⟨z, its, n, r, r.length, e⟩
theorem notLongL {n : Nat} (h : n ≤ sizeLine) : Builtin.List.listTooLong n = false := by
  unfold Builtin.List.listTooLong
  exact decide_eq_false (by omega)
end
section
variable {X : Cx}
def rAppend : V → List V → Hp → VK → Prop := fun x vs H Q => ∃ l xs y, x = .ref l ∧ vs = [y] ∧ H l = some (.lst xs) ∧ xs.length < sizeLine ∧ Q .non (upd H l (.lst (xs ++ [y])))
theorem mt_append : MtM X "list.append" rAppend := by
  intro pins s σ H x vs v us Q I rx rv h
  obtain ⟨l, xs, y, rfl, rfl, hH, hz, q⟩ := h
  cases rx
  obtain ⟨u, rfl, ru⟩ := rv.one
  obtain ⟨z, its, n, r, hl, e⟩ := I.lstM hH
  refine call_meets F.slot_list_append ⟨_, e, rfl⟩ F.entry_list_append (F.args_list_append_2 _ _) (PySem.list_append l its.toArray n u (by rw [List.size_toArray]; omega)) ⟨e, ?_⟩
  refine ⟨.non, _, I.lset (its' := its ++ [u]) hH e (by simp) (r.append (.cons ru .nil)) ?_, rfl, q⟩
  rw [List.length_append, List.length_singleton]
  omega
def rExtend : V → List V → Hp → VK → Prop := fun x vs H Q => ∃ l b xs zs, x = .ref l ∧ vs = [.ref b] ∧ H l = some (.lst xs) ∧ H b = some (.lst zs) ∧ xs.length + zs.length ≤ sizeLine ∧ Q .non (upd H l (.lst (xs ++ zs)))
theorem mt_extend : MtM X "list.extend" rExtend := by
  intro pins s σ H x vs v us Q I rx rv h
  obtain ⟨l, b, xs, zs, rfl, rfl, hH, hB, hz, q⟩ := h
  cases rx
  obtain ⟨u, rfl, ru⟩ := rv.one
  cases ru
  obtain ⟨z, its, n, r, hl, e⟩ := I.lstM hH
  obtain ⟨z2, its2, n2, r2, hl2, e2⟩ := I.lstM hB
  have hsz : its.toArray.size + its2.toArray.size ≤ sizeLine := by rw [List.size_toArray, List.size_toArray]; omega
  have hlong : ¬ (!its.toArray.isEmpty && Builtin.List.listTooLong (its.toArray.size + its2.toArray.size)) = true := by
    rw [notLongL hsz, Bool.and_false]
    exact Bool.false_ne_true
  refine call_meets F.slot_list_extend ⟨_, e, rfl⟩ F.entry_list_extend (F.args_list_extend_2 _ _)
    (AutoSeq1.list_extend_list_list_0 l its.toArray n b its2.toArray n2 hlong (by rw [List.size_toArray]; omega) (by omega)) ⟨e, e2, ?_⟩
  refine ⟨.non, _, I.lset (its' := its ++ its2) hH e (by simp) (r.append r2) ?_, rfl, q⟩
  rw [List.length_append]
  omega
end
section
variable {prog : Program} {w : World} {A : Around} {E : Value → Shared → Prop} {s : Shared}
set_option maxRecDepth 100000 in
end
section
variable {X : Cx}
end
end L2
namespace Att
open PySem PySem.W PySem.Calls PyProof.Rows
theorem ints_of_wellAll {P : Params} {h : Heap} : ∀ (ns : List Int) (vs : List Value), WellAll P h vs (ns.map WData.int) → IntsAre vs ns := by
  intro ns
  induction ns with
  | nil =>
    intro vs w
    rw [List.map_nil] at w
    cases w
    exact .nil
  | cons n ns ih =>
    intro vs w
    rw [List.map_cons] at w
    cases w with
    | cons a b =>
      cases a
      exact .cons _ _ (ih _ b)
theorem script_of {l : OpenLaw} {n : Nat} (hn : l.most = some n) {P : Params} {h : Heap} {args : List WData} {vals : List Value}
    (hpre : l.row.toRowW.claim.pre args = true) (hwl : WellAll P h vals args) :
    ∃ a vs ns, vals = [Value.ref a] ∧ args = [WData.list (ns.map WData.int)] ∧ h.get? a = some { cls := .type "list", data := .seq vs.toArray } ∧ IntsAre vs ns ∧ ns.length ≤ n := by
  have hsh : WShape.hasAll [] args [.list .int] = true := (pre_splitW hpre).1
  have hc : l.pre.holds [] { args := args } = true := (pre_splitW hpre).2
  obtain ⟨d, r, rfl, h1, h2⟩ := hasAllW_cons hsh
  obtain rfl := hasAllW_nil h2
  obtain ⟨xs, rfl, h3⟩ := hasW_list h1
  obtain ⟨ns, rfl⟩ := items_int h3
  have hlen : ns.length ≤ n := by
    unfold OpenLaw.pre at hc
    have h4 : (WTm.not (.lt (.lit (.int (n : Int))) (.len (.arg 0)))).holds [] { args := [.list (ns.map .int)] } = true := by
      have h4 := (holds_andW hc).1
      rw [hn] at h4
      exact h4
    have h5 := condW_of h4 (w_not (w_lt w_lit (w_len_list (w_arg rfl))))
    rw [List.length_map] at h5
    refine Nat.le_of_not_lt fun q => ?_
    have q' : (n : Int) < ((ns.length : Nat) : Int) := by omega
    first
      | (rw [decide_eq_true q'] at h5; exact absurd h5 (by decide))
      | (simp at h5; omega)
  cases hwl with
  | cons w1 w2 =>
    cases w2
    cases w1 with
    | list ho hall => exact ⟨_, _, ns, rfl, rfl, ho, ints_of_wellAll ns _ hall, hlen⟩
theorem post_true (l : OpenLaw) (args : List WData) : l.row.toRowW.claim.post args (.bool true) args = true :=
  postW_of (r := l.row.toRowW) (X := (true == true))
    (show WShape.has [] (.bool true) .bool = true by first | rfl | decide | simp [WShape.has, WShape.arms, WShape.armsAll])
    (show (WTm.eq .res (.lit (.bool true))).value [] { args := args, res := some (.bool true), after := args } = some (.bool (true == true)) from w_eq_bool (w_res rfl) w_lit) rfl
theorem attach_call {l : OpenLaw} {n : Nat} {q : Program} {loose : List Str} {XP : (Str → Option Value) → Heap → Prop} {YP : World → Heap → Prop} {d : DefRec}
    (hn : l.most = some n) (hdf : d.params.defaults = [])
    (call : ∀ (w : World) (s₀ s₁ : Shared) (mg mb : Str → Option Value) (fa : Addr) (o : Obj) (pm cd doc : Value) (a : Addr) (vs : List Value) (ns : List Int),
      Ground q loose [] XP w s₀ mg mb s₁.heap → YP w s₁.heap →
      s₁.heap.get? fa = some o → o.data = .func (docDef d.name d.params d.body d.scope pm cd doc) → s₁.heap.CodeRec cd d.name → mg d.name = some (.ref fa) →
      s₁.heap.get? a = some { cls := .type "list", data := .seq vs.toArray } → IntsAre vs ns → ns.length ≤ n → s₁.gens = #[] →
      codeAny (model l.prog w) callerA (.call (.ref fa) ⟨[.ref a], []⟩) (fun r s' => r = .ok (.ret (.bool true)) ∧ OldK s₁.heap s'.heap ∧ s'.os = s₁.os ∧ AllBare s'.gens) s₁) :
    WalkO q loose XP YP l.row.toRowW d [] (fun f vs => PySem.call f vs) := by
  intro w s₀ s₁ mg mb G Y fa o pm cd doc dV kV ho hd hcd hD hmg hg args vals as hpre hlay hrd hwl hlo
  obtain rfl : dV = .none := Dflts.none hD hdf
  obtain rfl : kV = .none := Dflts.noKw hD
  obtain ⟨a, vs, ns, rfl, rfl, hobj, hints, hlen⟩ := script_of hn hpre hwl
  refine enter_call (codeAny_mono (call w s₀ s₁ mg mb fa o pm cd doc a vs ns G Y ho (fd_plain hd) hcd hmg hobj hints hlen hg) fun r s' hq => ?_)
  obtain ⟨rfl, h2, h3, h4⟩ := hq
  exact ⟨.inl ⟨.bool true, .bool true, [], rfl, fun _ => rfl, .bool true, post_true l _, fun _ => ⟨List.Pairwise.nil, fun _ hm => (nomatch hm)⟩⟩, h2, h3, h4⟩
section
variable {prog : Program} {w : World} {A : Around} {E : Value → Shared → Prop} {s : Shared} {K : Frag}
end
end Att
namespace L2
open PySem PySem.Spec PyProof.Rows
theorem vals_ints : ∀ {vs : List Value} {ns : List Int}, IntsAre vs ns → Vals (ns.map V.int) vs
  | _, _, .nil => .nil
  | _, _, .cons n t h => .cons ⟨t, rfl⟩ (vals_ints h)
def Only (H : Hp) : Prop := ∀ b, H b = none ∨ ∃ o xs, H b = some (.frz o (.lst xs))
theorem law_call {P : Program} {w : World} {K : PySem.W.Frag} {mg mb : Str → Option Value} {CX : CXT} {k : Nat} {fa a : Addr} {fd : FuncData} {x : Str} {sp : Sp} {s₁ : Shared} {vs : List Value} {ns : List Int}
    (KX : K.In s₁.heap) (hns : s₁.heap.Ns mainGlobals mg) (hb : s₁.heap.Ns builtinsNs mb) (hbb : ∀ x : Str, x ≠ "__name__" → mb x = bootBuiltins x) (hlim : s₁.heap.NoLimit) (hg : s₁.gens = #[])
    (ha : s₁.heap.get? a = some { cls := .type "list", data := .seq vs.toArray }) (hi : IntsAre vs ns) (hl : ns.length ≤ sizeLine) (hr : Room k callerA)
    (F : ∀ base : Heap, K.In base → base.Ns mainGlobals mg → FnOk P w K mg base CX k fa fd [x] sp) (hbind : ∀ (s : Shared) (u : Value), BindsTo s fd ⟨[u], []⟩ [(x, u)])
    (hsp : ∀ H : Hp, Only H → SqL K H a (ns.map V.int) → sp [.ref a] H (fun v _ => v = .bl true) fun _ _ _ => False)
    (hCX : ∀ H e s', CX [] H s₁ (fun _ _ _ => False) e s' → False) :
    codeAny (model P w) callerA (.call (.ref fa) ⟨[.ref a], []⟩) (fun r s' => r = .ok (.ret (.bool true)) ∧ OldK s₁.heap s'.heap ∧ s'.os = s₁.os ∧ AllBare s'.gens) s₁ := by
  have rv := vals_ints hi
  have lenV := hi.length
  have core : ∀ H : Hp, Only H → SqL K H a (ns.map V.int) → HOk P w H s₁.heap → (∀ b, H b ≠ none → b = a) → (H a ≠ none → K.lookup a = none) →
      codeAny (model P w) callerA (.call (.ref fa) ⟨[.ref a], []⟩) (fun r s' => r = .ok (.ret (.bool true)) ∧ OldK s₁.heap s'.heap ∧ s'.os = s₁.os ∧ AllBare s'.gens) s₁ := by
    intro H hO hS hok hA hK
    have base_of : ∀ {b : Addr} {o : Obj}, s₁.heap.get? b = some o → H b = none → (hidT s₁.heap H).get? b = some o := fun e n => hidT_get e n
    have noA : ∀ {b : Addr} {o : Obj} {es : Array DictEntry} {ep : Nat}, s₁.heap.get? b = some o → o.data = .dict es ep → H b = none := fun {b o es ep} e d => by
      cases q : H b with
      | none => rfl
      | some u =>
        have e' : b = a := hA b (by rw [q]; simp)
        subst e'
        rw [ha] at e; cases e
        have d' : Data.seq vs.toArray _ = Data.dict es ep := d
        cases d'
    have nsK : ∀ {b : Addr} {m : Str → Option Value}, s₁.heap.Ns b m → (hidT s₁.heap H).Ns b m := fun {b m} ⟨o, es, ep, e, d, r⟩ => ⟨o, es, ep, base_of e (noA e d), d, r⟩
    have hKb : K.In (hidT s₁.heap H) := fun b o e => base_of (KX b o e) (by
      cases q : H b with
      | none => rfl
      | some u =>
        have e' : b = a := hA b (by rw [q]; simp)
        subst e'
        rw [hK (by rw [q]; simp)] at e; cases e)
    have hM : Mod K mg (hidT s₁.heap H) := ⟨hKb, nsK hns, ⟨mb, nsK hb, hbb⟩, let ⟨mc, h1, h2⟩ := hlim; ⟨mc, nsK h1, h2⟩⟩
    have e0 : Env0 P w K mg (hidT s₁.heap H) callerA [] s₁ H := ⟨rfl, hM, fun b o e => of_hidT e, Nat.le_of_eq (hidT_size _ _), trivial, fun b hb => absurd (show b ∈ ([] : List Addr) from hb) (by simp), hok, .of_eq hg⟩
    refine codeAny_mono ((F _ hKb (nsK hns)).run callerA [] s₁ H ⟨[.ref a], []⟩ [.ref a] [.ref a] _ _ hr e0 (hbind s₁ (.ref a)) (.cons rfl .nil) (hsp H hO hS)) fun r s' h => ?_
    cases r with
    | error e => exact (hCX H e s' h).elim
    | ok fl =>
      cases fl with
      | next => exact False.elim h
      | brk => exact False.elim h
      | cont => exact False.elim h
      | ret u =>
        obtain ⟨v, H', os, bare, un, hok', r', q⟩ := h
        have q' : v = .bl true := q
        subst q'
        obtain rfl : u = Value.bool true := r'
        refine ⟨rfl, OldK.of_keep fun b o e => ?_, os, bare⟩
        cases q : H b with
        | none => exact un.keep b o e q (by intro z; exact absurd (show b ∈ ([] : List Addr) from z) (by simp)) (by simp)
        | some u =>
          rcases hO b with z | ⟨ob, xs, z⟩
          · rw [q] at z; cases z
          · have z2 := un.frzs b ob _ z
            obtain ⟨e1, _⟩ := hok b _ z
            obtain ⟨e2, _⟩ := hok' b _ z2
            rw [e] at e1; cases e1
            exact e2
  cases hk : K.lookup a with
  | some o =>
    have e := KX a o hk
    rw [ha] at e
    cases e
    refine core (fun _ => none) (fun _ => .inl rfl) (.inr ⟨_, vs.toArray, _, hk, rfl, rfl, rfl, by rw [List.size_toArray, lenV]; exact hl, by simpa using rv⟩) (fun b u z => by have z' : (none : Option HO) = some u := z; cases z') (fun b z => absurd rfl z) fun z => absurd rfl z
  | none =>
    refine core (fun b => if b = a then some (.frz { cls := .type "list", data := .seq vs.toArray } (.lst (ns.map V.int))) else none) (fun b => ?_) (.inl (.inr ⟨{ cls := .type "list", data := .seq vs.toArray }, if_pos rfl⟩)) (fun b u z => ?_) (fun b z => ?_) fun _ => hk
    · by_cases hb : b = a
      · exact .inr ⟨_, _, if_pos hb⟩
      · exact .inl (if_neg hb)
    · by_cases hb : b = a
      · have z' := (if_pos hb).symm.trans z
        cases z'
        subst hb
        exact ⟨ha, by rw [List.length_map]; exact hl, vs, _, rv, ha⟩
      · have z' := (if_neg hb).symm.trans z
        cases z'
    · by_cases hb : b = a
      · exact hb
      · exact absurd (if_neg hb) z
end L2
namespace L2
open PySem PySem.Spec PyProof.Rows
theorem walk_of {l : PySem.W.OpenLaw} {n k : Nat} {q : Program} {loose : List Str} {XP : (Str → Option Value) → Heap → Prop} {YP : World → Heap → Prop} {d : DefRec} {K : Params → PySem.W.Frag} {CX : World → CXT} {sp : World → Sp} {x : Str}
    (hn : l.most = some n) (hn2 : n ≤ sizeLine) (hdf : d.params.defaults = []) (hr : Room k callerA)
    (hY : ∀ (w : World) (h : Heap), YP w h → (K w.params).In h)
    (F : ∀ (w : World) (mg : Str → Option Value) (fa : Addr) (h : Heap), (K w.params).In h → h.Ns mainGlobals mg → mg d.name = some (.ref fa) →
      ∃ fd : FuncData, (∀ (s : Shared) (u : Value), BindsTo s fd ⟨[u], []⟩ [(x, u)]) ∧
        ∀ base : Heap, (K w.params).In base → base.Ns mainGlobals mg → FnOk l.prog w (K w.params) mg base (CX w) k fa fd [x] (sp w))
    (hsp : ∀ (w : World) (H : Hp) (a : Addr) (ns : List Int), ns.length ≤ n → Only H → SqL (K w.params) H a (ns.map V.int) → sp w [.ref a] H (fun v _ => v = .bl true) fun _ _ _ => False)
    (hCX : ∀ (w : World) (H : Hp) (s : Shared) (e : Value) (s' : Shared), CX w [] H s (fun _ _ _ => False) e s' → False) :
    PySem.W.WalkO q loose XP YP l.row.toRowW d [] (fun f vs => PySem.call f vs) := by
  refine Att.attach_call hn hdf fun w s₀ s₁ mg mb fa o pm cd doc a vs ns G Y ho hd hcd hmg hobj hints hlen hg => ?_
  have KX := hY w _ Y
  obtain ⟨fd, hb, hF⟩ := F w mg fa _ KX G.T.g hmg
  exact law_call KX G.T.g G.T.b G.T.builtins G.T.nolimit hg hobj hints (Nat.le_trans hlen hn2) hr hF hb (fun H hO hS => hsp w H a ns hlen hO hS) fun H e s' => hCX w H s₁ e s'
end L2
/- THE LAST THEOREM (shape; LID, My.* are yours):
   My.Adr: a structure of the addresses that your layer names (classes, functions); My.Txt K t: a structure (Prop) of the equations over K;
   My.txt_mk : {K} {implicit addresses ..} (e1 : nsIn K mainGlobals "law" = some (some (.ref f))) (e2 : K.lookup f = some ⟨oc, od, .func (fnOf "law" "law" params body scope dV kV doc pm an cdv ct), sl⟩) (e3 : codeIn K cdv "law" = true) .. : ∃ t, My.Txt K t
set_option maxRecDepth 100000 in
set_option maxHeartbeats 0 in
theorem PySem.Challenge.cw_LID_holds : PySem.Challenge.rw_LID.Holds := by
  w_on; o_law; k_head; (case hw => w_witness2)
  k_fill
  refine L2.walk_of (l := PySem.Challenge.rw_LID) (n := 63) (k := 40) (x := "script") (CX := fun w => ..) (sp := fun _ => My.sp_law) rfl (by decide) rfl ⟨rfl, by decide, by decide⟩ (fun w h Y => PySem.W.kIn_of Y) ?F ?S ?C
  case F =>
    intro w mg fa h KX G hmg
    have T : ∃ t, My.Txt (L2.KOf KX) t := by
      dsimp only [L2.KOf]                          -- K must stand as «<heap const> w.params» for k_is
      refine' My.txt_mk ?e1 ?e2 ?e3 ..
      (case e1 => PySem.W.k_is)                    -- in the order: a name -> its address -> its object -> its parts
      (case e2 => PySem.W.k_is)
      ..
    obtain ⟨t, T⟩ := T
    have e0 := hmg.symm.trans (PySem.W.mg_of KX G T.law)
    cases e0                                       -- fa is the law's own address
    exact ⟨_, fun s u => .of_eq rfl, fun base kb nb => My.law_fn T kb nb⟩     -- if «.of_eq rfl» comes too early: refine' ⟨_, ?b, fun base kb nb => My.law_fn T kb nb⟩; exact fun s u => .of_eq rfl
  case S => exact fun w H a ns hl hO hS => ..
  case C => exact ..
(the tactic k_is has no namespace: write k_is) -/
namespace L2
open PySem PySem.Spec PyProof.Rows
def defArgs (s : Stmt) : Arguments := match s with
  | .FunctionDef _ a _ _ _ _ _ _ _ _ => a
  | _ => { posonlyargs := [], args := [], vararg := none, kwonlyargs := [], kw_defaults := [], kwarg := none, defaults := [] }
def defBody (s : Stmt) : List Stmt := match s with
  | .FunctionDef _ _ b _ _ _ _ _ _ _ => b
  | _ => []
def defScope (s : Stmt) : Scope := match s with
  | .FunctionDef _ _ _ _ _ _ sc _ _ _ => sc
  | _ => { kind := .function, names := [], isGenerator := false, isCoroutine := false }
abbrev CX0 : CXT := fun _ _ _ _ _ _ => False
abbrev E0 : XK := fun _ _ _ => False
theorem pass0 {X : Cx} : Passes CX0 X E0 := fun _ _ _ _ _ _ _ h => h.elim
structure Fun (K : PySem.W.Frag) (x qual : Str) (st : Stmt) (f : Addr) (fd : FuncData) : Prop where
  ex : ∃ (oc : Value) (od : Option Addr) (kV doc pm : Value) (an : Option Addr) (cdv ct : Value) (osl : Array (Option Value)),
    fd = PySem.W.fnOf x qual (defArgs st) (defBody st) (defScope st) .none kV doc pm an cdv ct ∧ K.lookup f = some ⟨oc, od, .func fd, osl⟩ ∧ PySem.W.codeIn K cdv qual = true
  kp : PySem.W.keepIn K (.ref f) = true
section
variable {P : Program} {w : World} {K : PySem.W.Frag} {mg : Str → Option Value} {base : Heap}
theorem Fun.ok {x qual : Str} {st : Stmt} {f : Addr} {fd : FuncData} {N ps : List Str} {k : Nat} {sp : Sp} (F : Fun K x qual st f fd) (S : FnScope N ps (defScope st)) (len : ∀ vs H Q E, sp vs H Q E → vs.length = ps.length)
    (hbody : ∀ (cdv : Value) (A : Around) (outer : List Env) (s : Shared) (H : Hp) (vs : List V) (Q : VK) (E : XK), Room k (A.deeper (envOfC qual (defScope st) s.heap.objs.size f cdv)) → sp vs H Q E →
      ∃ t, PSs (cxOf CX0 P w K mg base N qual (defScope st) f cdv A outer s H E).nox (defBody st) t ∧ t { nx := fun _ H' => Q .non H', rt := Q } (start N vs) H) : FnOk P w K mg base CX0 (k + 1) f fd ps sp := by
  obtain ⟨oc, od, kV, doc, pm, an, cdv, ct, osl, rfl, lk, hcd⟩ := F.ex
  refine fn_of lk hcd S len fun A outer s H vs Q E hr hsp => ?_
  obtain ⟨t, h, q⟩ := hbody cdv A outer s H vs Q E hr hsp
  exact ⟨t, h.nox, q⟩
theorem Fun.binds {x qual : Str} {st : Stmt} {f : Addr} {fd : FuncData} {ps : List Str} (F : Fun K x qual st f fd)
    (h : ∀ (kV doc pm : Value) (an : Option Addr) (cdv ct : Value) (us : List Value), us.length = ps.length → bindArgs (PySem.W.fnOf x qual (defArgs st) (defBody st) (defScope st) .none kV doc pm an cdv ct) ⟨us, []⟩ = pure (ps.zip us)) : Binds K fd ps [] := by
  obtain ⟨oc, od, kV, doc, pm, an, cdv, ct, osl, rfl, lk, hcd⟩ := F.ex
  exact .all (h kV doc pm an cdv ct)
theorem fun_mk {x qual : Str} {st : Stmt} {f : Addr} {oc : Value} {od an : Option Addr} {osl : Array (Option Value)} {kV doc pm cdv ct : Value} (l : K.lookup f = some ⟨oc, od, .func (PySem.W.fnOf x qual (defArgs st) (defBody st) (defScope st) .none kV doc pm an cdv ct), osl⟩)
    (c : PySem.W.codeIn K cdv qual = true) (k : PySem.W.keepIn K (.ref f) = true) : Fun K x qual st f (PySem.W.fnOf x qual (defArgs st) (defBody st) (defScope st) .none kV doc pm an cdv ct) := ⟨⟨oc, od, kV, doc, pm, an, cdv, ct, osl, rfl, l, c⟩, k⟩
end
theorem hu_of {A : Around} {k : Nat} (hr : Room k A) : A.units + 1 < cLine := Nat.lt_of_le_of_lt (Nat.add_le_add_left (by decide : 1 ≤ 64) _) hr.units
section
variable {X : Cx}
theorem pv (i : Nat) {x : Str} {pos : Pos} (hN : X.N[i]? = some x := by rfl) (hv : Vis X.env.scope x := by first | exact Or.inl rfl | exact Or.inr (Or.inl rfl) | exact Or.inr (Or.inr rfl)) (hd : (x == ("__debug__" : Str)) = false := by decide)
    (hcd : (x == ("__classdict__" : Str)) = false := by decide) : PE X (.Name x pos) (tVar i) := pe_var hN hv hd hcd
end
theorem iteF {A B : Prop} (h : B) : if false = true then A else B := by
  rw [if_neg Bool.false_ne_true]
  exact h
theorem ite2 {c A B : Prop} [Decidable c] (h1 : c → A) (h2 : ¬ c → B) : if c then A else B := by
  by_cases h : c
  · rw [if_pos h]
    exact h1 h
  · rw [if_neg h]
    exact h2 h
def Same (H H' : Hp) : Prop := ∀ b o, H b = some o → H' b = some o
theorem Same.seq {K : PySem.W.Frag} {H H' : Hp} {a : Addr} {xs : List V} (e : Same H H') (h : SqL K H a xs) : SqL K H' a xs := by
  rcases h with (h | ⟨o, h⟩) | h
  · exact .inl (.inl (e _ _ h))
  · exact .inl (.inr ⟨o, e _ _ h⟩)
  · exact .inr h
end L2
set_option Elab.async false
set_option linter.all false
set_option maxRecDepth 100000
namespace L2
open PySem PySem.Spec PyProof.Rows
section
variable {κ : Type} [DecidableEq κ]
def valV (kvs : List (κ × V)) (k : κ) : Option V := (kvs.find? fun kv => decide (kv.1 = k)).map (·.2)
def putK (kvs : List (κ × V)) (k : κ) (v : V) : List (κ × V) :=
  if (kvs.any fun kv => decide (kv.1 = k)) = true then kvs.map (fun kv => if kv.1 = k then (kv.1, v) else kv) else kvs ++ [(k, v)]
theorem valV_pos {p : κ × V} {r : List (κ × V)} {k : κ} (e : p.1 = k) : valV (p :: r) k = some p.2 := by simp [valV, List.find?_cons, e]
theorem valV_neg {p : κ × V} {r : List (κ × V)} {k : κ} (e : ¬ p.1 = k) : valV (p :: r) k = valV r k := by simp [valV, List.find?_cons, e]
theorem valV_any (k : κ) : ∀ kvs : List (κ × V), (kvs.any fun kv => decide (kv.1 = k)) = (valV kvs k).isSome
  | [] => rfl
  | p :: r => by
    rw [List.any_cons]
    by_cases e : p.1 = k
    · simp only [valV_pos e, decide_eq_true e, Bool.true_or, Option.isSome_some]
    · rw [valV_neg e, decide_eq_false e, Bool.false_or]; exact valV_any k r
theorem length_putK (kvs : List (κ × V)) (k : κ) (v : V) : (putK kvs k v).length ≤ kvs.length + 1 := by
  unfold putK
  split
  · rw [List.length_map]; omega
  · rw [List.length_append, List.length_cons, List.length_nil]; omega
theorem RelO.isSome_eq {o : Option V} {u : Option Value} (r : RelO o u) : o.isSome = u.isSome := by
  cases o with
  | none => cases u with
    | none => rfl
    | some _ => exact (show False from r).elim
  | some _ => cases u with
    | none => exact (show False from r).elim
    | some _ => rfl
theorem KV.val {kvs : List (κ × V)} {vs : List (κ × Value)} (r : KV kvs vs) (k : κ) : RelO (valV kvs k) (valueAt vs k) := by
  unfold KV at r
  induction r with
  | nil => exact True.intro
  | @cons p q ps qs h t ih =>
    obtain ⟨h1, h2⟩ := h
    by_cases e : p.1 = k
    · have e' : q.1 = k := h1.symm.trans e
      have b : valueAt (q :: qs) k = some q.2 := by simp [valueAt, List.find?_cons, e']
      rw [valV_pos e, b]; exact h2
    · have e' : ¬ q.1 = k := fun z => e (h1.trans z)
      have b : valueAt (q :: qs) k = valueAt qs k := by simp [valueAt, List.find?_cons, e']
      rw [valV_neg e, b]; exact ih
theorem KV.any {kvs : List (κ × V)} {vs : List (κ × Value)} (r : KV kvs vs) (k : κ) : (kvs.any fun kv => decide (kv.1 = k)) = vs.any fun kv => decide (kv.1 = k) := by
  unfold KV at r
  induction r with
  | nil => rfl
  | cons h t ih => rw [List.any_cons, List.any_cons, ih, h.1]
theorem KV.repl {kvs : List (κ × V)} {vs : List (κ × Value)} (r : KV kvs vs) (k : κ) {y : V} {u : Value} (ry : RelV y u) :
    KV (kvs.map fun kv => if kv.1 = k then (kv.1, y) else kv) (vs.map fun kv => if kv.1 = k then (kv.1, u) else kv) := by
  unfold KV at r ⊢
  induction r with
  | nil => exact .nil
  | @cons p q ps qs h t ih =>
    rw [List.map_cons, List.map_cons]
    refine .cons ?_ ih
    obtain ⟨h1, h2⟩ := h
    by_cases e : p.1 = k
    · rw [if_pos e, if_pos (h1.symm.trans e)]; exact ⟨h1, ry⟩
    · rw [if_neg e, if_neg (fun z => e (h1.trans z))]; exact ⟨h1, h2⟩
theorem KV.put {kvs : List (κ × V)} {vs : List (κ × Value)} (r : KV kvs vs) (k : κ) {y : V} {u : Value} (ry : RelV y u) : KV (putK kvs k y) (stored vs k u) := by
  unfold putK stored
  rw [r.any k]
  by_cases e : (vs.any fun kv => decide (kv.1 = k)) = true
  · rw [if_pos e, if_pos e]; exact r.repl k ry
  · rw [if_neg e, if_neg e]; exact Paired.snoc r ⟨rfl, ry⟩
theorem KV.length {kvs : List (κ × V)} {vs : List (κ × Value)} (r : KV kvs vs) : kvs.length = vs.length := Paired.length r
end
theorem kV_is {P : Program} {w : World} {k : Key} {u : Value} (r : RelV (kV k) u) : (mixKind P w).is k u = true := by
  cases k with
  | inl i => obtain ⟨t, e⟩ := (show ∃ t, u = Value.int i t from r); subst e; exact mixKind_int P w i t
  | inr x => obtain ⟨t, e⟩ := (show ∃ t, u = Value.str x t from r); subst e; exact mixKind_str P w x t
theorem items_are {P : Program} {w : World} : ∀ {ks : List Key} {us : List Value}, Vals (ks.map kV) us → ItemsAre (mixKind P w) ks us
  | [], _, r => by rw [List.map_nil] at r; cases r; exact .nil
  | k :: ks, _, r => by
    rw [List.map_cons] at r
    cases r with
    | cons h t => exact .cons (kV_is h) (items_are t)
abbrev KT (H : Hp) : List (List Key × V) → List (List Key × Addr × Value) → Prop := Paired fun p q => p.1 = q.1 ∧ H q.2.1 = some (.tup (p.1.map kV)) ∧ RelV p.2 q.2.2
theorem KT.val {H : Hp} {kvs : List (List Key × V)} {xs : List (List Key × Addr × Value)} (r : KT H kvs xs) (k : List Key) : RelO (valV kvs k) ((atKey xs k).map (·.2)) := by
  induction r with
  | nil => exact True.intro
  | @cons p q ps qs h t ih =>
    obtain ⟨h1, _, h2⟩ := h
    by_cases e : p.1 = k
    · have e' : q.1 = k := h1.symm.trans e
      have b : atKey (q :: qs) k = some q.2 := by simp [atKey, List.find?_cons, e']
      rw [valV_pos e, b]; exact h2
    · have e' : ¬ q.1 = k := fun z => e (h1.trans z)
      have b : atKey (q :: qs) k = atKey qs k := by simp [atKey, List.find?_cons, e']
      rw [valV_neg e, b]; exact ih
theorem KT.repl {H : Hp} {kvs : List (List Key × V)} {xs : List (List Key × Addr × Value)} (r : KT H kvs xs) (k : List Key) {y : V} {u : Value} (ry : RelV y u) :
    KT H (kvs.map fun kv => if kv.1 = k then (kv.1, y) else kv) (xs.map (putAt k u)) := by
  induction r with
  | nil => exact .nil
  | @cons p q ps qs h t ih =>
    rw [List.map_cons, List.map_cons]
    refine .cons ?_ ih
    obtain ⟨h1, h2, h3⟩ := h
    unfold putAt
    by_cases e : p.1 = k
    · rw [if_pos e, if_pos (h1.symm.trans e)]; exact ⟨h1, h2, ry⟩
    · rw [if_neg e, if_neg (fun z => e (h1.trans z))]; exact ⟨h1, h2, h3⟩
theorem KT.put {H : Hp} {kvs : List (List Key × V)} {xs : List (List Key × Addr × Value)} (r : KT H kvs xs) (k : List Key) {b : Addr} {y : V} {u : Value} (hb : H b = some (.tup (k.map kV))) (ry : RelV y u) :
    KT H (putK kvs k y) (storedH xs k b u) := by
  have e : (kvs.any fun kv => decide (kv.1 = k)) = (atKey xs k).isSome := by
    rw [valV_any, (r.val k).isSome_eq, Option.isSome_map]
  unfold putK storedH
  rw [e]
  by_cases q : (atKey xs k).isSome = true
  · rw [if_pos q, if_pos q]; exact r.repl k ry
  · rw [if_neg q, if_neg q]; exact Paired.snoc r ⟨rfl, hb, ry⟩
theorem KT.keeps {H H' : Hp} {kvs : List (List Key × V)} {xs : List (List Key × Addr × Value)} (r : KT H kvs xs) (ht : ∀ b ys, H b = some (.tup ys) → H' b = some (.tup ys)) : KT H' kvs xs :=
  Paired.mapP r fun _ _ z => ⟨z.1, ht _ _ z.2.1, z.2.2⟩
section
variable {P : Program} {w : World} {H : Hp} {h : Heap} {a : Addr}
theorem rd_of {u : HO} (ok : HOk P w H h) (e : Rd H a u) : ObjOk P w H h a u := e.ok ok
theorem dk_rd {kvs : List (Key × V)} (ok : HOk P w H h) (e : Rd H a (.dK kvs)) : kvs.length ≤ sizeLine ∧ (a == sysModules) = false ∧ ∃ vs, KV kvs vs ∧ h.DictOf (mixKind P w) a vs :=
  show ObjOk P w H h a (.dK kvs) from rd_of ok e
theorem dk_of {kvs : List (Key × V)} (ok : HOk P w H h) (e : H a = some (.dK kvs)) : kvs.length ≤ sizeLine ∧ (a == sysModules) = false ∧ ∃ vs, KV kvs vs ∧ h.DictOf (mixKind P w) a vs := dk_rd ok (.inl e)
theorem key_of {ks : List Key} (ok : HOk P w H h) (e : H a = some (.tup (ks.map kV))) : (tupleKind (mixKind P w)).is h ks a := by
  obtain ⟨_, its, r, o, h1, h2, n, h3⟩ := (show ObjOk P w H h a (.tup (ks.map kV)) from ok a _ e)
  exact ⟨o, its.toArray, n, h1, h2, h3, by simpa using items_are r⟩
theorem dt_rd {kvs : List (List Key × V)} (ok : HOk P w H h) (e : Rd H a (.dT kvs)) : kvs.length ≤ sizeLine ∧ (a == sysModules) = false ∧
    ∃ xs, KT H kvs xs ∧ h.DictOfH (tupleKind (mixKind P w)) a xs := by
  obtain ⟨z, y, xs, r, o, es, ep, h1, h2, h3, h4, h5⟩ := (show ObjOk P w H h a (.dT kvs) from rd_of ok e)
  refine ⟨z, y, xs, r, o, es, ep, h1, h2, h3, h4, fun x hx => ?_, h5⟩
  have all : ∀ {l : List (List Key × V)} {m : List (List Key × Addr × Value)}, KT H l m → ∀ x ∈ m, (tupleKind (mixKind P w)).is h x.1 x.2.1 := by
    intro l m q
    induction q with
    | nil => intro x hx; exact nomatch hx
    | @cons p q ps qs hq t ih =>
      intro x hx
      rcases List.mem_cons.mp hx with e | hx
      · subst e
        exact key_of ok (by rw [← hq.1]; exact hq.2.1)
      · exact ih x hx
  exact all r x hx
theorem dt_of {kvs : List (List Key × V)} (ok : HOk P w H h) (e : H a = some (.dT kvs)) : kvs.length ≤ sizeLine ∧ (a == sysModules) = false ∧
    ∃ xs, KT H kvs xs ∧ h.DictOfH (tupleKind (mixKind P w)) a xs := dt_rd ok (.inl e)
end
def DGet (H : Hp) (a : Addr) (y : V) (r : Option V) : Prop :=
  (∃ kvs k, Rd H a (.dK kvs) ∧ y = kV k ∧ r = valV kvs k) ∨ ∃ kvs k b, Rd H a (.dT kvs) ∧ y = .ref b ∧ H b = some (.tup (k.map kV)) ∧ r = valV kvs k
def DPut (H : Hp) (a : Addr) (y v : V) (H' : Hp) : Prop :=
  (∃ kvs k, H a = some (.dK kvs) ∧ y = kV k ∧ kvs.length < sizeLine ∧ H' = upd H a (.dK (putK kvs k v))) ∨
  ∃ kvs k b, H a = some (.dT kvs) ∧ y = .ref b ∧ H b = some (.tup (k.map kV)) ∧ kvs.length < sizeLine ∧ H' = upd H a (.dT (putK kvs k v))
theorem DGet.k {H : Hp} {a : Addr} {kvs : List (Key × V)} {k : Key} (e : H a = some (.dK kvs)) : DGet H a (kV k) (valV kvs k) := .inl ⟨kvs, k, .inl e, rfl, rfl⟩
theorem DPut.k {H : Hp} {a : Addr} {kvs : List (Key × V)} {k : Key} {v : V} (e : H a = some (.dK kvs)) (hl : kvs.length < sizeLine) : DPut H a (kV k) v (upd H a (.dK (putK kvs k v))) := .inl ⟨kvs, k, e, rfl, hl, rfl⟩
section
variable {X : Cx} {pins : List (Addr × Obj)} {σ : St} {H : Hp} {s : Shared} {a : Addr} {y v : V} {u r : Value} {o : Option V} {A : Around} {E : Value → Shared → Prop}
theorem Inv.big (I : Inv X pins σ H s) : sysModules < s.heap.objs.size := by
  have h : mainGlobals < s.heap.objs.size := (I.mod.glob.keeps I.bk).lt
  exact Nat.lt_trans (by decide) h
theorem d_getItem {Q : Value → Shared → Prop} (hu : A.units + 1 < cLine) (I : Inv X pins σ H s) (g : DGet H a y (some v)) (ry : RelV y u) (h : ∀ w' s', Inv X pins σ H s' → RelV v w' → Q w' s') :
    wpAny (model X.prog X.w) A (getItem (.ref a) u) Q E s := by
  rcases g with ⟨kvs, k, e, ey, l⟩ | ⟨kvs, k, b, e, ey, eb, l⟩
  · subst ey
    obtain ⟨z, hd, vs, rel, dd⟩ := dk_rd I.hok e
    obtain ⟨w', hw, rw'⟩ := RelO.some_of (v := v) (o := valueAt vs k) (by rw [l]; exact rel.val k)
    exact wpAny_getItem_of (kV_is ry) dd.mapOf hw (h w' _ (I.tok _) rw')
  · subst ey
    cases (show u = Value.ref b from ry)
    obtain ⟨z, hd, xs, rel, dd⟩ := dt_rd I.hok e
    obtain ⟨w', hw, rw'⟩ := RelO.some_of (v := v) (o := (atKey xs k).map (·.2)) (by rw [l]; exact rel.val k)
    obtain ⟨p, hp, hp2⟩ := Option.map_eq_some_iff.mp hw
    refine wpAny_getItem_heap (tupleKind_room_in1 hu) (key_of I.hok eb) dd hp ?_
    rw [hp2]
    exact h w' _ (I.tok _) rw'
theorem d_write {h' : Heap} {t' : Nat} {ob : HO} (I : Inv X pins σ H s) (mu : Mut (H a)) (hs : Heap.SameBut a s.heap h') (he : ∃ q, h'.get? a = some q) (new : ObjOk X.prog X.w (upd H a ob) h' a ob) :
    Inv X pins σ (upd H a ob) { s with heap := h', toks := t' } :=
  I.write (x := a) (e := a) mu (.inl rfl) (fun b q hb z => (hs.2 b hb).trans z) he new
theorem dk_new {P : Program} {w : World} {H' : Hp} {h' : Heap} {kvs : List (Key × V)} {vs : List (Key × Value)} (z : kvs.length ≤ sizeLine) (hd : (a == sysModules) = false) (rel : KV kvs vs) (dd : h'.DictOf (mixKind P w) a vs) :
    ObjOk P w H' h' a (.dK kvs) := ⟨z, hd, vs, rel, dd⟩
theorem d_setItem {H' : Hp} {Q : Unit → Shared → Prop} (hu : A.units + 1 < cLine) (I : Inv X pins σ H s) (g : DPut H a y v H') (ry : RelV y u) (rv : RelV v r) (h : ∀ s', Inv X pins σ H' s' → Q () s') :
    wpAny (model X.prog X.w) A (setItem (.ref a) u r) Q E s := by
  rcases g with ⟨kvs, k, e, ey, l, eH⟩ | ⟨kvs, k, b, e, ey, eb, l, eH⟩
  · subst ey eH
    obtain ⟨z, hd, vs, rel, dd⟩ := dk_of I.hok e
    have hz : vs.length ≤ sizeLine := by rw [← rel.length]; exact z
    have hl : (putK kvs k v).length ≤ sizeLine := by have := length_putK kvs k v; omega
    refine wpAny_setItem_pairs (hsz := hz) (kV_is ry) dd fun h' dd' hs => h _ ?_
    have he : ∃ q, h'.get? a = some q := let ⟨q, _, _, hq, _⟩ := dd'; ⟨q, hq⟩
    exact d_write I (by rw [e]; exact True.intro) hs he (dk_new hl hd (rel.put k rv) dd')
  · subst ey eH
    cases (show u = Value.ref b from ry)
    obtain ⟨z, hd, xs, rel, dd⟩ := dt_of I.hok e
    have hz : xs.length ≤ sizeLine := by rw [← Paired.length rel]; exact z
    have hl : (putK kvs k v).length ≤ sizeLine := by have := length_putK kvs k v; omega
    refine wpAny_setItem_heap (hsz := hz) (tupleKind_room_in1 hu) (key_of I.hok eb) dd fun h' dd' hs => h _ ?_
    obtain ⟨q, es, ep, hq, h2, h3, h4, _, h5⟩ := dd'
    refine d_write I (by rw [e]; exact True.intro) hs ⟨q, hq⟩ ⟨hl, hd, _, (rel.put k eb rv).keeps fun c ys ec => ?_, q, es, ep, hq, h2, h3, h4, h5⟩
    rw [upd_ne (ne_of ec e (fun z => nomatch z))]
    exact ec
end
section
variable {X : Cx} {pins : List (Addr × Obj)} {σ : St} {H : Hp} {s : Shared} {a : Addr} {kvs : List (Key × V)} {k : Key} {u : Value} {A : Around} {E : Value → Shared → Prop}
end
def NoSl (i : Expr) : Prop := ∀ ov iv, subscripted i false ov iv = operate [ov, iv] (getItem ov iv)
theorem subD_of {prog : Program} {w : World} {A : Around} {E : Value → Shared → Prop} {s : Shared} {env : Env} {value slice : Expr} {pos : Pos} {T id : String} {Q : Value → Shared → Prop}
    (hl : typeLookup (.type T) "__getitem__" = pure (some (.builtin id))) (hs : NoSl slice)
    (h : wpAny (model prog w) A (eval value env) (fun o s₁ => wpAny (model prog w) A (eval slice env) (fun i s₂ => s₂.TypeIs o T ∧ wpAny (model prog w) A (getItem o i) Q E s₂) E s₁) E s) :
    wpAny (model prog w) A (eval (.Subscript value slice pos) env) Q E s := by
  refine Subscript_ (wpAny_mono h (fun o s₁ h₁ => wpAny_mono h₁ (fun i s₂ h₂ => ?_) fun _ _ x => x) fun _ _ x => x)
  obtain ⟨hT, h₂⟩ := h₂
  unfold subscriptTail
  refine wpAny_bind ?_
  rw [getitemInPython_of_ne hT.not_modules]
  refine wpAny_bind (wpAny_specialOf hT hl ?_)
  have fin : wpAny (model prog w) A (subscripted slice false o i) (fun r s₃ => wpAny (model prog w) A (letTemporaryGo value o r >>= fun _ => pure r) Q E s₃) E s₂ := by
    rw [hs o i]
    exact wpAny_operating (wpAny_mono h₂ (fun r s₃ h₃ => wpAny_bind (wpAny_letTemporaryGo (wpAny_pure h₃))) fun _ _ x => x)
  first
    | exact wpAny_pure (wpAny_bind fin)
    | exact wpAny_bind (wpAny_pure (wpAny_bind fin))
    | exact wpAny_bind fin
theorem dict_typeIs {X : Cx} {pins : List (Addr × Obj)} {σ : St} {H : Hp} {s : Shared} {a : Addr} {y : V} {o : Option V} (I : Inv X pins σ H s) (g : DGet H a y o) : s.TypeIs (.ref a) "dict" := by
  rcases g with ⟨kvs, k, e, _, _⟩ | ⟨kvs, k, b, e, _, _, _⟩
  · obtain ⟨_, _, vs, _, dd⟩ := dk_rd I.hok e
    exact dd.typeIs
  · obtain ⟨_, _, xs, _, dd⟩ := dt_rd I.hok e
    exact dd.typeIs
def tDGet (td ty : TE) : TE := fun σ H Q => td σ H fun x H1 => ty σ H1 fun y H2 => ∃ a v, x = .ref a ∧ DGet H2 a y (some v) ∧ Q v H2
def sDPut (td ty tv : TE) : TS := fun D σ H => tv σ H fun v H1 => td σ H1 fun x H2 => ty σ H2 fun y H3 => ∃ a H4, x = .ref a ∧ DPut H3 a y v H4 ∧ D.nx σ H4
section
variable {X : Cx} {o i e value : Expr} {pos pos' tpos : Pos} {td ty tv : TE}
theorem pe_dget (hu : X.A.units + 1 < cLine) (ho : PE X o td) (hi : PE X i ty) (hs : NoSl i) : PE X (.Subscript o i pos) (tDGet td ty) := by
  intro pins s σ H Q I h
  refine subD_of PySem.F.slot_dict_getitem.lookup hs (thn (ho pins s σ H _ I h) fun u s1 ⟨x, H1, I1, rx, q1⟩ => thn (hi pins s1 σ H1 _ I1 q1) fun iv s2 ⟨y, H2, I2, ry, a, v, ex, g, q2⟩ => ?_)
  subst ex
  obtain rfl : u = Value.ref a := rx
  exact ⟨dict_typeIs I2 g, d_getItem hu I2 g ry fun w' s3 I3 rw' => ⟨v, H2, I3, rw', q2⟩⟩
theorem ps_dput (hu : X.A.units + 1 < cLine) (ho : PE X o td) (hi : PE X i ty) (hv : PE X value tv) (hs : swapsWith value (some (.Subscript o i pos')) pos.line X.env = pure false) :
    PS X (.Assign [.Subscript o i pos'] value pos) (sDPut td ty tv) := by
  intro pins s σ H D I h
  refine wpAny_Assign_Subscript (thn (hv pins s σ H _ I h) fun r s1 ⟨v, H1, I1, rv, q1⟩ => thn (ho pins s1 σ H1 _ I1 q1) fun u s2 ⟨x, H2, I2, rx, q2⟩ => thn (hi pins s2 σ H2 _ I2 q2) fun iv s3 ⟨y, H3, I3, ry, a, H4, ex, g, q3⟩ => ?_) hs
  subst ex
  obtain rfl : u = Value.ref a := rx
  exact d_setItem hu I3 g ry rv fun s4 I4 => ⟨σ, H4, I4, q3⟩
end
theorem dk_empty {P : Program} {w : World} {H : Hp} (h : Heap) (hb : sysModules < h.objs.size) : ObjOk P w H (h.push { cls := .type "dict", data := .dict #[] }) h.objs.size (.dK []) :=
  ⟨Nat.zero_le _, beq_eq_false_iff_ne.mpr (Ne.symm (Nat.ne_of_lt hb)), [], .nil, Heap.DictOf.new h⟩
def tDNewK : TE := fun _ H Q => ∀ p, H p = none → Q (.ref p) (upd H p (.dK []))
section
variable {X : Cx} {pos : Pos}
theorem pe_dnewK : PE X (.Dict [] [] pos) tDNewK := fun pins s σ H Q I h =>
  wpAny_Dict_empty ⟨.ref s.heap.objs.size, _, I.laid (a := s.heap.objs.size) (o := .dK []) (t' := s.toks) (fun _ _ q => Heap.get?_push_of_some _ q) (Nat.le_refl _) (dk_empty s.heap I.big), rfl, h _ (I.hok.fresh (Nat.le_refl _))⟩
end
section
variable {X : Cx} {pins : List (Addr × Obj)} {σ : St} {H : Hp} {s : Shared} {a : Addr} {y d : V} {u r : Value} {o : Option V} {A : Around} {E : Value → Shared → Prop}
end
section
variable {X : Cx} {o e f : Expr} {apos cpos : Pos} {td ty tx : TE}
end
section
variable {X : Cx} {pins : List (Addr × Obj)} {σ : St} {H : Hp} {s : Shared} {a : Addr} {kvs : List (Key × V)} {A : Around} {E : Value → Shared → Prop}
theorem d_copyOf {Q : Value → Shared → Prop} (I : Inv X pins σ H s) (e : Rd H a (.dK kvs)) (h : ∀ p s', H p = none → Inv X pins σ (upd H p (.dK kvs)) s' → Q (.ref p) s') : wpAny (model X.prog X.w) A (call (.type "dict") [.ref a]) Q E s := by
  obtain ⟨z, hd, vs, rel, dd⟩ := dk_rd I.hok e
  refine kt_call_dict hd dd (by rw [← rel.length]; exact z) fun h' dd' hs => ?_
  refine h _ _ (I.hok.fresh (Nat.le_refl _)) (I.laid (a := s.heap.objs.size) (o := .dK kvs) (t' := s.toks) (fun b q hq => ?_) (Nat.le_refl _) (dk_new z (beq_eq_false_iff_ne.mpr (Ne.symm (Nat.ne_of_lt I.big))) rel dd'))
  exact (hs.2 b (Nat.ne_of_lt (Heap.lt_size hq))).trans (Heap.get?_push_of_some _ hq)
end
section
variable {X : Cx} {pins : List (Addr × Obj)} {σ : St} {H : Hp} {s : Shared} {a : Addr} {y : V} {u : Value} {A : Around} {E : Value → Shared → Prop}
end
end L2
namespace L2
open PySem PySem.Spec PyProof.Rows
section
variable {X : Cx}
end
section
variable {κ : Type} [DecidableEq κ]
end
end L2
set_option Elab.async false
set_option linter.all false
set_option maxRecDepth 100000
set_option maxHeartbeats 4000000
namespace L2
open PySem PySem.Spec PyProof.Rows
def clOf (env : Env) : List (Str × NameKind) → List (Str × Addr) → List (Str × Addr)
  | [], cs => cs
  | (n, k) :: r, cs => if (k == NameKind.free) = true then (match env.cells.lookup n with | some c => clOf env r ((n, c) :: cs) | none => clOf env r cs) else clOf env r cs
theorem closure_list {env : Env} : ∀ (l : List (Str × NameKind)) (cs : List (Str × Addr)), (∀ x ∈ l, x.2 = .free → ∃ c, env.cells.lookup x.1 = some c) →
    (forIn l cs (fun (x : Str × NameKind) (cs : List (Str × Addr)) => match x with
      | (name, kind) => if (kind == NameKind.free) = true then (do let c ← cellOf env name; pure (ForInStep.yield ((name, c) :: cs))) else pure (ForInStep.yield cs)) : Sem (List (Str × Addr))) = pure (clOf env l cs)
  | [], _, _ => rfl
  | (n, k) :: r, cs, h => by
    rw [List.forIn_cons]
    have hr : ∀ x ∈ r, x.2 = .free → ∃ c, env.cells.lookup x.1 = some c := fun x hx => h x (List.mem_cons_of_mem _ hx)
    by_cases hk : (k == NameKind.free) = true
    · obtain ⟨c, hc⟩ := h (n, k) List.mem_cons_self (by simpa using hk)
      have e1 : clOf env ((n, k) :: r) cs = clOf env r ((n, c) :: cs) := by
        show (if (k == NameKind.free) = true then _ else _) = _
        rw [if_pos hk]
        have hc : env.cells.lookup n = some c := hc
        rw [hc]
      have e2 : cellOf env n = pure c := by
        have hc : env.cells.lookup n = some c := hc
        unfold cellOf; rw [hc]
      rw [e1, ← closure_list r ((n, c) :: cs) hr]
      show (if (k == NameKind.free) = true then (do let c ← cellOf env n; pure (ForInStep.yield ((n, c) :: cs))) else pure (ForInStep.yield cs)) >>= _ = _
      rw [if_pos hk, e2, pure_bind, pure_bind]
    · have e1 : clOf env ((n, k) :: r) cs = clOf env r cs := by
        show (if (k == NameKind.free) = true then _ else _) = _
        rw [if_neg hk]
      rw [e1, ← closure_list r cs hr]
      show (if (k == NameKind.free) = true then (do let c ← cellOf env n; pure (ForInStep.yield ((n, c) :: cs))) else pure (ForInStep.yield cs)) >>= _ = _
      rw [if_neg hk, pure_bind]
theorem closureFor_of {scope : Scope} {env : Env} (h : ∀ x ∈ scope.names, x.2 = .free → ∃ c, env.cells.lookup x.1 = some c) : closureFor scope env = pure (clOf env scope.names []) := by
  unfold closureFor
  have e := closure_list (env := env) scope.names [] h
  first
    | exact e
    | (refine Eq.trans ?_ e; rfl)
    | (rw [bind_pure]; exact e)
    | simpa using e
theorem clOf_sub {env : Env} {x : Str} {c : Addr} : ∀ {l : List (Str × NameKind)} {cs : List (Str × Addr)}, (∀ y d, cs.lookup y = some d → env.cells.lookup y = some d) → (clOf env l cs).lookup x = some c → env.cells.lookup x = some c
  | [], cs, h, e => h x c e
  | (n, k) :: r, cs, h, e => by
    unfold clOf at e
    by_cases hk : (k == NameKind.free) = true
    · rw [if_pos hk] at e
      cases q : env.cells.lookup n with
      | none => rw [q] at e; exact clOf_sub h e
      | some d =>
        rw [q] at e
        refine clOf_sub (fun y z hy => ?_) e
        rw [List.lookup_cons] at hy
        cases hyn : y == n with
        | true =>
          rw [hyn] at hy
          have : y = n := by simpa using hyn
          subst this
          rw [q]; exact hy
        | false => rw [hyn] at hy; exact h y z hy
    · rw [if_neg hk] at e; exact clOf_sub h e
theorem clOf_keeps {env : Env} {x : Str} {c : Addr} (hx : env.cells.lookup x = some c) : ∀ {l : List (Str × NameKind)} {cs : List (Str × Addr)}, cs.lookup x = some c → (clOf env l cs).lookup x = some c
  | [], _, h => h
  | (n, k) :: r, cs, h => by
    unfold clOf
    by_cases hk : (k == NameKind.free) = true
    · rw [if_pos hk]
      cases q : env.cells.lookup n with
      | none => exact clOf_keeps hx h
      | some d =>
        refine clOf_keeps hx ?_
        rw [List.lookup_cons]
        cases hxn : x == n with
        | true =>
          have : x = n := by simpa using hxn
          subst this
          rw [← q, hx]
        | false => exact h
    · rw [if_neg hk]; exact clOf_keeps hx h
theorem clOf_has {env : Env} {x : Str} {c : Addr} (hx : env.cells.lookup x = some c) : ∀ {l : List (Str × NameKind)} {cs : List (Str × Addr)}, (x, NameKind.free) ∈ l → (clOf env l cs).lookup x = some c
  | [], _, h => nomatch h
  | (n, k) :: r, cs, h => by
    unfold clOf
    rcases List.mem_cons.mp h with e | h
    · cases e
      rw [if_pos (show (NameKind.free == NameKind.free) = true by decide), hx]
      exact clOf_keeps hx (by rw [List.lookup_cons]; simp)
    · by_cases hk : (k == NameKind.free) = true
      · rw [if_pos hk]
        cases q : env.cells.lookup n with
        | none => exact clOf_has hx h
        | some d => exact clOf_has hx h
      · rw [if_neg hk]; exact clOf_has hx h
theorem cellsFrom_out {x : Str} : ∀ {l : List (Str × NameKind)} {n : Nat} {acc : List (Str × Addr)}, (∀ y ∈ l, y.2 = .cell → y.1 ≠ x) → (cellsFrom n l acc).lookup x = acc.lookup x
  | [], _, _, _ => rfl
  | (y, k) :: r, n, acc, h => by
    have hr : ∀ z ∈ r, z.2 = .cell → z.1 ≠ x := fun z hz => h z (List.mem_cons_of_mem _ hz)
    unfold cellsFrom
    split
    · rename_i hk
      rw [cellsFrom_out hr, List.lookup_cons]
      have : (x == y) = false := by
        have := h (y, k) List.mem_cons_self (by simpa using hk)
        exact beq_eq_false_iff_ne.mpr (fun z => this z.symm)
      rw [this]
    · exact cellsFrom_out hr
theorem cellsFrom_or {x : Str} {c : Addr} : ∀ {l : List (Str × NameKind)} {n : Nat} {acc : List (Str × Addr)}, (cellsFrom n l acc).lookup x = some c → acc.lookup x = some c ∨ (n ≤ c ∧ (x, NameKind.cell) ∈ l)
  | [], _, _, h => .inl h
  | (y, k) :: r, n, acc, h => by
    unfold cellsFrom at h
    split at h
    · rename_i hk
      have hk' : k = .cell := by simpa using hk
      rcases cellsFrom_or h with z | ⟨z1, z2⟩
      · rw [List.lookup_cons] at z
        cases hx : x == y with
        | true =>
          rw [hx] at z
          have e : n = c := Option.some.inj z
          have e2 : x = y := by simpa using hx
          subst e2; subst hk'
          exact .inr ⟨Nat.le_of_eq e, List.mem_cons_self⟩
        | false => rw [hx] at z; exact .inl z
      · exact .inr ⟨Nat.le_trans (Nat.le_succ _) z1, List.mem_cons_of_mem _ z2⟩
    · rcases cellsFrom_or h with z | ⟨z1, z2⟩
      · exact .inl z
      · exact .inr ⟨z1, List.mem_cons_of_mem _ z2⟩
theorem cellsFrom_inj : ∀ {l : List (Str × NameKind)} {n : Nat} {acc : List (Str × Addr)}, (∀ x y c, acc.lookup x = some c → acc.lookup y = some c → x = y) → (∀ z d, acc.lookup z = some d → d < n) → ∀ x y c, (cellsFrom n l acc).lookup x = some c → (cellsFrom n l acc).lookup y = some c → x = y
  | [], _, _, p, _ => p
  | (w, k) :: r, n, acc, p, lt => by
    unfold cellsFrom
    split
    · refine cellsFrom_inj (l := r) (n := n + 1) (acc := (w, n) :: acc) (fun x y c h1 h2 => ?_) (fun z d h => ?_)
      · rw [List.lookup_cons] at h1 h2
        cases hx : x == w with
        | true =>
          rw [hx] at h1
          have e1 : n = c := Option.some.inj h1
          cases hy : y == w with
          | true => exact (by simpa using hx : x = w).trans (by simpa using hy : y = w).symm
          | false =>
            rw [hy] at h2
            have := lt y c h2
            rw [← e1] at this
            exact absurd this (Nat.lt_irrefl _)
        | false =>
          rw [hx] at h1
          cases hy : y == w with
          | true =>
            rw [hy] at h2
            have e2 : n = c := Option.some.inj h2
            have := lt x c h1
            rw [← e2] at this
            exact absurd this (Nat.lt_irrefl _)
          | false => rw [hy] at h2; exact p x y c h1 h2
      · rw [List.lookup_cons] at h
        cases hz : z == w with
        | true =>
          rw [hz] at h
          have e : n = d := Option.some.inj h
          rw [← e]; exact Nat.lt_succ_self _
        | false =>
          rw [hz] at h
          exact Nat.lt_succ_of_lt (lt z d h)
    · exact cellsFrom_inj p lt
theorem cellsFrom_cell {x : Str} {c : Addr} : ∀ {l : List (Str × NameKind)} {h : Heap} {acc : List (Str × Addr)}, (∀ y d, acc.lookup y = some d → ∃ v, h.IsCell d v) → (cellsFrom h.objs.size l acc).lookup x = some c → ∃ v, (pushCells h l).IsCell c v
  | [], _, _, hA, e => hA x c e
  | (y, k) :: r, h, acc, hA, e => by
    unfold cellsFrom at e
    unfold pushCells
    split at e
    · rename_i hk
      rw [if_pos hk]
      have hs : (h.push { cls := .type "cell", data := .cell none } : Heap).objs.size = h.objs.size + 1 := Heap.size_push ..
      rw [← hs] at e
      refine cellsFrom_cell (fun z d hz => ?_) e
      rw [List.lookup_cons] at hz
      cases hzy : z == y with
      | true =>
        rw [hzy] at hz
        have e : h.objs.size = d := Option.some.inj hz
        subst e
        exact ⟨none, _, Heap.get?_push_size _ rfl, rfl⟩
      | false =>
        rw [hzy] at hz
        obtain ⟨v, o, ho, hd⟩ := hA z d hz
        exact ⟨v, o, Heap.get?_push_of_some _ ho, hd⟩
    · rename_i hk
      rw [if_neg hk]
      exact cellsFrom_cell hA e
theorem wpAny_newEnv_block {M : Model} {A : Around} {E : Value → Shared → Prop} {s : Shared} {scope : Scope} {globals : Addr} {cl : List (Str × Addr)} {qual : Str} {outer : Env} {Q : Env → Shared → Prop}
    (h : Q (newEnv scope s.heap.objs.size globals (cellsFrom (s.heap.objs.size + 1) scope.names cl) qual none .none (some outer) builtinsNs) { s with heap := pushCells (s.heap.push { cls := .type "dict", data := .dict #[] }) scope.names }) :
    wpAny M A (newFunctionEnv scope globals cl [] qual none .none (some outer)) Q E s := by
  simp only [newFunctionEnv, Option.isSome_some, if_true]
  refine wpAny_bind (wpAny_alloc ?_)
  refine wpAny_bind (wpAny_layCells _ (fun name kind cells => by cases hkc : kind == NameKind.cell <;> simp [hkc]) _ _ _ _ ?_)
  rw [show ({ s with heap := s.heap.push { cls := .type "dict", data := .dict #[] } } : Shared).heap.objs.size = s.heap.objs.size + 1 from Heap.size_push ..]
  rw [List.forIn_nil]
  exact wpAny_bind (wpAny_pure (wpAny_pure h))
theorem clOf_none {env : Env} {x : Str} : ∀ {l : List (Str × NameKind)} {cs : List (Str × Addr)}, (∀ y ∈ l, y.2 = .free → y.1 ≠ x) → (clOf env l cs).lookup x = cs.lookup x
  | [], _, _ => rfl
  | (n, k) :: r, cs, h => by
    have hr : ∀ z ∈ r, z.2 = .free → z.1 ≠ x := fun z hz => h z (List.mem_cons_of_mem _ hz)
    unfold clOf
    by_cases hk : (k == NameKind.free) = true
    · rw [if_pos hk]
      have nx : (x == n) = false := beq_eq_false_iff_ne.mpr fun z => h (n, k) List.mem_cons_self (by simpa using hk) z.symm
      cases q : env.cells.lookup n with
      | none => exact clOf_none hr
      | some d =>
        rw [show (clOf env r ((n, d) :: cs)).lookup x = ((n, d) :: cs).lookup x from clOf_none hr, List.lookup_cons, nx]
    · rw [if_neg hk]; exact clOf_none hr
def Cx.block (X : Cx) (scope : Scope) (C : Addr) (s₀ : Shared) (H₀ : Hp) (ex : List Addr) (N : List Str) : Cx where
  prog := X.prog
  w := X.w
  K := X.K
  mg := X.mg
  base := X.base
  A := X.A
  N := N
  s₀ := s₀
  H₀ := H₀
  env := compEnvC scope (cellsFrom (C + 1) scope.names (clOf X.env scope.names [])) C X.env
  outer := X.stack
  stack := X.stack
  ex := ex
  fn := fun x => scope.names.lookup x == some .cell
  calm := X.calm
  pn := []
  xe := fun _ _ => False
structure BlkSc (X : Cx) (scope : Scope) : Prop where
  kind : scope.kind = .function
  apart : ∀ y ∈ scope.names, ∀ z ∈ scope.names, y.2 = .cell → z.2 = .free → y.1 ≠ z.1
  owns : ∀ y ∈ scope.names, y.2 = .cell → scope.names.lookup y.1 = some .cell
  free : ∀ y ∈ scope.names, y.2 = .free → X.env.kindOf y.1 = some .cell ∨ X.env.kindOf y.1 = some .free
  locs : ∀ y ∈ scope.names, y.2 = .local → scope.names.lookup y.1 = some .local
theorem relabel_kind {scope : Scope} {env : Env} {x : Str} {k : NameKind} : ∀ {l : List (Str × NameKind)}, 
    (l.map fun (n, k) => if (k == NameKind.free && env.scope.kind == .function && env.kindOf n == some .cell) then (n, NameKind.cell) else (n, k)).lookup x = some k →
    k = .cell ∨ k = .free → ∃ k', (x, k') ∈ l ∧ (k' = .cell ∨ k' = .free)
  | [], h, _ => by simp at h
  | (n, j) :: r, h, hk => by
    have h : List.lookup x ((if (j == NameKind.free && env.scope.kind == .function && env.kindOf n == some .cell) = true then (n, NameKind.cell) else (n, j)) :: (r.map fun (n, k) => if (k == NameKind.free && env.scope.kind == .function && env.kindOf n == some .cell) then (n, NameKind.cell) else (n, k))) = some k := h
    by_cases hc : (j == NameKind.free && env.scope.kind == .function && env.kindOf n == some .cell) = true
    · rw [if_pos hc, List.lookup_cons] at h
      have hj : j = .free := by
        simp only [Bool.and_eq_true] at hc
        simpa using hc.1.1
      cases hx : x == n with
      | true =>
        have : x = n := by simpa using hx
        subst this
        exact ⟨j, List.mem_cons_self, .inr hj⟩
      | false =>
        rw [hx] at h
        obtain ⟨k', m, q⟩ := relabel_kind (scope := scope) h hk
        exact ⟨k', List.mem_cons_of_mem _ m, q⟩
    · rw [if_neg hc, List.lookup_cons] at h
      cases hx : x == n with
      | true =>
        rw [hx] at h
        have e : j = k := Option.some.inj h
        have : x = n := by simpa using hx
        subst this
        exact ⟨j, List.mem_cons_self, by rw [e]; exact hk⟩
      | false =>
        rw [hx] at h
        obtain ⟨k', m, q⟩ := relabel_kind (scope := scope) h hk
        exact ⟨k', List.mem_cons_of_mem _ m, q⟩
inductive Draws (X : Cx) (scope : Scope) : List Str → List (Option Nat) → Prop
  | nil : Draws X scope [] []
  | own {x : Str} {N : List Str} {ix : List (Option Nat)} : Draws X scope N ix → Draws X scope (x :: N) (Option.none :: ix)
  | tk {x : Str} {N : List Str} {ix : List (Option Nat)} {i : Nat} (hN : X.N[i]? = some x) (hv : Vis X.env.scope x) (hk : (relabel scope X.env).names.lookup x = some .cell ∨ (relabel scope X.env).names.lookup x = some .free) (hf : (x, NameKind.free) ∈ scope.names) :
      Draws X scope N ix → Draws X scope (x :: N) (some i :: ix)
def blkSt (σ : St) (ix : List (Option Nat)) : St := ix.map fun o => o.bind fun i => (σ[i]?).join
theorem Draws.len {X : Cx} {scope : Scope} {N : List Str} {ix : List (Option Nat)} (D : Draws X scope N ix) : ix.length = N.length := by
  induction D with
  | nil => rfl
  | own _ ih => simp [ih]
  | tk _ _ _ _ _ ih => simp [ih]
theorem Draws.get {X : Cx} {scope : Scope} {N : List Str} {ix : List (Option Nat)} {σ : St} (D : Draws X scope N ix) : ∀ (j : Nat) (x : Str) (v : V), N[j]? = some x → (blkSt σ ix)[j]? = some (some v) →
    ∃ (i : Nat), X.N[i]? = some x ∧ σ[i]? = some (some v) ∧ Vis X.env.scope x ∧ ((relabel scope X.env).names.lookup x = some .cell ∨ (relabel scope X.env).names.lookup x = some .free) ∧ (x, NameKind.free) ∈ scope.names := by
  induction D with
  | nil => intro j x v h; simp at h
  | own d ih =>
    intro j x v h1 h2
    cases j with
    | zero => simp [blkSt] at h2
    | succ j => exact ih j x v (by simpa using h1) (by simpa [blkSt] using h2)
  | @tk y N ix i hN hv hk hf d ih =>
    intro j x v h1 h2
    cases j with
    | zero =>
      have e : y = x := by simpa using h1
      subst e
      refine ⟨i, hN, ?_, hv, hk, hf⟩
      have h2 : ((σ[i]?).join) = some v := by simpa [blkSt] using h2
      cases q : σ[i]? with
      | none => rw [q] at h2; cases h2
      | some o => rw [q] at h2; exact congrArg some h2
    | succ j => exact ih j x v (by simpa using h1) (by simpa [blkSt] using h2)
section
variable {X : Cx} {pins : List (Addr × Obj)} {σ : St} {H : Hp} {s : Shared} {scope : Scope} {N : List Str} {ix : List (Option Nat)} {fp : List Addr}
theorem Inv.nostk (I : Inv X pins σ H s) {b : Addr} (h1 : b ≠ X.env.locals) (h2 : b ∉ X.fs) : b ∉ frs X.stack := fun z => (List.mem_cons.mp (I.stkSub b z)).elim h1 h2
theorem Inv.blockStart {h' : Heap} {tk : Nat} {m : Str → Option Value} (I : Inv X pins σ H s) (B : BlkSc X scope) (D : Draws X scope N ix) (hfp : ∀ b ∈ fp, FpOk X pins H b) (hfo : ∀ b ∈ fp, ∃ o, s.heap.get? b = some o)
    (hns : h'.Ns s.heap.objs.size m) (hk : ∀ b o, s.heap.get? b = some o → h'.get? b = some o) (hcl : ∀ x c, (cellsFrom (s.heap.objs.size + 1) scope.names (clOf X.env scope.names [])).lookup x = some c → ∃ v, h'.IsCell c v) :
    Inv (X.block scope s.heap.objs.size s H fp N) (X.pn ++ pins) (blkSt σ ix) H { s with heap := h', toks := tk } := by
  have sub : ∀ {x : Str} {c : Addr}, (clOf X.env scope.names []).lookup x = some c → X.env.cells.lookup x = some c := fun {x c} e => clOf_sub (fun y d z => by simp at z) e
  have old : ∀ {x : Str} {c : Addr}, (clOf X.env scope.names []).lookup x = some c → c < s.heap.objs.size := fun {x c} e => by
    obtain ⟨v, o, ho, _⟩ := I.cell x c (sub e)
    exact Heap.lt_size ho
  have two : ∀ {x : Str} {c : Addr}, (cellsFrom (s.heap.objs.size + 1) scope.names (clOf X.env scope.names [])).lookup x = some c → X.env.cells.lookup x = some c ∨ s.heap.objs.size < c := fun {x c} e => by
    rcases cellsFrom_or e with z | ⟨z, _⟩
    · exact .inl (sub z)
    · exact .inr z
  have own : ∀ {x : Str}, (x, NameKind.free) ∈ scope.names → (cellsFrom (s.heap.objs.size + 1) scope.names (clOf X.env scope.names [])).lookup x = (clOf X.env scope.names []).lookup x := fun {x} hx => cellsFrom_out fun y hy e => B.apart y hy _ hx e rfl
  have okB : (X.block scope s.heap.objs.size s H fp N).Ok := by
    refine ⟨I.ok.mod, B.kind, I.ok.glob, I.ok.blt, Nat.le_refl _, cellsFrom_inj (fun x y c h1 h2 => I.ok.inj x y c (sub h1) (sub h2)) (fun z d h => Nat.lt_succ_of_lt (old h)), fun x hx => ?_, (fun x c z e => ?_), I.ok.hd, I.ok.frames, .inl rfl, fun b hb => ⟨?_, fun x c e => ?_⟩,
      I.bs, Nat.le_trans I.ok.bsz I.sz, fun b o e hb => ?_, fun b hb => I.nostk (hfp b hb).2.1 (hfp b hb).2.2.1, I.stack, I.stkFree⟩
    · have hx' : (relabel scope X.env).names.lookup x = some .cell ∨ (relabel scope X.env).names.lookup x = some .free := hx
      have key : ∃ k', (x, k') ∈ scope.names ∧ (k' = .cell ∨ k' = .free) := by
        rcases hx' with e | e
        · exact relabel_kind (scope := scope) e (.inl rfl)
        · exact relabel_kind (scope := scope) e (.inr rfl)
      obtain ⟨k', m1, q⟩ := key
      rcases q with q | q
      · subst q
        exact Option.isSome_iff_exists.mp (PySem.W.cellsFrom_some _ _ _ (.inl (B.owns _ m1 rfl)))
      · subst q
        obtain ⟨c, hc⟩ := I.ok.has x (B.free _ m1 rfl)
        exact ⟨c, (own m1).trans (clOf_has hc m1)⟩
    · rcases cellsFrom_or e with q | ⟨q, _⟩
      · have z : scope.names.lookup x = some .cell := by
          have z : (scope.names.lookup x == some NameKind.cell) = true := z
          simpa using z
        have hm := PySem.mem_of_lookup z
        have : (x, NameKind.free) ∈ scope.names ∨ True := .inr trivial
        exact absurd q (by
          rw [clOf_none (fun y hy e1 e2 => B.apart _ hm y hy rfl e1 e2.symm)]
          intro h; cases h)
      · exact Nat.le_of_lt q
    · obtain ⟨o, e⟩ := hfo b hb
      exact Nat.ne_of_lt (Heap.lt_size e)
    · rcases two e with z | z
      · exact (hfp b hb).2.2.2.2.1 x c z
      · obtain ⟨o, e⟩ := hfo b hb
        exact Nat.ne_of_gt (Nat.lt_trans (Heap.lt_size e) z)
    · rcases (hfp b hb).2.2.2.1 with z | z
      · exact I.ok.noex b o e z
      · exact absurd (Nat.lt_of_lt_of_le (Heap.lt_size (I.ok.bs b o e).1) z) (Nat.lt_irrefl _)
  refine ⟨okB, rfl, I.bare, Un.kept hk, ⟨m, hns, fun j x v h1 h2 h3 => ?_⟩, fun x c e => ?_, I.hok.fresh (Nat.le_refl _), fun x c e => (two e).elim (fun z => I.freeC x c z) (fun z => I.hok.fresh (Nat.le_of_lt z)), fun p hp => ?_, I.hok.kept hk, ?_⟩
  · obtain ⟨i, e1, e2, vis, kd, fr⟩ := D.get j x v h1 h2
    obtain ⟨m0, hn0, hl⟩ := I.loc
    obtain ⟨u, r, l⟩ := hl i x v e1 e2 vis
    refine ⟨u, r, ?_⟩
    rcases l with ⟨k, _⟩ | ⟨_, c, hc, o, ho, hd⟩
    · rcases B.free _ fr rfl with z | z
      · have z : X.env.kindOf x = some .cell := z
        rw [k] at z; cases z
      · have z : X.env.kindOf x = some .free := z
        rw [k] at z; cases z
    · exact .inr ⟨kd, c, (own fr).trans (clOf_has hc fr), o, hk c o ho, hd⟩
  · exact hcl x c e
  · have hp' : p ∈ X.pn ++ pins := by simpa [Cx.block] using hp
    obtain ⟨e, n, ne, nf, d⟩ := I.pin p hp'
    exact ⟨hk _ _ e, n, Nat.ne_of_lt (Heap.lt_size e), I.nostk ne nf, d⟩
  · show (blkSt σ ix).length = N.length
    unfold blkSt
    rw [List.length_map]
    exact D.len
end
def PTs (X : Cx) (ifs : List Expr) (t : TT) : Prop :=
  ∀ (pins : List (Addr × Obj)) (s : Shared) (σ : St) (H : Hp) (Q : Bool → Hp → Prop), Inv X pins σ H s → t σ H Q →
    wpAny (model X.prog X.w) X.A (forIn ifs true fun c r => if r = true then do let ok ← isTrue c X.env (eval c X.env); pure (ForInStep.yield ok) else pure (ForInStep.yield r)) (TP X pins σ Q) X.xe s
def tTrue : TT := fun _ H Q => Q true H
theorem pts_nil {X : Cx} : PTs X [] tTrue := fun _ _ _ H _ I h => wpAny_tests_nil ⟨H, I, h⟩
theorem pts_one {X : Cx} {c : Expr} {t : TT} (h : PT X c t) : PTs X [c] t := fun pins s σ H Q I hw => wpAny_tests_one (h pins s σ H Q I hw)
theorem comp_loop {prog : Program} {w : World} {A : Around} {R : Result → Shared → Prop} {s : Shared} {elt target iter : Expr} {ifs : List Expr} {scope : Scope} {pos : Pos} {it acc : Value} {env : Env} (I : Nat → Shared → Prop)
    (turn : ∀ n s, I n s → wpAny (model prog w) A (pyNext it) (fun r s₁ => match r with
      | none => R (.ok .next) s₁
      | some v => wpAny (model prog w) A (letOwnedTupleGo target it v) (fun _ s₁' => wpAny (model prog w) A (assign target env v) (fun _ s₂ =>
          wpAny (model prog w) A (forIn ifs true fun c r => if r = true then do let ok ← isTrue c env (eval c env); pure (ForInStep.yield ok) else pure (ForInStep.yield r)) (fun ok s₃ =>
            if ok = true then wpAny (model prog w) A (eval elt env) (fun x s₄ =>
              wpAny (model prog w) A (call (.builtin "list.append") [acc, x]) (fun _ s₅ => ∃ m, m < n ∧ I m s₅) (fun _ _ => False) s₄) (fun _ _ => False) s₃
            else ∃ m, m < n ∧ I m s₃) (fun _ _ => False) s₂) (fun _ _ => False) s₁') (fun _ _ => False) s₁) (fun _ _ => False) s)
    (n : Nat) (h : I n s) :
    codeAny (model prog w) A (.compLoop (.ListComp elt [⟨target, iter, ifs, 0⟩] scope pos) 0 it acc env) R s := by
  refine codeAny_loop rfl I (fun n s hI => ?_) n h
  show wpAny _ A ((compTurn (.ListComp elt [⟨target, iter, ifs, 0⟩] scope pos) 0 it acc env).onRaise (fun x => do noteFrame x env; theTreesLotGoes x)) _ _ s
  refine wpAny_noted ?_
  rw [compTurn_list]
  refine wpAny_bind (wpAny_standAt (wpAny_bind (wpAny_mono (turn n s hI) (fun r s₁ h₁ => ?_) fun _ _ h' => h'.elim)))
  cases r with
  | none => exact wpAny_pure h₁
  | some v =>
    refine wpAny_bind (wpAny_mono h₁ (fun _ s₁' h₁' => ?_) fun _ _ h' => h'.elim)
    refine wpAny_bind (wpAny_mono h₁' (fun _ s₂ h₂ => wpAny_bind (wpAny_mono h₂ (fun ok s₃ h₃ => ?_) fun _ _ h' => h'.elim)) fun _ _ h' => h'.elim)
    cases ok with
    | false => exact wpAny_pure ⟨rfl, h₃⟩
    | true =>
      exact wpAny_bind (wpAny_bind (wpAny_mono h₃ (fun x s₄ h₄ => wpAny_bind (wpAny_mono h₄ (fun _ s₅ h₅ => wpAny_pure (wpAny_pure ⟨rfl, h₅⟩)) fun _ _ h' => h'.elim)) fun _ _ h' => h'.elim))
def tComp (wi : TI) (ix : List (Option Nat)) (g : TG) (tt : TT) (te : TE) : TE := fun σ H Q => wi σ H fun J H1 => ∀ D, H1 D = none → ∃ W : Nat → Nat → List V → St → Hp → Prop,
  (∃ m, W 0 m [] (blkSt σ ix) (upd H1 D (.lst []))) ∧ ∀ i m ys τ H2, W i m ys τ H2 →
    (J.stop i H2 ∧ Q (.ref D) H2) ∨ (J.go i H2 ∧ ∃ N : List V → St → Hp → Prop, (∀ ys' τ' H', N ys' τ' H' → ∃ m', m' < m ∧ W (i + 1) m' ys' τ' H') ∧ ∀ x H3, J.yld i H2 x H3 → g x τ H3 fun τ' H4 => tt τ' H4 fun b H5 =>
      if b = true then te τ' H5 fun v H6 => H6 D = some (.lst ys) ∧ ys.length < sizeLine ∧ N (ys ++ [v]) τ' (upd H6 D (.lst (ys ++ [v])))
      else N ys τ' H5)
theorem block_loop {Y : Cx} {tg elt iter : Expr} {ifs : List Expr} {scope : Scope} {pos : Pos} {g : TG} {tt : TT} {te : TE} {J : It} {fp : List Addr} {it D : Addr} {tn : Nat → Heap → Prop} {P : List (Addr × Obj)} {W : Nat → Nat → List V → St → Hp → Prop} {m0 : Nat}
    {R : Result → Shared → Prop} {QD : Hp → Prop} {s4 : Shared} {τ0 : St} {H4 : Hp}
    (hc : Y.calm = true) (hx : ∀ e s, Y.xe e s → False) (hg : PG Y tg g) (ht : PTs Y ifs tt) (he : PE Y elt te) (T : Turn Y.prog Y.w Y.K tg J fp it tn)
    (stat : ∀ {H' : Hp}, (∀ b ∈ fp, H' b = none) → ∀ b ∈ fp, FpOk Y P H' b)
    (turn : ∀ i m ys τ H2, W i m ys τ H2 → (J.stop i H2 ∧ QD H2) ∨ (J.go i H2 ∧ ∃ N : List V → St → Hp → Prop, (∀ ys' τ' H', N ys' τ' H' → ∃ m', m' < m ∧ W (i + 1) m' ys' τ' H') ∧ ∀ x H3, J.yld i H2 x H3 → g x τ H3 fun τ' H4 => tt τ' H4 fun b H5 =>
      if b = true then te τ' H5 fun v H6 => H6 D = some (.lst ys) ∧ ys.length < sizeLine ∧ N (ys ++ [v]) τ' (upd H6 D (.lst (ys ++ [v])))
      else N ys τ' H5))
    (fin : ∀ τ H' s', Inv Y P τ H' s' → QD H' → R (.ok .next) s')
    (I0 : Inv Y P τ0 H4 s4) (t0 : tn 0 s4.heap) (n0 : ∀ b ∈ fp, H4 b = none) (w0 : W 0 m0 [] τ0 H4) :
    codeAny (model Y.prog Y.w) Y.A (.compLoop (.ListComp elt [⟨tg, iter, ifs, 0⟩] scope pos) 0 (.ref it) (.ref D) Y.env) R s4 := by
  have nx : ∀ {α : Type} {t : Sem α} {Q : α → Shared → Prop} {s : Shared}, wpAny (model Y.prog Y.w) Y.A t Q Y.xe s → wpAny (model Y.prog Y.w) Y.A t Q (fun _ _ => False) s := fun h => wpAny_mono h (fun _ _ q => q) hx
  refine comp_loop (fun n s' => ∃ i ys τ H', Inv Y P τ H' s' ∧ tn i s'.heap ∧ (∀ b ∈ fp, H' b = none) ∧ W i n ys τ H') ?_ m0 ⟨0, [], τ0, H4, I0, t0, n0, w0⟩
  rintro n s5 ⟨i, ys, τ, H5, I5, st5, fr5, w5⟩
  rcases turn i n ys τ H5 w5 with ⟨stop, q⟩ | ⟨go, N, hN, step⟩
  · refine thn (T.done Y rfl rfl rfl hc i P s5 τ H5 _ I5 (stat fr5) st5 stop) fun r s6 ⟨hr, I6⟩ => ?_
    subst hr
    exact fin τ H5 s6 I6 q
  · refine thn (T.item Y rfl rfl rfl hc i P s5 τ H5 _ I5 (stat fr5) st5 go) fun r s6 ⟨u, hr, h6⟩ => ?_
    subst hr
    refine thn h6 fun _ s7 ⟨x, H7, I7, r7, y7, st7, fr7⟩ => ?_
    have I7' := I7.pinned (stat fr7) (T.obj _ _ st7)
    refine nx (thn (hg _ s7 τ H7 x u _ I7' r7 (step x H7 y7)) fun _ s8 ⟨τ8, H8, I8, q8⟩ => ?_)
    refine nx (thn (ht _ s8 τ8 H8 _ I8 q8) fun ok s9 ⟨H9, I9, q9⟩ => ?_)
    have again : ∀ {ys' : List V} {H' : Hp} {s' : Shared}, Inv Y (P ++ pinsAt fp s7.heap) τ8 H' s' → (∃ m', m' < n ∧ W (i + 1) m' ys' τ8 H') → ∃ m, m < n ∧ ∃ i ys τ H', Inv Y P τ H' s' ∧ tn i s'.heap ∧ (∀ b ∈ fp, H' b = none) ∧ W i m ys τ H' := fun {ys' H' s'} I' ⟨m', hm, w'⟩ => by
      refine ⟨m', hm, i + 1, ys', τ8, H', I'.unpinned, T.keep _ _ _ st7 fun b hb o e => (I'.pin (b, o) (List.mem_append_right _ (List.mem_append_right _ (mem_pinsAt hb e)))).1, fun b hb => ?_, w'⟩
      obtain ⟨o, e, d⟩ := T.obj _ _ st7 b hb
      exact (I'.pin (b, o) (List.mem_append_right _ (List.mem_append_right _ (mem_pinsAt hb e)))).2.1
    cases ok with
    | false =>
      rw [if_neg Bool.false_ne_true] at q9 ⊢
      exact again I9 (hN _ _ _ q9)
    | true =>
      rw [if_pos rfl] at q9 ⊢
      refine nx (thn (he _ s9 τ8 H9 _ I9 q9) fun y s10 ⟨v, H10, I10, r10, hD, hz, w10⟩ => ?_)
      refine nx (thn (mt_append (X := Y) _ s10 τ8 H10 (.ref D) [v] (.ref D) [y] (fun _ H' => H' = upd H10 D (.lst (ys ++ [v]))) I10 rfl (.cons r10 .nil) ⟨D, ys, v, rfl, rfl, hD, hz, rfl⟩) fun _ s11 ⟨z, H11, I11, _, e11⟩ => ?_)
      subst e11
      exact again I11 (hN _ _ _ w10)
theorem run_comp {X : Cx} {elt tg iter : Expr} {ifs : List Expr} {scope : Scope} {pos p1 : Pos} {N : List Str} {ix : List (Option Nat)} {wi : TI} {g : TG} {tt : TT} {te : TE} {pins : List (Addr × Obj)} {s : Shared} {σ : St} {H : Hp} {Q : VK} {use : Option (Value → Sem Unit)}
    {Z : Value → Shared → Prop}
    (hc : X.calm = true) (B : BlkSc X scope) (Dr : Draws X scope N ix) (hi : PI X tg iter wi)
    (hg : ∀ C s₀ H₀ ex, PG (X.block scope C s₀ H₀ ex N) tg g) (ht : ∀ C s₀ H₀ ex, PTs (X.block scope C s₀ H₀ ex N) ifs tt) (he : ∀ C s₀ H₀ ex, PE (X.block scope C s₀ H₀ ex N) elt te)
    (hs : ∀ x, foldedSetIterable iter X.env x = pure x)
    (I : Inv X pins σ H s) (h : tComp wi ix g tt te σ H Q)
    (fin : ∀ (D C : Addr) (H' : Hp) (s' : Shared) (m : Str → Option Value), Inv X pins σ H' s' → Q (.ref D) H' → s'.heap.Ns C m → (∀ h', Heap.SameBut C s'.heap h' → Inv X pins σ H' { s' with heap := h' }) → C ≠ X.env.locals → (∀ x c, X.env.cells.lookup x = some c → c ≠ C) → H' C = none →
      (∀ p ∈ X.pn ++ pins, p.1 ≠ C) → X.s₀.heap.objs.size ≤ C → compPost (model X.prog X.w) X.A X.xe use Z (.ref D) C (.ok .next) s') :
    wpAny (model X.prog X.w) X.A (comprehension (.ListComp elt [⟨tg, iter, ifs, 0⟩] scope pos) scope X.env p1 (newList []) false (eval iter X.env) use) Z X.xe s := by
  have hfree : ∀ x ∈ scope.names, x.2 = .free → ∃ c, X.env.cells.lookup x.1 = some c := fun x hx e => I.ok.has _ (B.free x hx e)
  refine wpAny_comprehension_free (use := use) rfl hs (closureFor_of hfree) B.kind B.locs ?_
  refine thn (hi pins s σ H _ I h) fun v s1 h1 => thn h1 fun itv s2 h2 => ?_
  obtain ⟨it, fp, tn, J, H2, e, I2, T, st2, f2, R⟩ := h2
  subst e
  have hDf : H2 s2.heap.objs.size = none := I2.hok.fresh (Nat.le_refl _)
  obtain ⟨W, ⟨m0, w0⟩, turn⟩ := R _ hDf
  refine wpAny_newObj_type ?_ (by show (0 : Nat) ≤ sizeLine; exact Nat.zero_le _)
  have I3 : Inv X pins σ (upd H2 s2.heap.objs.size (.lst [])) { s2 with heap := s2.heap.push { cls := .type "list", data := .seq ([] : List Value).toArray } } := I2.lnew (t' := s2.toks) (ys := []) (its := []) .nil (Nat.zero_le _)
  generalize hD : s2.heap.objs.size = D at *
  have fpo : ∀ b ∈ fp, ∃ o, s2.heap.get? b = some o := fun b hb => let ⟨o, q, _⟩ := T.obj _ _ st2 b hb; ⟨o, q⟩
  have fpD : ∀ b ∈ fp, b ≠ D := fun b hb => by
    obtain ⟨o, q⟩ := fpo b hb
    rw [← hD]; exact Nat.ne_of_lt (Heap.lt_size q)
  have f3 : ∀ b ∈ fp, FpOk X pins (upd H2 D (.lst [])) b := fun b hb => ⟨by rw [upd_ne (fpD b hb)]; exact (f2 b hb).1, (f2 b hb).2⟩
  generalize hs3 : ({ s2 with heap := s2.heap.push { cls := .type "list", data := .seq ([] : List Value).toArray } } : Shared) = s3 at I3 ⊢
  have k23 : ∀ b o, s2.heap.get? b = some o → s3.heap.get? b = some o := fun b o q => by rw [← hs3]; exact Heap.get?_push_of_some _ q
  have fpo3 : ∀ b ∈ fp, ∃ o, s3.heap.get? b = some o := fun b hb => let ⟨o, q⟩ := fpo b hb; ⟨o, k23 b o q⟩
  have st3 : tn 0 s3.heap := T.keep _ _ _ st2 fun b hb o q => k23 b o q
  refine wpAny_newEnv_block ?_
  have k34 : ∀ b o, s3.heap.get? b = some o → (pushCells (s3.heap.push { cls := .type "dict", data := .dict #[] }) scope.names).get? b = some o := fun b o q => pushCells_keeps _ _ b o (Heap.get?_push_of_some _ q)
  have hns4 : (pushCells (s3.heap.push { cls := .type "dict", data := .dict #[] }) scope.names).Ns s3.heap.objs.size (fun _ => none) := (Heap.Ns.new s3.heap (.type "dict")).keeps (pushCells_keeps _ _)
  have hcl4 : ∀ x c, (cellsFrom (s3.heap.objs.size + 1) scope.names (clOf X.env scope.names [])).lookup x = some c → ∃ v, (pushCells (s3.heap.push { cls := .type "dict", data := .dict #[] }) scope.names).IsCell c v := fun x c e => by
    refine cellsFrom_cell (h := s3.heap.push { cls := .type "dict", data := .dict #[] }) (acc := clOf X.env scope.names []) (fun y d hy => ?_) (by rw [Heap.size_push]; exact e)
    obtain ⟨v, o, ho, hd⟩ := I3.cell y d (clOf_sub (fun y d z => by simp at z) hy)
    exact ⟨v, o, Heap.get?_push_of_some _ ho, hd⟩
  have IB := I3.blockStart (tk := s3.toks) B Dr f3 fpo3 hns4 k34 hcl4
  generalize hh4 : pushCells (s3.heap.push { cls := .type "dict", data := .dict #[] }) scope.names = h4 at *
  generalize hC : s3.heap.objs.size = C at *
  have hCX : X.s₀.heap.objs.size ≤ C := by rw [← hC]; exact I3.sz
  have CL : C ≠ X.env.locals := by rw [← hC]; exact Nat.ne_of_gt I3.lt
  have Cc : ∀ x c, X.env.cells.lookup x = some c → c ≠ C := fun x c q => by
    obtain ⟨v, o, ho, _⟩ := I3.cell x c q
    rw [← hC]; exact Nat.ne_of_lt (Heap.lt_size ho)
  have Cp : ∀ p ∈ X.pn ++ pins, p.1 ≠ C := fun p hp => by
    rw [← hC]; exact Nat.ne_of_lt (Heap.lt_size (I3.pin p hp).1)
  have fpC : ∀ b ∈ fp, b ≠ C := fun b hb => by
    obtain ⟨o, q⟩ := fpo3 b hb
    rw [← hC]; exact Nat.ne_of_lt (Heap.lt_size q)
  have stat : ∀ {H' : Hp}, (∀ b ∈ fp, H' b = none) → ∀ b ∈ fp, FpOk (X.block scope C s3 (upd H2 D (.lst [])) fp N) (X.pn ++ pins) H' b := fun {H'} hn b hb => by
    obtain ⟨_, q1, q2, q3, q4, q5⟩ := f2 b hb
    exact ⟨hn b hb, fpC b hb, I3.nostk q1 q2, .inl hb, fun x c e => (cellsFrom_or e).elim (fun z => q4 x c (clOf_sub (fun y d z => by simp at z) z)) (fun z => by obtain ⟨o, q⟩ := fpo3 b hb; have := Heap.lt_size q; rw [hC] at this; exact Nat.ne_of_gt (Nat.lt_of_lt_of_le (Nat.lt_succ_of_lt this) z.1)), fun p hp => q5 p (by simpa [Cx.block] using hp)⟩
  have st4 : tn 0 h4 := T.keep _ _ _ st3 fun b hb o q => k34 b o q
  have n4 : ∀ b ∈ fp, (upd H2 D (.lst [])) b = none := fun b hb => (f3 b hb).1
  have loop := block_loop (Y := X.block scope C s3 (upd H2 D (.lst [])) fp N) (iter := iter) (pos := pos) (scope := scope) (D := D) (R := compPost (model X.prog X.w) X.A X.xe use Z (.ref D) C) hc (fun _ _ z => z) (hg C s3 _ fp) (ht C s3 _ fp) (he C s3 _ fp) T stat turn
    (fun τ H' s' I' q => by
      have I5 : Inv X pins σ H' s' := I3.call' (ch := fp) I'.os I'.base I'.hok I'.bare fun b hb => by
        obtain ⟨_, q1, q2, q3, q4, q5⟩ := f2 b hb
        exact ⟨q3, q1, q4, q5⟩
      obtain ⟨m, hn, _⟩ := I'.loc
      have hC0 : H' C = none := I'.free
      exact fin D C H' s' m I5 q hn (fun h'' hs'' => I5.turned (t' := s'.toks) (fun b o hb e => hs''.extBut b o hb e) hC0 CL (.inr hCX) Cc Cp) CL Cc hC0 Cp hCX) IB st4 n4 w0
  exact codeAny_compStart_list loop (T.self _ 0 _ _ _ st4 loop)
theorem pe_comp {X : Cx} {elt tg iter : Expr} {ifs : List Expr} {scope : Scope} {pos : Pos} {N : List Str} {ix : List (Option Nat)} {wi : TI} {g : TG} {tt : TT} {te : TE} (hc : X.calm = true) (B : BlkSc X scope) (Dr : Draws X scope N ix) (hi : PI X tg iter wi)
    (hg : ∀ C s₀ H₀ ex, PG (X.block scope C s₀ H₀ ex N) tg g) (ht : ∀ C s₀ H₀ ex, PTs (X.block scope C s₀ H₀ ex N) ifs tt) (he : ∀ C s₀ H₀ ex, PE (X.block scope C s₀ H₀ ex N) elt te)
    (hs : ∀ x, foldedSetIterable iter X.env x = pure x := by intro _; rfl) : PE X (.ListComp elt [⟨tg, iter, ifs, 0⟩] scope pos) (tComp wi ix g tt te) := by
  intro pins s σ H Q I h
  rw [eval_ListComp]
  exact run_comp (use := none) hc B Dr hi hg ht he hs I h fun D C H' s' m I' q hn k _ _ _ _ _ => ⟨m, hn, fun h' hs' => ⟨.ref D, H', k h' hs', rfl, q⟩⟩
theorem ps_comp {X : Cx} {elt tg iter : Expr} {ifs : List Expr} {scope : Scope} {pos spos py : Pos} {N : List Str} {ix : List (Option Nat)} {wi : TI} {g : TG} {tt : TT} {te : TE} {i : Nat} {y : Str} (hc : X.calm = true) (B : BlkSc X scope) (Dr : Draws X scope N ix) (hi : PI X tg iter wi)
    (hg : ∀ C s₀ H₀ ex, PG (X.block scope C s₀ H₀ ex N) tg g) (ht : ∀ C s₀ H₀ ex, PTs (X.block scope C s₀ H₀ ex N) ifs tt) (he : ∀ C s₀ H₀ ex, PE (X.block scope C s₀ H₀ ex N) elt te)
    (hN : X.N.Nodup) (hy : X.N[i]? = some y) (hl : X.env.scope.names.lookup y = some .local)
    (hsw : swapsWith (.ListComp elt [⟨tg, iter, ifs, 0⟩] scope pos) (some (.Name y py)) spos.line X.env = pure true := by rfl)
    (hs : ∀ x, foldedSetIterable iter X.env x = pure x := by intro _; rfl) : PS X (.Assign [.Name y py] (.ListComp elt [⟨tg, iter, ifs, 0⟩] scope pos) spos) (tAsg (tComp wi ix g tt te) (gName i)) := by
  intro pins s σ H Dn I h
  rw [exec_Assign_Name_used _ _ _ _ hsw]
  refine wpAny_bind (wpAny_standAt (wpAny_bind ?_))
  show wpAny _ X.A (do let _ ← comprehension (.ListComp elt [⟨tg, iter, ifs, 0⟩] scope pos) scope X.env _ (newList []) false (eval iter X.env) (some (assign (.Name y py) X.env))) _ _ s
  refine wpAny_bind (thn (run_comp (use := some (assign (.Name y py) X.env)) (Z := fun _ s' => SP X pins Dn .next s') hc B Dr hi hg ht he hs I h fun D C H' s' m I' q hn k CL Cc C0 Cp CX => ?_) fun _ s' hq => wpAny_pure (wpAny_pure hq))
  show wpAny _ _ (assign (.Name y py) X.env (.ref D)) _ _ s'
  refine wpAny_assign_Name (store_ok2 I' hN hy (.inl hl) (v := .ref D) rfl (fun s'' I'' ⟨a, sb, ha⟩ => ?_) (.inr hl))
  have aC : C ≠ a := by
    rcases ha with z | z
    · rw [z]; exact CL
    · exact (Cc _ _ z).symm
  exact ⟨m, hn.sameBut sb aC, fun h' hs' => ⟨_, H', I''.turned (t' := s''.toks) (fun b o hb e => hs'.extBut b o hb e) C0 CL (.inr CX) Cc Cp, q⟩⟩
theorem comp_by {J : It} {ix : List (Option Nat)} {g : TG} {tt : TT} {te : TE} {Q : VK} {σ : St} {H1 : Hp} {D : Addr} (xs : List V) (Pv : Nat → List V → St → Hp → Prop) (h0 : Pv 0 [] (blkSt σ ix) (upd H1 D (.lst [])))
    (hJ : ∀ i ys τ H, Pv i ys τ H → (∀ x, xs[i]? = some x → J.go i H ∧ ∀ y H', J.yld i H y H' → H' = H ∧ y = x) ∧ (i = xs.length → J.stop i H))
    (hs : ∀ i x ys τ H, xs[i]? = some x → Pv i ys τ H → g x τ H fun τ' H4 => tt τ' H4 fun b H5 => if b = true then te τ' H5 fun v H6 => H6 D = some (.lst ys) ∧ ys.length < sizeLine ∧ Pv (i + 1) (ys ++ [v]) τ' (upd H6 D (.lst (ys ++ [v]))) else Pv (i + 1) ys τ' H5)
    (hd : ∀ ys τ H, Pv xs.length ys τ H → Q (.ref D) H) :
    ∃ W : Nat → Nat → List V → St → Hp → Prop, (∃ m, W 0 m [] (blkSt σ ix) (upd H1 D (.lst []))) ∧ ∀ i m ys τ H2, W i m ys τ H2 →
      (J.stop i H2 ∧ Q (.ref D) H2) ∨ (J.go i H2 ∧ ∃ N : List V → St → Hp → Prop, (∀ ys' τ' H', N ys' τ' H' → ∃ m', m' < m ∧ W (i + 1) m' ys' τ' H') ∧ ∀ x H3, J.yld i H2 x H3 → g x τ H3 fun τ' H4 => tt τ' H4 fun b H5 =>
        if b = true then te τ' H5 fun v H6 => H6 D = some (.lst ys) ∧ ys.length < sizeLine ∧ N (ys ++ [v]) τ' (upd H6 D (.lst (ys ++ [v])))
        else N ys τ' H5) := by
  refine ⟨fun i m ys τ H => m = xs.length - i ∧ i ≤ xs.length ∧ Pv i ys τ H, ⟨xs.length, by simp, Nat.zero_le _, h0⟩, ?_⟩
  rintro i m ys τ H ⟨rfl, hi, p⟩
  obtain ⟨j1, j2⟩ := hJ i ys τ H p
  by_cases hlt : i < xs.length
  · have hx : xs[i]? = some xs[i] := by simp [hlt]
    obtain ⟨go, yl⟩ := j1 _ hx
    refine .inr ⟨go, Pv (i + 1), fun ys' τ' H' p' => ⟨xs.length - (i + 1), by omega, rfl, hlt, p'⟩, fun y H' yd => ?_⟩
    obtain ⟨e1, e2⟩ := yl y H' yd
    subst e1 e2
    exact hs i _ ys τ _ hx p
  · have e : i = xs.length := by omega
    subst e
    exact .inl ⟨j2 rfl, hd ys τ H p⟩
def blkOk (scope sc : Scope) : Bool := (scope.kind == .function) && (scope.names.all (fun y => scope.names.all fun z => y.2 != .cell || z.2 != .free || y.1 != z.1) && scope.names.all (fun y => y.2 != .cell || scope.names.lookup y.1 == some .cell)) && scope.names.all (fun y => y.2 != .free || sc.names.lookup y.1 == some .cell || sc.names.lookup y.1 == some .free) && scope.names.all (fun y => y.2 != .local || scope.names.lookup y.1 == some .local)
theorem blk_mk {X : Cx} {scope sc : Scope} (hsc : X.env.scope = sc) (h : blkOk scope sc = true) : BlkSc X scope := by
  unfold blkOk at h
  simp only [Bool.and_eq_true, List.all_eq_true, Bool.or_eq_true] at h
  obtain ⟨⟨⟨h1, h2, h5⟩, h3⟩, h4⟩ := h
  refine ⟨by simpa using h1, fun y hy z hz e1 e2 => ?_, fun y hy e => ?_, fun y hy e => ?_, fun y hy e => ?_⟩
  · rcases h2 y hy z hz with (q | q) | q
    · rw [e1] at q; simp at q
    · rw [e2] at q; simp at q
    · simpa using q
  · rcases h5 y hy with q | q
    · rw [e] at q; simp at q
    · simpa using q
  · have q := h3 y hy
    show X.env.scope.names.lookup y.1 = some .cell ∨ X.env.scope.names.lookup y.1 = some .free
    rw [hsc]
    rcases q with (q | q) | q
    · rw [e] at q; simp at q
    · exact .inl (by simpa using q)
    · exact .inr (by simpa using q)
  · have q := h4 y hy
    rcases q with q | q
    · rw [e] at q; simp at q
    · simpa using q
end L2
set_option Elab.async false
set_option linter.all false
set_option maxRecDepth 100000
set_option maxHeartbeats 4000000
namespace L2
open PySem PySem.Spec PyProof.Rows
def Its (z : Str) : It := ⟨fun i _ => i < z.cps.size, fun i H x H' => H' = H ∧ ∃ c, z.cps[i]? = some c ∧ x = .str ⟨#[c]⟩, fun i _ => z.cps.size ≤ i⟩
theorem turn_str {P : Program} {w : World} {K : PySem.W.Frag} {tg : Expr} (it : Addr) (z : Str) (t : Tok) (ty : String) (hty : ty = "str_ascii_iterator" ∨ ty = "str_iterator") : Turn P w K tg (Its z) [it] it (fun i h => h.IsStrIter it ty z t i) where
  mem := by simp
  obj := fun i h st b hb => by
    have e : b = it := by simpa using hb
    subst e
    obtain ⟨o, e, c, d⟩ := st
    exact ⟨o, e, fun v z => by rw [d] at z; cases z⟩
  keep := fun i h h' st k => by
    obtain ⟨o, e, c, d⟩ := st
    exact ⟨o, k it (by simp) o e, c, d⟩
  item := by
    intro X hP hw hK hc i pins s σ H E I hf st hg
    subst hP hw hK
    obtain ⟨f0, f1, f2, f3, f4, f5⟩ := hf it (by simp)
    have hlt : i < z.cps.size := hg
    have hx : z.cps[i]? = some z.cps[i] := by simp [hlt]
    have fin : ∀ h' : Heap, h'.IsStrIter it ty z t (i + 1) → Heap.SameBut it s.heap h' → ∃ u, some (Value.str ⟨#[z.cps[i]]⟩ s.toks) = some u ∧
        wpAny (model X.prog X.w) X.A (letOwnedTupleGo tg (.ref it) u) (fun _ s2 => ∃ x H', Inv X pins σ H' s2 ∧ RelV x u ∧ (Its z).yld i H x H' ∧ s2.heap.IsStrIter it ty z t (i + 1) ∧ ∀ b ∈ [it], H' b = none) E { s with heap := h', toks := s.toks + 1 } := fun h' st' sb => by
      have I1 : Inv X pins σ H { s with heap := h', toks := s.toks + 1 } := I.turned (t' := s.toks + 1) (fun b o hb e => (sb.2 b hb).trans e) f0 f1 f3 f4 f5
      obtain ⟨o, e, c, d⟩ := id st'
      exact ⟨_, rfl, go_of (s := { s with heap := h', toks := s.toks + 1 }) e c d (by rcases hty with rfl | rfl <;> decide) ⟨.str ⟨#[z.cps[i]]⟩, H, I1, ⟨_, rfl⟩, ⟨rfl, _, hx, rfl⟩, st', fun b hb => (hf b hb).1⟩⟩
    rcases hty with rfl | rfl
    · exact wpAny_pyNext_ascii_item st hx fin
    · exact wpAny_pyNext_wide_item st hx fin
  done := by
    intro X hP hw hK hc i pins s σ H E I hf st hg
    subst hP hw hK
    obtain ⟨f0, f1, f2, f3, f4, f5⟩ := hf it (by simp)
    have hle : z.cps.size ≤ i := hg
    have hx : z.cps[i]? = none := by simp [hle]
    have fin : ∀ h' : Heap, Heap.ExtBut it s.heap h' → (none : Option Value) = none ∧ Inv X pins σ H { s with heap := h' } := fun h' eb => ⟨rfl, I.turned (t' := s.toks) (fun b o hb e => eb b o hb e) f0 f1 f3 f4 f5⟩
    rcases hty with rfl | rfl
    · exact wpAny_pyNext_ascii_end (I.ok.hd hc) st hx fin
    · exact wpAny_pyNext_wide_end (I.ok.hd hc) st hx fin
  self := fun _ _ _ _ _ st h => by
    rcases hty with rfl | rfl
    · exact wpAny_pyIter_striter_ascii st h
    · exact wpAny_pyIter_striter_wide st h
def iStr (tl : TE) : TI := fun σ H R => tl σ H fun x H1 => ∃ z, x = .str z ∧ R (Its z) H1
theorem pi_str {X : Cx} {tg l : Expr} {tl : TE} (hl : PE X l tl) : PI X tg l (iStr tl) := by
  intro pins s σ H R I h
  refine thn (hl pins s σ H _ I h) fun v s1 ⟨x, H1, I1, r1, q1⟩ => ?_
  obtain ⟨z, e, q⟩ := q1
  subst e
  obtain ⟨t, rfl⟩ := r1
  have fin : ∀ (ty : String), (ty = "str_ascii_iterator" ∨ ty = "str_iterator") → PIE X pins σ tg R (.ref s1.heap.objs.size) { s1 with heap := s1.heap.push { cls := .type ty, data := .fields #[.str z t, .int 0 0] } } := fun ty hty =>
    ⟨s1.heap.objs.size, [s1.heap.objs.size], _, _, H1, rfl, I1.kept (t' := s1.toks) fun b o e => Heap.get?_push_of_some _ e, turn_str _ z t ty hty, ⟨_, Heap.get?_push_size _ rfl, rfl, rfl⟩, fun b hb => by
      have e : b = s1.heap.objs.size := by simpa using hb
      subst e
      exact I1.fpOk (Nat.le_refl _) (I1.hok.fresh (Nat.le_refl _)), q⟩
  cases ha : z.cps.all (· < 128)
  · exact wpAny_pyIter_wide ha (fin _ (.inr rfl))
  · exact wpAny_pyIter_ascii ha (fin _ (.inl rfl))
theorem call_isT {X : Cx} : CallR X (.builtin "isinstance") (fun xs H Q => ∃ x n t b, xs = [x, .ty n] ∧ TyOf X.K H x t ∧ PySem.W.kitOne X.K t (.type n) = some b ∧ Q (.bl b) H) := by
  intro pins s σ H xs us Q I rv h
  obtain ⟨x, n, t, b, rfl, ty, e, q⟩ := h
  obtain ⟨u, c, rfl, rx, rc⟩ := rv.two
  cases (show c = Value.type n from rc)
  exact isinst_ok I rx ty e fun tk => ⟨.bl b, H, I.tok tk, rfl, q⟩
inductive Alike (K : PySem.W.Frag) (H : Hp) : Nat → V → V → Prop
  | flat {n : Nat} {x : V} (fx : flatV x = true) : Alike K H n x x
  | same {n : Nat} {a : Addr} : Alike K H n (.ref a) (.ref a)
  | lists {n : Nat} {a b : Addr} {xs ys : List V} (hx : SqL K H a xs) (hy : SqL K H b ys) (hl : xs.length = ys.length) (he : ∀ (i : Nat) (x y : V), xs[i]? = some x → ys[i]? = some y → Alike K H n x y) : Alike K H (n + 1) (.ref a) (.ref b)
  | tups {n : Nat} {a b : Addr} {xs ys : List V} (hx : SqT K H a xs) (hy : SqT K H b ys) (hl : xs.length = ys.length) (he : ∀ (i : Nat) (x y : V), xs[i]? = some x → ys[i]? = some y → Alike K H n x y) : Alike K H (n + 1) (.ref a) (.ref b)
theorem eqV_refl {x : V} (h : flatV x = true) : eqV x x = true := by
  cases x <;> simp [eqV] <;> simp [flatV] at h
section
variable {X : Cx} {pins : List (Addr × Obj)} {σ : St} {H : Hp} {s : Shared}
theorem all_true (n : Nat) : (List.range n).all (fun _ => true) = true := by simp
theorem alike_at (I : Inv X pins σ H s) {n : Nat} {x y : V} (h : Alike X.K H n x y) : ∀ {u v : Value} {A : Around}, RelV x u → RelV y v → A.units + n < cLine → SeqAt.EqAt A s u v true := by
  induction h with
  | flat fx =>
    intro u v A ru rv _
    have q := eqAt_V (A := A) (s := s) ru rv fx fx
    rwa [eqV_refl fx] at q
  | same =>
    intro u v A ru rv _
    cases ru
    cases rv
    exact SeqAt.EqAt.same _
  | @lists n a b xs ys hx hy hl he ih =>
    intro u v A ru rv hu
    cases ru
    cases rv
    by_cases ab : a = b
    · subst ab; exact SeqAt.EqAt.same _
    · obtain ⟨its, r, pl, hz⟩ := I.list hx
      obtain ⟨its2, r2, pl2, hz2⟩ := I.list hy
      have e1 := r.length
      have e2 := r2.length
      have q := SeqAt.RcAt.lists (A := A) (s := s) (e := fun _ => true) pl.isList pl2.isList (by rw [List.size_toArray, List.size_toArray]; omega) (by omega) (fun j h1 h2 => by
        rw [List.size_toArray] at h1 h2
        have hjx : xs[j]? = some (xs[j]'(by omega)) := by simp
        have hjy : ys[j]? = some (ys[j]'(by omega)) := by simp
        obtain ⟨u1, q1, ru1⟩ := r.get hjx
        obtain ⟨v1, q2, rv1⟩ := r2.get hjy
        have e3 : its.toArray[j] = u1 := by
          have : its[j]? = some its[j] := by simp
          rw [this] at q1; simpa using q1
        have e4 : its2.toArray[j] = v1 := by
          have : its2[j]? = some its2[j] := by simp
          rw [this] at q2; simpa using q2
        rw [e3, e4]
        exact ih j _ _ hjx hjy ru1 rv1 (by show A.units + 1 + n < cLine; omega))
      rw [all_true] at q
      exact SeqAt.EqAt.of_refs ab q
  | @tups n a b xs ys hx hy hl he ih =>
    intro u v A ru rv hu
    cases ru
    cases rv
    by_cases ab : a = b
    · subst ab; exact SeqAt.EqAt.same _
    · obtain ⟨its, r, pl, hz⟩ := I.tuple hx
      obtain ⟨its2, r2, pl2, hz2⟩ := I.tuple hy
      have e1 := r.length
      have e2 := r2.length
      have q := SeqAt.RcAt.tuples (A := A) (s := s) (e := fun _ => true) (show s.heap.IsTuple a its.toArray from pl) (show s.heap.IsTuple b its2.toArray from pl2) (by omega) (fun j h1 h2 => by
        rw [List.size_toArray] at h1 h2
        have hjx : xs[j]? = some (xs[j]'(by omega)) := by simp
        have hjy : ys[j]? = some (ys[j]'(by omega)) := by simp
        obtain ⟨u1, q1, ru1⟩ := r.get hjx
        obtain ⟨v1, q2, rv1⟩ := r2.get hjy
        have e3 : its.toArray[j] = u1 := by
          have : its[j]? = some its[j] := by simp
          rw [this] at q1; simpa using q1
        have e4 : its2.toArray[j] = v1 := by
          have : its2[j]? = some its2[j] := by simp
          rw [this] at q2; simpa using q2
        rw [e3, e4]
        exact ih j _ _ hjx hjy ru1 rv1 (by show A.units + 1 + n < cLine; omega))
      rw [all_true, Bool.true_and, List.size_toArray, List.size_toArray, ← e1, ← e2, hl, beq_self_eq_true] at q
      exact SeqAt.EqAt.of_refs ab q
end
section
variable {X : Cx}
end
end L2
set_option Elab.async false
set_option linter.all false
namespace SM
open PySem PySem.StrLaws PySem.Builtin PySem.Builtin.Str
end SM
set_option Elab.async false
set_option linter.all false
set_option maxRecDepth 100000
set_option maxHeartbeats 4000000
namespace L2
open PySem PySem.Spec PyProof.Rows
structure Cal (P : Program) (w : World) (K : PySem.W.Frag) (mg : Str → Option Value) (base : Heap) (x : Str) (k : Nat) (ps : List Str) (sp : Sp) : Prop where
  to : ∃ (f : Addr) (fd : FuncData), mg x = some (.ref f) ∧ PySem.W.keepIn K (.ref f) = true ∧ Binds K fd ps [] ∧ FnOk P w K mg base CX0 k f fd ps sp
theorem pe_callC {X : Cx} {x : Str} {k : Nat} {ps : List Str} {sp : Sp} {e : Expr} {es : List Expr} {p pos : Pos} {t : TA} (C : Cal X.prog X.w X.K X.mg X.base x k ps sp) (hr : Room k X.A) (hg : Gl X x) (ha : PA X (e :: es) t)
    (hdb : (x == ("__debug__" : Str)) = false := by decide) (he : starEach (e :: es) X.env = (false, eval e X.env) :: starEach es X.env := by rfl) (hpl : (backTo pos (starEach es X.env)).any (·.1) = false := by rfl) :
    PE X (.Call (.Name x p) (e :: es) [] pos) (tCall sp [] E0 t) := by
  obtain ⟨f, fd, h1, h2, h3, h4⟩ := C.to
  exact pe_call h4 hr hg h1 h2 h3 .nil pass0 ha hdb he hpl
theorem bo_max : bootBuiltins "max" = some (.builtin "max") := by decide +kernel
theorem bo_min : bootBuiltins "min" = some (.builtin "min") := by decide +kernel
theorem bo_isinstance : bootBuiltins "isinstance" = some (.builtin "isinstance") := by decide +kernel
theorem bo_len : bootBuiltins "len" = some (.builtin "len") := by decide +kernel
theorem bo_int : bootBuiltins "int" = some (.type "int") := by decide +kernel
theorem bo_list : bootBuiltins "list" = some (.type "list") := by decide +kernel
theorem bo_dict : bootBuiltins "dict" = some (.type "dict") := by decide +kernel
theorem bo_bool : bootBuiltins "bool" = some (.type "bool") := by decide +kernel
def Fre (H : Hp) (l : Addr) : Prop := H l = none
def Kp (M : List Addr) (H H' : Hp) : Prop := ∀ b o, H b = some o → b ∉ M → H' b = some o
theorem Kp.refl {M : List Addr} {H : Hp} : Kp M H H := fun _ _ h _ => h
theorem Kp.trans {M : List Addr} {H H1 H2 : Hp} (a : Kp M H H1) (b : Kp M H1 H2) : Kp M H H2 := fun c o h n => b c o (a c o h n) n
theorem Kp.weak {M M' : List Addr} {H H' : Hp} (k : Kp M H H') (s : ∀ b, b ∈ M → b ∈ M') : Kp M' H H' := fun b o h n => k b o h fun z => n (s b z)
theorem Kp.new {M : List Addr} {H H' : Hp} {l : Addr} {o : HO} (k : Kp M H H') (f : Fre H l) : Kp M H (upd H' l o) := fun b u h n => by
  rw [upd_ne (ne_of_none h f)]; exact k b u h n
theorem Kp.put {M : List Addr} {H H' : Hp} {l : Addr} {o : HO} (k : Kp M H H') (f : l ∈ M) : Kp M H (upd H' l o) := fun b u h n => by
  rw [upd_ne (by intro e; subst e; exact n f)]; exact k b u h n
theorem Kp.at0 {H H' : Hp} (k : Kp [] H H') : Same H H' := fun b o h => k b o h (by simp)
theorem Kp.seq {K : PySem.W.Frag} {H H' : Hp} {a : Addr} {xs : List V} (e : Kp [] H H') (h : SqL K H a xs) : SqL K H' a xs := e.at0.seq h
theorem ne_fre {H : Hp} {a b : Addr} {o : HO} (f : Fre H b) (h : H a = some o) : a ≠ b := ne_of_none h f
theorem nm1 {a b : Addr} (h : a ≠ b) : a ∉ [b] := by simpa using h
theorem atI_at {α : Type} {xs : List α} {i : Int} {v : α} (h0 : 0 ≤ i) (h : xs[i.toNat]? = some v) : atI xs i = some v := by
  have hl : i.toNat < xs.length := (List.getElem?_eq_some_iff.mp h).1
  unfold atI ixN
  rw [if_pos h0, if_pos (by omega)]
  exact h
end L2
namespace L2
open PySem PySem.Spec PyProof.Rows
theorem hu2 {A : Around} {k n : Nat} (hr : Room k A) (h : n ≤ 60 := by decide) : A.units + 1 + n < cLine := by
  have := hr.units
  omega
theorem kit_same {K : PySem.W.Frag} {t : Value} (h : (t == t) = true := by rfl) : PySem.W.kitOne K t t = some true := by
  unfold PySem.W.kitOne; rw [if_pos h]
end L2
namespace L2
open PySem PySem.Spec PyProof.Rows
theorem if_mid {tb : TS} {D : Ends} {σ : St} {H : Hp} {b : Bool} (Mid : St → Hp → Prop) (h1 : ∀ N : St → Hp → Prop, (∀ σ H, Mid σ H → N σ H) → if b = true then tb { D with nx := N } σ H else N σ H) (h2 : ∀ σ H, Mid σ H → D.nx σ H) :
    if b = true then tb D σ H else tNext D σ H := h1 D.nx h2
end L2
namespace L2
open PySem PySem.Spec PyProof.Rows
theorem comp_list {K : PySem.W.Frag} {a : Addr} {ix : List (Option Nat)} {g : TG} {tt : TT} {te : TE} {QD : Hp → Prop} {σ : St} {H1 : Hp} {D : Addr} (xs : List V) (Pv : Nat → List V → St → Hp → Prop) (h0 : Pv 0 [] (blkSt σ ix) (upd H1 D (.lst [])))
    (hl : ∀ i ys τ H, Pv i ys τ H → SqL K H a xs)
    (hs : ∀ i x ys τ H, xs[i]? = some x → Pv i ys τ H → g x τ H fun τ' H4 => tt τ' H4 fun b H5 => if b = true then te τ' H5 fun v H6 => H6 D = some (.lst ys) ∧ ys.length < sizeLine ∧ Pv (i + 1) (ys ++ [v]) τ' (upd H6 D (.lst (ys ++ [v]))) else Pv (i + 1) ys τ' H5)
    (hd : ∀ ys τ H, Pv xs.length ys τ H → QD H) :
    ∃ W : Nat → Nat → List V → St → Hp → Prop, (∃ m, W 0 m [] (blkSt σ ix) (upd H1 D (.lst []))) ∧ ∀ i m ys τ H2, W i m ys τ H2 →
      ((Itl K a).stop i H2 ∧ QD H2) ∨ ((Itl K a).go i H2 ∧ ∃ N : List V → St → Hp → Prop, (∀ ys' τ' H', N ys' τ' H' → ∃ m', m' < m ∧ W (i + 1) m' ys' τ' H') ∧ ∀ x H3, (Itl K a).yld i H2 x H3 → g x τ H3 fun τ' H4 => tt τ' H4 fun b H5 =>
        if b = true then te τ' H5 fun v H6 => H6 D = some (.lst ys) ∧ ys.length < sizeLine ∧ N (ys ++ [v]) τ' (upd H6 D (.lst (ys ++ [v])))
        else N ys τ' H5) := by
  refine comp_by (Q := fun _ H => QD H) xs Pv h0 (fun i ys τ H p => ⟨fun x hx => ⟨⟨xs, x, hl i ys τ H p, hx⟩, fun y H' yl => ?_⟩, fun e => ⟨xs, hl i ys τ H p, by omega⟩⟩) hs hd
  obtain ⟨e, z⟩ := yl
  subst e
  have := z xs (hl i ys τ _ p)
  rw [hx] at this
  exact ⟨rfl, (Option.some.inj this).symm⟩
theorem comp_range {lo : Int} {n : Nat} {ix : List (Option Nat)} {g : TG} {tt : TT} {te : TE} {QD : Hp → Prop} {σ : St} {H1 : Hp} {D : Addr} (Pv : Nat → List V → St → Hp → Prop) (h0 : Pv 0 [] (blkSt σ ix) (upd H1 D (.lst [])))
    (hs : ∀ i ys τ H, i < n → Pv i ys τ H → g (.int (lo + i)) τ H fun τ' H4 => tt τ' H4 fun b H5 => if b = true then te τ' H5 fun v H6 => H6 D = some (.lst ys) ∧ ys.length < sizeLine ∧ Pv (i + 1) (ys ++ [v]) τ' (upd H6 D (.lst (ys ++ [v]))) else Pv (i + 1) ys τ' H5)
    (hd : ∀ ys τ H, Pv n ys τ H → QD H) :
    ∃ W : Nat → Nat → List V → St → Hp → Prop, (∃ m, W 0 m [] (blkSt σ ix) (upd H1 D (.lst []))) ∧ ∀ i m ys τ H2, W i m ys τ H2 →
      ((Itr lo n).stop i H2 ∧ QD H2) ∨ ((Itr lo n).go i H2 ∧ ∃ N : List V → St → Hp → Prop, (∀ ys' τ' H', N ys' τ' H' → ∃ m', m' < m ∧ W (i + 1) m' ys' τ' H') ∧ ∀ x H3, (Itr lo n).yld i H2 x H3 → g x τ H3 fun τ' H4 => tt τ' H4 fun b H5 =>
        if b = true then te τ' H5 fun v H6 => H6 D = some (.lst ys) ∧ ys.length < sizeLine ∧ N (ys ++ [v]) τ' (upd H6 D (.lst (ys ++ [v])))
        else N ys τ' H5) := by
  refine ⟨fun i m ys τ H => m = n - i ∧ i ≤ n ∧ Pv i ys τ H, ⟨n, by simp, Nat.zero_le _, h0⟩, ?_⟩
  rintro i m ys τ H ⟨rfl, hi, p⟩
  by_cases hlt : i < n
  · refine .inr ⟨hlt, Pv (i + 1), fun ys' τ' H' p' => ⟨n - (i + 1), by omega, rfl, hlt, p'⟩, fun y H' yd => ?_⟩
    obtain ⟨e1, e2⟩ := yd
    subst e1 e2
    exact hs i ys τ _ hlt p
  · have e : i = n := by omega
    subst e
    exact .inl ⟨Nat.le_refl _, hd ys τ H p⟩
theorem comp_str {z : Str} {ix : List (Option Nat)} {g : TG} {tt : TT} {te : TE} {QD : Hp → Prop} {σ : St} {H1 : Hp} {D : Addr} (Pv : Nat → List V → St → Hp → Prop) (h0 : Pv 0 [] (blkSt σ ix) (upd H1 D (.lst [])))
    (hs : ∀ i c ys τ H, z.cps.toList[i]? = some c → Pv i ys τ H → g (.str ⟨#[c]⟩) τ H fun τ' H4 => tt τ' H4 fun b H5 => if b = true then te τ' H5 fun v H6 => H6 D = some (.lst ys) ∧ ys.length < sizeLine ∧ Pv (i + 1) (ys ++ [v]) τ' (upd H6 D (.lst (ys ++ [v]))) else Pv (i + 1) ys τ' H5)
    (hd : ∀ ys τ H, Pv z.length ys τ H → QD H) :
    ∃ W : Nat → Nat → List V → St → Hp → Prop, (∃ m, W 0 m [] (blkSt σ ix) (upd H1 D (.lst []))) ∧ ∀ i m ys τ H2, W i m ys τ H2 →
      ((Its z).stop i H2 ∧ QD H2) ∨ ((Its z).go i H2 ∧ ∃ N : List V → St → Hp → Prop, (∀ ys' τ' H', N ys' τ' H' → ∃ m', m' < m ∧ W (i + 1) m' ys' τ' H') ∧ ∀ x H3, (Its z).yld i H2 x H3 → g x τ H3 fun τ' H4 => tt τ' H4 fun b H5 =>
        if b = true then te τ' H5 fun v H6 => H6 D = some (.lst ys) ∧ ys.length < sizeLine ∧ N (ys ++ [v]) τ' (upd H6 D (.lst (ys ++ [v])))
        else N ys τ' H5) := by
  refine ⟨fun i m ys τ H => m = z.length - i ∧ i ≤ z.length ∧ Pv i ys τ H, ⟨z.length, by simp, Nat.zero_le _, h0⟩, ?_⟩
  rintro i m ys τ H ⟨rfl, hi, p⟩
  by_cases hlt : i < z.length
  · refine .inr ⟨hlt, Pv (i + 1), fun ys' τ' H' p' => ⟨z.length - (i + 1), by omega, rfl, hlt, p'⟩, fun y H' yd => ?_⟩
    obtain ⟨e1, c, e2, e3⟩ := yd
    subst e1 e3
    exact hs i c ys τ _ (by simpa using e2) p
  · have e : i = z.length := by omega
    subst e
    exact .inl ⟨Nat.le_refl _, hd ys τ H p⟩
theorem comp_list0 {K : PySem.W.Frag} {a : Addr} {ix : List (Option Nat)} {g : TG} {te : TE} {QD : Hp → Prop} {σ : St} {H1 : Hp} {D : Addr} (xs : List V) (Pv : Nat → List V → St → Hp → Prop) (h0 : Pv 0 [] (blkSt σ ix) (upd H1 D (.lst [])))
    (hl : ∀ i ys τ H, Pv i ys τ H → SqL K H a xs)
    (hs : ∀ i x ys τ H, xs[i]? = some x → Pv i ys τ H → g x τ H fun τ' H4 => te τ' H4 fun v H6 => H6 D = some (.lst ys) ∧ ys.length < sizeLine ∧ Pv (i + 1) (ys ++ [v]) τ' (upd H6 D (.lst (ys ++ [v]))))
    (hd : ∀ ys τ H, Pv xs.length ys τ H → QD H) :
    ∃ W : Nat → Nat → List V → St → Hp → Prop, (∃ m, W 0 m [] (blkSt σ ix) (upd H1 D (.lst []))) ∧ ∀ i m ys τ H2, W i m ys τ H2 →
      ((Itl K a).stop i H2 ∧ QD H2) ∨ ((Itl K a).go i H2 ∧ ∃ N : List V → St → Hp → Prop, (∀ ys' τ' H', N ys' τ' H' → ∃ m', m' < m ∧ W (i + 1) m' ys' τ' H') ∧ ∀ x H3, (Itl K a).yld i H2 x H3 → g x τ H3 fun τ' H4 => tTrue τ' H4 fun b H5 =>
        if b = true then te τ' H5 fun v H6 => H6 D = some (.lst ys) ∧ ys.length < sizeLine ∧ N (ys ++ [v]) τ' (upd H6 D (.lst (ys ++ [v])))
        else N ys τ' H5) := comp_list (tt := tTrue) xs Pv h0 hl hs hd
end L2
namespace L2
open PySem PySem.Spec PyProof.Rows
section
variable {X : Cx} {K : PySem.W.Frag}
theorem call_list_ofK (hK : X.K = K := by rfl) : CallR X (.type "list") (fun xs H Q => ∃ p ys, xs = [.ref p] ∧ (SqL K H p ys ∨ SqT K H p ys) ∧ ∀ l, H l = none → Q (.ref l) (upd H l (.lst ys))) := by subst hK; exact call_list_of
theorem op_notIn_seqK (hK : X.K = K := by rfl) : OpR X (compareOp .NotIn) (rIn K true) := by subst hK; exact op_notIn_seq
end
end L2
namespace L2
open PySem PySem.Spec PyProof.Rows
end L2
set_option Elab.async false
set_option linter.all false
set_option maxRecDepth 100000
set_option maxHeartbeats 4000000
namespace Tim
open PySem PyProof.Rows
section
variable {prog : Program} {w : World} {A : Around} {E : Value → Shared → Prop} {s : Shared} {kd : SortKind} {κ : KeyKind}
end
end Tim
set_option Elab.async false
set_option linter.all false
set_option maxRecDepth 100000
set_option maxHeartbeats 4000000
namespace Tim
open PySem PyProof.Rows
section
variable {κ : KeyKind}
section
variable {a b out : Array Keyed} {ia ib : Nat}
end
end
section
variable {prog : Program} {w : World} {A : Around} {E : Value → Shared → Prop} {s : Shared} {kd : SortKind} {κ : KeyKind} {a b : Array Keyed}
end
end Tim
set_option Elab.async false
set_option linter.all false
set_option maxRecDepth 100000
set_option maxHeartbeats 4000000
namespace Tim
open PySem PyProof.Rows
section
variable {κ : KeyKind}
section
variable {a b out : Array Keyed} {na nb : Nat}
end
end
section
variable {prog : Program} {w : World} {A : Around} {E : Value → Shared → Prop} {s : Shared} {kd : SortKind} {κ : KeyKind} {a b : Array Keyed}
end
end Tim
set_option Elab.async false
set_option linter.all false
set_option maxRecDepth 100000
set_option maxHeartbeats 4000000
namespace Tim
open PySem PyProof.Rows
section
variable {prog : Program} {w : World} {A : Around} {E : Value → Shared → Prop} {s : Shared} {kd : SortKind} {κ : KeyKind}
end
end Tim
set_option Elab.async false
set_option linter.all false
set_option maxRecDepth 100000
set_option maxHeartbeats 4000000
namespace Tim
open PySem PyProof.Rows
section
variable {prog : Program} {w : World} {A : Around} {E : Value → Shared → Prop} {s : Shared} {kd : SortKind} {κ : KeyKind}
end
end Tim
set_option Elab.async false
set_option linter.all false
set_option maxRecDepth 100000
set_option maxHeartbeats 4000000
namespace Tim
open PySem PyProof.Rows
section
variable {prog : Program} {w : World} {A : Around} {E : Value → Shared → Prop} {s : Shared} {kd : SortKind} {κ : KeyKind} {a₀ : Array Keyed}
end
end Tim
set_option Elab.async false
set_option linter.all false
set_option maxRecDepth 100000
set_option maxHeartbeats 4000000
namespace ST
open PySem PySem.SetTable
end ST
set_option Elab.async false
set_option linter.all false
set_option maxRecDepth 100000
set_option maxHeartbeats 4000000
namespace ST
open PySem PySem.SetTable
section
variable {t : SetTable} {hs : List Int}
end
end ST
set_option Elab.async false
set_option linter.all false
set_option maxRecDepth 100000
set_option maxHeartbeats 4000000
namespace ST
open PySem PySem.SetTable
end ST
set_option Elab.async false
set_option linter.all false
set_option maxRecDepth 100000
set_option maxHeartbeats 4000000
namespace ST
open PySem PySem.SetTable
section
variable {prog : Program} {w : World} {K : Type} [DecidableEq K] {knd : KeyKind prog w K} {A : Around} {E : Value → Shared → Prop} {s : Shared}
end
end ST
set_option Elab.async false
set_option linter.all false
set_option maxRecDepth 100000
set_option maxHeartbeats 4000000
namespace ST
open PySem PySem.SetTable
section
variable {prog : Program} {w : World} {K : Type} [DecidableEq K] {knd : KeyKind prog w K} {A : Around} {E : Value → Shared → Prop} {s : Shared}
section
variable {a : Addr} {xs : List (List K × Addr)} {o : Obj} {es : Array (Int × Value)} {ep : Nat} {t : SetTable}
end
end
end ST
set_option Elab.async false
set_option linter.all false
set_option maxRecDepth 100000
set_option maxHeartbeats 4000000
namespace ST
open PySem PySem.SetTable
section
variable {prog : Program} {w : World} {K : Type} [DecidableEq K] {knd : KeyKind prog w K} {A : Around} {E : Value → Shared → Prop} {s : Shared}
variable {a : Addr} {xs : List (List K × Addr)} {o : Obj} {es : Array (Int × Value)} {ep : Nat} {t : SetTable}
end
end ST
set_option Elab.async false
set_option linter.all false
set_option maxRecDepth 100000
set_option maxHeartbeats 4000000
namespace ST
open PySem PySem.SetTable PyProof.Rows
section
variable {prog : Program} {w : World} {K : Type} [DecidableEq K] {knd : KeyKind prog w K} {A : Around} {E : Value → Shared → Prop} {s : Shared}
variable {a : Addr} {xs : List (List K × Addr)} {o : Obj} {es : Array (Int × Value)} {ep : Nat} {t : SetTable}
end
section
variable {prog : Program} {w : World} {K : Type} [DecidableEq K] {knd : KeyKind prog w K} {A : Around} {R : Result → Shared → Prop} {I : Addr} {fp wr : List Addr} {G : Array GenState → Array GenState → Prop} {P : Nat → Value → Prop} {St : Nat → Shared → Prop}
end
section
variable {prog : Program} {w : World} {K : Type} [DecidableEq K] {knd : KeyKind prog w K} {A : Around} {E : Value → Shared → Prop} {s : Shared}
end
end ST
set_option Elab.async false
set_option linter.all false
set_option maxRecDepth 100000
set_option maxHeartbeats 4000000
namespace ST
open PySem PySem.SetTable PyProof.Rows
section
variable {prog : Program} {w : World} {K : Type} [DecidableEq K] {knd : KeyKind prog w K} {A : Around} {E : Value → Shared → Prop}
end
end ST
set_option Elab.async false
set_option linter.all false
set_option maxRecDepth 100000
set_option maxHeartbeats 4000000
namespace ST
open PySem PySem.SetTable PyProof.Rows
section
variable {prog : Program} {w : World} {K : Type} [DecidableEq K] {knd : KeyKind prog w K} {A : Around} {E : Value → Shared → Prop} {s : Shared}
variable {a I : Addr} {xs : List (List K × Addr)} {o oI : Obj} {es : Array (Int × Value)} {ep i : Nat} {t : SetTable} {ord : List Value} {first : Value}
end
end ST
set_option Elab.async false
set_option linter.all false
set_option maxRecDepth 100000
set_option maxHeartbeats 4000000
namespace ST
open PySem PySem.SetTable PyProof.Rows
section
variable {prog : Program} {w : World} {K : Type} [DecidableEq K] {knd : KeyKind prog w K} {A : Around} {E : Value → Shared → Prop} {s : Shared}
variable {a I : Addr} {xs : List (List K × Addr)} {o oI : Obj} {es : Array (Int × Value)} {ep i : Nat} {t : SetTable} {ord : List Value} {first : Value}
end
end ST
set_option Elab.async false
set_option linter.all false
set_option maxRecDepth 100000
set_option maxHeartbeats 4000000
namespace ST
open PySem PyProof.Rows PySem.W
section
variable {prog : Program} {w : World} {A : Around} {E : Value → Shared → Prop} {s : Shared}
end
end ST
set_option Elab.async false
set_option linter.all false
set_option maxRecDepth 100000
set_option maxHeartbeats 4000000
namespace ST
open PySem PyProof.Rows PySem.W
section
variable {prog : Program} {w : World} {A : Around} {E : Value → Shared → Prop} {s : Shared}
end
end ST
set_option Elab.async false
set_option linter.all false
set_option maxRecDepth 100000
set_option maxHeartbeats 4000000
namespace ST
open PySem PyProof.Rows PySem.W
section
variable {prog : Program} {w : World} {A : Around} {E : Value → Shared → Prop} {s : Shared}
end
section
variable {prog : Program} {w : World} {A : Around} {E : Value → Shared → Prop} {s : Shared}
end
end ST
set_option Elab.async false
set_option linter.all false
set_option maxRecDepth 100000
set_option maxHeartbeats 4000000
namespace L2
open PySem PySem.Spec PyProof.Rows
section
variable {X : Cx} {pins : List (Addr × Obj)} {σ : St} {H : Hp} {s : Shared}
end
end L2
set_option Elab.async false
set_option linter.all false
set_option maxRecDepth 100000
set_option maxHeartbeats 4000000
namespace ST
section
open PySem PyProof.Rows
variable {prog : Program} {w : World} {A : Around} {s : Shared}
end
end ST
namespace L2
open PySem PySem.Spec PyProof.Rows
section
variable {X : Cx} {pins : List (Addr × Obj)} {σ : St} {H : Hp} {s : Shared}
end
end L2
set_option Elab.async false
set_option linter.all false
set_option maxRecDepth 100000
set_option maxHeartbeats 4000000
namespace L2
open PySem PySem.Spec PyProof.Rows
section
variable {X : Cx}
def rInsert : V → List V → Hp → VK → Prop := fun x vs H Q => ∃ l xs i y, x = .ref l ∧ vs = [.int i, y] ∧ H l = some (.lst xs) ∧ xs.length < sizeLine ∧ 0 ≤ i ∧ i ≤ xs.length ∧ Q .non (upd H l (.lst (xs.take i.toNat ++ y :: xs.drop i.toNat)))
theorem mt_insert : MtM X "list.insert" rInsert := by
  intro pins s σ H x vs v us Q I rx rv h
  obtain ⟨l, xs, i, y, rfl, rfl, hH, hz, h0, h1, q⟩ := h
  cases rx
  obtain ⟨u1, u, rfl, r1, ru⟩ := rv.two
  obtain ⟨t, rfl⟩ := r1
  obtain ⟨z, its, n, r, hl, e⟩ := I.lstM hH
  have hsl : sizeLine < 2 ^ 62 := by decide +kernel
  have hfit : ¬ (!Builtin.List.listFitsIndex i) = true := by
    unfold Builtin.List.listFitsIndex
    have a1 : -(2 ^ 63 : Int) ≤ i := by omega
    have a2 : i < 2 ^ 63 := by omega
    rw [decide_eq_true a1, decide_eq_true a2]; decide
  refine call_meets F.slot_list_insert ⟨_, e, rfl⟩ F.entry_list_insert (F.args_list_insert_3 _ _ _) (PySem.AutoListH.list_insert_list_int_val_1 l its.toArray n i t u hfit (by rw [List.size_toArray]; omega)) ⟨e, ?_⟩
  refine ⟨.non, _, I.lset (its' := its.take i.toNat ++ u :: its.drop i.toNat) hH e ?_ ((r.take _).append (.cons ru (r.drop _))) ?_, rfl, q⟩
  · have hk : (if i < 0 then (i + ((its.toArray.size : Nat) : Int)).toNat else min i.toNat its.toArray.size) = i.toNat := by
      rw [if_neg (by omega), List.size_toArray]; omega
    show (its.toArray.extract 0 _).push u ++ its.toArray.extract _ = _
    rw [hk]
    apply Array.ext'
    rw [Array.toList_append, Array.toList_push, Array.toList_extract, Array.toList_extract, List.append_assoc]
    simp [List.extract_eq_drop_take, List.take_of_length_le]
  · rw [List.length_append, List.length_cons, List.length_take, List.length_drop]
    omega
end
end L2
set_option Elab.async false
set_option linter.all false
set_option maxRecDepth 100000
set_option maxHeartbeats 4000000
namespace L2
open PySem PySem.Spec PyProof.Rows
section
variable {X : Cx}
end
end L2
namespace L2
open PySem PySem.Spec PyProof.Rows
end L2
set_option Elab.async false
set_option linter.all false
set_option maxRecDepth 100000
set_option maxHeartbeats 4000000
namespace L2
open PySem PySem.Spec PyProof.Rows
theorem ints_of {ns : List Int} : ∀ {its : List Value}, Vals (ns.map V.int) its → ∃ xs : List (Int × Tok), its = (xs.map fun p => Value.int p.1 p.2) ∧ xs.map (·.1) = ns := by
  induction ns with
  | nil =>
    intro its r
    cases r
    exact ⟨[], rfl, rfl⟩
  | cons n ns ih =>
    intro its r
    cases r with
    | cons r1 r2 =>
      obtain ⟨t, rfl⟩ := r1
      obtain ⟨xs, rfl, e⟩ := ih r2
      exact ⟨(n, t) :: xs, rfl, by rw [List.map_cons, e]⟩
theorem numAt_of {xs : List (Int × Tok)} {i : Nat} (h : i < xs.length) : numAt xs.toArray i ∈ xs.map (·.1) ∧ (xs.map (·.1))[i]? = some (numAt xs.toArray i) := by
  have e : numAt xs.toArray i = (xs[i]).1 := by
    unfold numAt
    rw [List.getElem?_toArray, List.getElem?_eq_getElem h]; rfl
  rw [e]
  exact ⟨List.mem_map.mpr ⟨xs[i], List.getElem_mem h, rfl⟩, by rw [List.getElem?_map, List.getElem?_eq_getElem h]; rfl⟩
section
variable {X : Cx}
theorem call_max1 (hc : X.calm = true) : CallR X (.builtin "max") (fun xs H Q => ∃ (p : Addr) (ns : List Int), xs = [.ref p] ∧ SqL X.K H p (ns.map V.int) ∧ ns ≠ [] ∧ ∀ M, M ∈ ns → (∀ a ∈ ns, a ≤ M) → Q (.int M) H) := by
  intro pins s σ H xs us Q I rv h
  obtain ⟨p, ns, rfl, hq, hne, q⟩ := h
  obtain ⟨u, rfl, ru⟩ := rv.one
  cases ru
  obtain ⟨its, r, pl, hz⟩ := I.list hq
  obtain ⟨xs, rfl, e⟩ := ints_of r
  have hpos : 0 < xs.length := by
    have := List.length_pos_iff.mpr hne
    rw [← e, List.length_map] at this; exact this
  have hI : s.heap.IsList p (intItems xs.toArray) := by
    have := pl.isList
    rwa [show (xs.map fun p => Value.int p.1 p.2).toArray = intItems xs.toArray from by unfold intItems; simp] at this
  refine max_intList (I.ok.hd hc) hI (by simpa using hpos) fun v h' tk hv hk => ?_
  obtain ⟨t, rfl⟩ := intItems_at hv
  obtain ⟨b1, b2⟩ := argBest_gt (numAt xs.toArray) (xs.toArray.size - 1)
  rw [List.size_toArray] at b1 b2
  have hb : argBest (fun i j => decide (numAt xs.toArray i > numAt xs.toArray j)) (xs.length - 1) < xs.length := by omega
  refine ⟨.int _, H, I.kept (t' := tk) hk, ⟨t, rfl⟩, q _ ?_ fun a ha => ?_⟩
  · rw [← e, List.size_toArray]; exact (numAt_of hb).1
  · rw [← e] at ha
    obtain ⟨i, hi, rfl⟩ := List.mem_iff_getElem.mp ha
    rw [List.length_map] at hi
    have h1 := (numAt_of hi).2
    rw [List.getElem?_eq_getElem (by rw [List.length_map]; exact hi)] at h1
    rw [Option.some.inj h1, List.size_toArray]
    exact b2 i (by omega)
end
end L2
set_option Elab.async false
set_option linter.all false
set_option maxRecDepth 100000
set_option maxHeartbeats 4000000
namespace L2
open PySem PySem.Spec PyProof.Rows
section
variable {P : Program} {w : World} {A : Around} {E : Value → Shared → Prop} {s : Shared}
theorem enum_step {e it l : Addr} {c : Int} {i : Nat} {ys : Array Value} {x old : Value} {Q : Value → Shared → Prop} (he : IsEnum s.heap e it c old) (hi : s.heap.IsListIter it l i) (hl : s.heap.IsList l ys) (hx : ys[i]? = some x) (ne : e ≠ it)
    (q : ∀ k, IsEnumOut k e it (c + 1) x s.heap.objs.size → k.IsListIter it l (i + 1) → k.get? s.heap.objs.size = some { cls := .type "tuple", data := .seq #[.int c s.toks, x] } → k.objs.size = s.heap.objs.size + 1 →
      (∀ b o, b ≠ e → b ≠ it → s.heap.get? b = some o → k.get? b = some o) → Q (.ref s.heap.objs.size) { s with heap := k, toks := s.toks + 1 }) :
    wpAny (model P w) A (Builtin.«enumerate.__next__» ⟨[.ref e], []⟩) (fun r s' => ∃ v, r = .done (.ret v) ∧ Q v s') E s := by
  obtain ⟨h0, g, d, tk, os⟩ := s
  have esz : e < h0.objs.size := Heap.lt_size he
  show wpAny _ _ (field (Value.ref e) 2 >>= _) _ _ ⟨h0, g, d, tk, os⟩
  refine wpAny_bind (wpAny_field he rfl (x := Value.ref it) rfl ?_)
  refine wpAny_bind (wpAny_nextOf_list_item hi hl hx fun k1 i1 b1 => ?_)
  have b1 : Heap.SameBut it h0 k1 := b1
  have e1 : IsEnum k1 e it c old := (b1.2 e ne).trans he
  show wpAny _ _ (field (Value.ref e) 3 >>= _) _ _ ⟨k1, g, d, tk, os⟩
  refine wpAny_bind (wpAny_field (s := ⟨k1, g, d, tk, os⟩) e1 rfl (x := rawInt c) rfl ?_)
  show wpAny _ _ (field (Value.ref e) 4 >>= _) _ _ ⟨k1, g, d, tk, os⟩
  refine wpAny_bind (wpAny_field (s := ⟨k1, g, d, tk, os⟩) e1 rfl (x := Value.none) rfl ?_)
  show wpAny _ _ (mkInt c >>= _) _ _ ⟨k1, g, d, tk, os⟩
  refine wpAny_bind (wpAny_mkInt ?_)
  show wpAny _ _ (setField (Value.ref e) 3 (rawInt (c + 1)) >>= _) _ _ ⟨k1, g, d, tk + 1, os⟩
  refine wpAny_bind (wpAny_setField_rec (s := ⟨k1, g, d, tk + 1, os⟩) e1 (by simp) fun k2 e2 b2 => ?_)
  have b2 : Heap.SameBut e k1 k2 := b2
  have e2 : IsEnum k2 e it (c + 1) old := e2
  show wpAny _ _ (setField (Value.ref e) 4 Value.none >>= _) _ _ ⟨k2, g, d, tk + 1, os⟩
  refine wpAny_bind (wpAny_setField_rec (s := ⟨k2, g, d, tk + 1, os⟩) e2 (by simp) fun k3 e3 b3 => ?_)
  have b3 : Heap.SameBut e k2 k3 := b3
  have e3 : IsEnum k3 e it (c + 1) old := e3
  show wpAny _ _ (newTuple [Value.int c tk, x] >>= _) _ _ ⟨k3, g, d, tk + 1, os⟩
  refine wpAny_bind (wpAny_newTuple ?_)
  have z3 : k3.objs.size = h0.objs.size := b3.1.trans (b2.1.trans b1.1)
  have i3 : k3.IsListIter it l (i + 1) := (i1.extBut b2.extBut ne.symm).extBut b3.extBut ne.symm
  have t4 : (k3.push { cls := .type "tuple", data := .seq #[Value.int c tk, x] }).get? h0.objs.size = some { cls := .type "tuple", data := .seq #[Value.int c tk, x] } := by rw [← z3]; exact Heap.get?_push_size _ rfl
  have z4 : (k3.push { cls := .type "tuple", data := .seq #[Value.int c tk, x] }).objs.size = h0.objs.size + 1 := by rw [Heap.size_push, z3]
  have o4 : ∀ b o, b ≠ e → b ≠ it → h0.get? b = some o → (k3.push { cls := .type "tuple", data := .seq #[Value.int c tk, x] }).get? b = some o := fun b o n1 n2 y => Heap.get?_push_of_some _ (b3.extBut b o n1 (b2.extBut b o n1 (b1.extBut b o n2 y)))
  have i4 : (k3.push { cls := .type "tuple", data := .seq #[Value.int c tk, x] }).IsListIter it l (i + 1) := i3.at fun o y => Heap.get?_push_of_some _ y
  have e4 : IsEnum (k3.push { cls := .type "tuple", data := .seq #[Value.int c tk, x] }) e it (c + 1) old := Heap.get?_push_of_some _ e3
  show wpAny _ _ (Builtin.SmallTypes.ownedTupleIsFree (.ref e) >>= _) _ _ ⟨k3.push { cls := .type "tuple", data := .seq #[Value.int c tk, x] }, g, d, tk + 1, os⟩
  have z3' : (Shared.heap ⟨k3, g, d, tk + 1, os⟩).objs.size = h0.objs.size := z3
  rw [z3']
  generalize k3.push { cls := .type "tuple", data := .seq #[Value.int c tk, x] } = k4 at t4 z4 o4 i4 e4 ⊢
  refine wpAny_bind ?_
  unfold Builtin.SmallTypes.ownedTupleIsFree
  refine wpAny_bind (wpAny_field e4 rfl (x := Value.none) rfl (wpAny_pure ?_))
  simp only [if_true]
  refine wpAny_bind (wpAny_rule ?_)
  refine wpAny_bind (wpAny_field (s := ⟨k4, g, d, tk + 1, os⟩) e4 rfl (x := old) rfl ?_)
  refine wpAny_bind (wpAny_setField_rec (s := ⟨k4, g, d, tk + 1, os⟩) e4 (by simp) fun k5 e5 b5 => ?_)
  have b5 : Heap.SameBut e k4 k5 := b5
  have e5 : IsEnum k5 e it (c + 1) x := e5
  refine wpAny_bind ?_
  unfold Builtin.SmallTypes.ownedTupleHandOut
  refine wpAny_bind (wpAny_setField_rec (s := ⟨k5, g, d, tk + 1, os⟩) e5 (by simp) fun k6 e6 b6 => ?_)
  have b6 : Heap.SameBut e k5 k6 := b6
  have e6 : IsEnumOut k6 e it (c + 1) x h0.objs.size := e6
  refine wpAny_setField_rec (s := ⟨k6, g, d, tk + 1, os⟩) e6 (by simp) fun k7 e7 b7 => ?_
  have b7 : Heap.SameBut e k6 k7 := b7
  have e7 : IsEnumOut k7 e it (c + 1) x h0.objs.size := e7
  have on : ∀ b o, b ≠ e → k4.get? b = some o → k7.get? b = some o := fun b o n y => b7.extBut b o n (b6.extBut b o n (b5.extBut b o n y))
  refine wpAny_bind (wpAny_letGo (wpAny_pure ⟨_, rfl, q k7 e7 (i4.at fun o y => on it o ne.symm y) (on _ _ (Nat.ne_of_gt esz) t4) (by rw [b7.1, b6.1, b5.1, z4]) fun b o n1 n2 y => on b o n1 (o4 b o n1 n2 y)⟩))
theorem enum_next {e it l : Addr} {c : Int} {i : Nat} {ys : Array Value} {x old : Value} {Q : Option Value → Shared → Prop} (he : IsEnum s.heap e it c old) (hi : s.heap.IsListIter it l i) (hl : s.heap.IsList l ys) (hx : ys[i]? = some x) (ne : e ≠ it)
    (q : ∀ k, IsEnumOut k e it (c + 1) x s.heap.objs.size → k.IsListIter it l (i + 1) → k.get? s.heap.objs.size = some { cls := .type "tuple", data := .seq #[.int c s.toks, x] } → k.objs.size = s.heap.objs.size + 1 →
      (∀ b o, b ≠ e → b ≠ it → s.heap.get? b = some o → k.get? b = some o) → Q (some (.ref s.heap.objs.size)) { s with heap := k, toks := s.toks + 1 }) : wpAny (model P w) A (pyNext (.ref e)) Q E s := by
  have ty : s.TypeIs (.ref e) "enumerate" := ⟨_, he, rfl⟩
  unfold pyNext
  refine wpAny_bind (wpAny_attempt (wpAny_callSpecial?_slot (name := Str.ofString "__next__") ty F.slot_enumerate_next ?_))
  exact wpAny_call_entry F.slot_enumerate_next ty F.entry_enumerate_next (enum_step he hi hl hx ne fun k a b c d y => wpAny_pure (q k a b c d y)) (F.args_enumerate_next_1 _)
theorem enum_end {e it l : Addr} {c : Int} {i : Nat} {ys : Array Value} {old : Value} {Q : Option Value → Shared → Prop} (hh : A.handled = none) (he : IsEnum s.heap e it c old) (hi : s.heap.IsListIter it l i) (hl : s.heap.IsList l ys) (hx : ys[i]? = none)
    (q : ∀ k, Heap.ExtBut it s.heap k → Q none { s with heap := k }) : wpAny (model P w) A (pyNext (.ref e)) Q E s := by
  have ty : s.TypeIs (.ref e) "enumerate" := ⟨_, he, rfl⟩
  unfold pyNext
  refine wpAny_bind (wpAny_attempt (wpAny_callSpecial?_slot (name := Str.ofString "__next__") ty F.slot_enumerate_next ?_))
  refine wpAny_call_entry F.slot_enumerate_next ty F.entry_enumerate_next ?_ (F.args_enumerate_next_1 _)
  show wpAny _ _ (field (Value.ref e) 2 >>= _) _ _ s
  refine wpAny_bind (wpAny_field he rfl (x := Value.ref it) rfl ?_)
  refine wpAny_bind (wpAny_nextOf_list_end hh hi hl hx fun k y b ⟨o, ho, hc⟩ => ?_)
  exact wpAny_bind (wpAny_isInstance (T := "StopIteration") (b := true) ⟨o, ho, hc⟩ isSubtype_stop (wpAny_pure (q _ b)))
end
def Ite (K : PySem.W.Frag) (a : Addr) (lo : Int) : It :=
  ⟨fun i H => ∃ xs x, SqL K H a xs ∧ xs[i]? = some x, fun i H v H' => ∃ t x, v = .ref t ∧ H t = none ∧ H' = upd H t (.tup [.int (lo + i), x]) ∧ ∀ xs, SqL K H a xs → xs[i]? = some x, fun i H => ∃ xs, SqL K H a xs ∧ xs.length ≤ i⟩
theorem un_laid {fs ex : List Addr} {H : Hp} {h h' : Heap} {a : Addr} {o : HO} (k : ∀ b u, b ∉ ex → h.get? b = some u → h'.get? b = some u) (hp : h.objs.size ≤ a) (hn : H a = none) : Un fs ex H (upd H a o) h h' where
  keep := fun b u q _ _ hx => k b u hx q
  slot := fun b u q _ _ hx => ⟨u.slots, k b u hx q⟩
  free := fun b u q n _ => by rw [upd_ne (Nat.ne_of_lt (Nat.lt_of_lt_of_le (Heap.lt_size q) hp))]; exact n
  there := fun b u q hx => ⟨u, k b u hx q⟩
  tups := fun b xs q => by rw [upd_ne (ne_of_none q hn)]; exact q
  frzs := fun b u xs q => by rw [upd_ne (ne_of_none q hn)]; exact q
  tbls := fun b ps q => ⟨#[], by rw [upd_ne (ne_of_none q hn), q]; simp⟩
theorem hok_laid {P : Program} {w : World} {H : Hp} {h h' : Heap} {ex : List Addr} {a : Addr} {o : HO} (x : HOk P w H h) (k : ∀ b u, b ∉ ex → h.get? b = some u → h'.get? b = some u) (hex : ∀ b ∈ ex, H b = none) (hp : h.objs.size ≤ a) (new : ObjOk P w (upd H a o) h' a o) : HOk P w (upd H a o) h' := fun b u e => by
  have hn := x.fresh hp
  by_cases hb : b = a
  · subst hb; rw [upd_same] at e; cases e; exact new
  · rw [upd_ne hb] at e
    refine (x b u e).stay (fun c v hc q => k c v (fun z => ?_) q) (fun c q => by rw [upd_ne (ne_of_none q hn)]; exact q) fun c xs q => by rw [upd_ne (ne_of_none q hn)]; exact q
    have hz := hex c z
    rcases hc with y | y
    · rw [y, e] at hz; cases hz
    · rw [y] at hz; cases hz
theorem turn_enum {P : Program} {w : World} {K : PySem.W.Frag} {elts : List Expr} {kk : Nat} {tp : Pos} (a e it : Addr) (lo : Int) (ne : e ≠ it) : Turn P w K (.Tuple elts kk tp) (Ite K a lo) [e, it] e (fun i h => ∃ old, IsEnum h e it (lo + (i : Nat)) old ∧ h.IsListIter it a i) where
  mem := by simp
  obj := fun i h st b hb => by
    obtain ⟨old, s1, o, s2, s3, s4⟩ := st
    have cs : b = e ∨ b = it := by simpa using hb
    rcases cs with z | z
    · rw [z]; exact ⟨_, s1, fun v y => by cases y⟩
    · rw [z]; exact ⟨o, s2, fun v y => by rw [s4] at y; cases y⟩
  keep := fun i h h' ⟨old, s1, s2⟩ k => ⟨old, k e (by simp) _ s1, s2.at fun o y => k it (by simp) o y⟩
  item := by
    intro X hP hw hK hc i pins s σ H E I hf st hg
    subst hP hw hK
    obtain ⟨xs, x, hq, hx⟩ := hg
    obtain ⟨old, s1, s2⟩ := st
    obtain ⟨its, rv, p, hz⟩ := I.list hq
    obtain ⟨u, hu, ru⟩ := rv.get hx
    refine enum_next s1 s2 p.isList (x := u) (by simpa using hu) ne fun k eo i1 t1 z1 o1 => ?_
    refine ⟨_, rfl, wpAny_letOwnedTupleGo_enum eo fun k2 e2 b2 => ?_⟩
    have b2 : Heap.SameBut e k k2 := b2
    have esz : e < s.heap.objs.size := Heap.lt_size s1
    have t2 : k2.get? s.heap.objs.size = some { cls := .type "tuple", data := .seq #[.int (lo + (i : Nat)) s.toks, u] } := b2.extBut _ _ (Nat.ne_of_gt esz) t1
    have on : ∀ b o, b ∉ [e, it] → s.heap.get? b = some o → k2.get? b = some o := fun b o nb y => b2.extBut b o (fun z => nb (by simp [z])) (o1 b o (fun z => nb (by simp [z])) (fun z => nb (by simp [z])) y)
    have hn : ∀ b ∈ [e, it], H b = none := fun b hb => (hf b hb).1
    have new : ObjOk X.prog X.w (upd H s.heap.objs.size (.tup [.int (lo + (i : Nat)), x])) k2 s.heap.objs.size (.tup [.int (lo + (i : Nat)), x]) := ⟨by show (2 : Nat) ≤ sizeLine; decide, [.int (lo + (i : Nat)) s.toks, u], .cons ⟨_, rfl⟩ (.cons ru .nil), ⟨_, t2, rfl, _, rfl⟩⟩
    have I2 : Inv X pins σ (upd H s.heap.objs.size (.tup [.int (lo + (i : Nat)), x])) { s with heap := k2, toks := s.toks + 1 } := I.call' (ch := [e, it]) rfl (un_laid on (Nat.le_refl _) (I.hok.fresh (Nat.le_refl _))) (hok_laid I.hok on hn (Nat.le_refl _) new) I.bare fun b hb => by
      obtain ⟨_, f1, _, f3, f4, f5⟩ := hf b hb
      exact ⟨f3, f1, f4, f5⟩
    refine ⟨.ref s.heap.objs.size, _, I2, rfl, ⟨_, x, rfl, I.hok.fresh (Nat.le_refl _), rfl, fun ys hy => by rw [I.list_inj hy hq]; exact hx⟩, ⟨u, ?_, i1.extBut b2.extBut ne.symm⟩, fun b hb => ?_⟩
    · have e2 : IsEnum k2 e it (lo + (i : Nat) + 1) u := e2
      show IsEnum k2 e it (lo + ((i + 1 : Nat) : Int)) u
      rw [show lo + ((i + 1 : Nat) : Int) = lo + (i : Nat) + 1 by omega]; exact e2
    · have hb' := hn b hb
      have : b ≠ s.heap.objs.size := by
        have cs : b = e ∨ b = it := by simpa using hb
        rcases cs with z | z
        · rw [z]; exact Nat.ne_of_lt esz
        · obtain ⟨o, y, _⟩ := s2
          rw [z]; exact Nat.ne_of_lt (Heap.lt_size y)
      rw [upd_ne this]; exact hb'
  done := by
    intro X hP hw hK hc i pins s σ H E I hf st hg
    subst hP hw hK
    obtain ⟨xs, hq, hx⟩ := hg
    obtain ⟨old, s1, s2⟩ := st
    obtain ⟨its, rv, p, hz⟩ := I.list hq
    obtain ⟨f0, f1, f2, f3, f4, f5⟩ := hf it (by simp)
    have hl := rv.length
    exact enum_end (I.ok.hd hc) s1 s2 p.isList (by simp; omega) fun h' eb => ⟨rfl, I.turned (t' := s.toks) (fun b o hb y => eb b o hb y) f0 f1 f3 f4 f5⟩
  self := fun _ _ _ _ _ ⟨_, st, _⟩ h => wpAny_pyIter_enum st h
end L2
set_option Elab.async false
set_option linter.all false
set_option maxRecDepth 100000
set_option maxHeartbeats 4000000
namespace L2
open PySem PySem.Spec PyProof.Rows
section
variable {X : Cx} {elts : List Expr} {kk : Nat} {tp : Pos}
theorem boot_enum : bootBuiltins "enumerate" = some (.type "enumerate") := by decide +kernel
theorem enum_it {pins : List (Addr × Obj)} {σ : St} {H : Hp} {s : Shared} {R : It → Hp → Prop} {E : Value → Shared → Prop} {a : Addr} {lo : Int} {h' : Heap} {tk : Nat} (I : Inv X pins σ H s) (he : IsEnum h' (s.heap.objs.size + 1) s.heap.objs.size lo .none) (hi : h'.IsListIter s.heap.objs.size a 0)
    (k : ∀ b o, s.heap.get? b = some o → h'.get? b = some o) (q : R (Ite X.K a lo) H) :
    wpAny (model X.prog X.w) X.A (pyIter (.ref (s.heap.objs.size + 1))) (PIE X pins σ (.Tuple elts kk tp) R) E { s with heap := h', toks := tk } := by
  refine wpAny_pyIter_enum he ?_
  refine ⟨s.heap.objs.size + 1, [s.heap.objs.size + 1, s.heap.objs.size], _, _, H, rfl, I.kept (t' := tk) k, turn_enum a (s.heap.objs.size + 1) s.heap.objs.size lo (Nat.succ_ne_self _), ⟨.none, by simpa using he, hi⟩, fun b hb => ?_, q⟩
  have cs : b = s.heap.objs.size + 1 ∨ b = s.heap.objs.size := by simpa using hb
  rcases cs with e | e
  · subst e; exact I.fpOk (by omega) (I.hok.fresh (by omega))
  · subst e; exact I.fpOk (Nat.le_refl _) (I.hok.fresh (Nat.le_refl _))
def iEnum (K : PySem.W.Frag) (ta : TA) : TI := fun σ H R => ta σ H fun vs H1 => ∃ a, vs = [.ref a] ∧ (∃ xs, SqL K H1 a xs) ∧ R (Ite K a 0) H1
theorem pi_enum {a : Expr} {ta : TA} {p pos : Pos} (hg : Gl X "enumerate") (hm : X.mg "enumerate" = none) (ha : PA X [a] ta) (hs : starEach [a] X.env = [(false, eval a X.env)] := by rfl) : PI X (.Tuple elts kk tp) (.Call (.Name "enumerate" p) [a] [] pos) (iEnum X.K ta) := by
  intro pins s σ H R I h
  refine Call_ (ld_blt I hg hm boot_enum (PyProof.Rows.callWith_type1 (thn (ha pos pins s σ H _ I h) fun us s1 ⟨vs, H1, I1, r1, q1⟩ => ?_) hs rfl))
  obtain ⟨a, e, ⟨xs, hq⟩, q⟩ := q1
  subst e
  obtain ⟨u, rfl, ru⟩ := r1.one
  cases ru
  obtain ⟨its, r, pl, hz⟩ := I1.list hq
  exact call_enumerate_list pl.isList fun h' e1 e2 e3 e4 => enum_it (tk := s1.toks) I1 e1 e2 e4 q
theorem ite_any {α : Type} {M : Model} {A : Around} {c : Prop} [Decidable c] {x y : Sem α} {Q : α → Shared → Prop} {E : Value → Shared → Prop} {s : Shared} (h1 : wpAny M A x Q E s) (h2 : wpAny M A y Q E s) : wpAny M A (if c then x else y) Q E s := by
  split
  · exact h1
  · exact h2
open AutoSeq1 (wpAny_loadPart') in
theorem meets_enum_kw (l : Addr) (items : Array Value) (n : Nat) (dct : Option Addr) (sl : Array (Option Value)) (j : Int) (t : Tok) (hj : Builtin.SmallTypes.fitsIndex j = true) :
    Meets (Builtin.«enumerate.__new__» ⟨[.type "enumerate", .ref l], [(Str.ofString "start", .int j t)]⟩) (fun _ R s => s.heap.get? l = some ⟨.type "list", dct, .seq items n, sl⟩ ∧
      R (.ok (.ret (.ref (s.heap.push { cls := .type "list_iterator", data := .fields #[.ref l, .int 0 0] }).objs.size)))
        { s with heap := (s.heap.push { cls := .type "list_iterator", data := .fields #[.ref l, .int 0 0] }).push { cls := .type "enumerate", data := .fields #[.none, .bool false, .ref s.heap.objs.size, rawInt j, .none, .none] } }) :=
  .of_wp fun prog w A R s h => by
    obtain ⟨h0, g, d, tk, os⟩ := s
    obtain ⟨hl, h⟩ := h
    have hsub := sub_enumerate
    have hL : Heap.IsList (Shared.heap ⟨h0, g, d, tk, os⟩) l items := ⟨_, hl, rfl, n, rfl⟩
    wp_walk using wpAny_loadPart' hl
    refine wpAny_stack_any fun st => wpAny_pure ?_
    refine ite_any ?_ ?_
    all_goals
      refine wpAny_bind (wpAny_of_eq (a := (.ref l, some (.int j t))) (by with_unfolding_all rfl) ?_)
      wp_walk using wpAny_loadPart' hl, wpAny_pyIter_list hL
      exact ⟨_, rfl, h⟩
theorem oinit_kw {T mk : String} {me : Value} {rest : List Value} {kw : List (Str × Value)} (look : typeLookup (.type T) "__init__" = pure (some (.builtin "object.__init__"))) (made : Bind.madeBy (.type T) = pure (some mk)) (other : (some mk != some "object.__new__") = true) :
    Meets (Builtin.«object.__init__» ⟨me :: rest, kw⟩) (fun _ R s => s.TypeIs me T ∧ R (.ok (.ret .none)) s) := by
  refine Meets.of_wp fun prog w A R s ⟨ty, q⟩ => ?_
  show wpAny _ _ (if (!rest.isEmpty || !kw.isEmpty) = true then _ else _) _ _ s
  refine ite_any ?_ (wpAny_pure ⟨_, rfl, q⟩)
  repeat (any_goals (first | assumption | wp_step))
  exact ⟨_, rfl, q⟩
section
variable {P : Program} {w : World} {A : Around} {E : Value → Shared → Prop} {s : Shared}
theorem typed_kw {T mk : String} {B : Builtin} {xs : List Value} {kw : List (Str × Value)} {S : PySem.Spec} {Q : Value → Shared → Prop} (ft : TypeCalled T mk "object.__init__") (other : (some mk != some "object.__new__") = true)
    (c1 : checkTypeCall T ⟨xs, kw⟩ = pure ()) (c2 : checkBuiltinCall mk ⟨.type T :: xs, kw⟩ = pure ()) (c3 : ∀ o, argsOk "object.__init__" ⟨o :: xs, kw⟩) (en : entryFor table mk = some B) (g : Meets (B ⟨.type T :: xs, kw⟩) S)
    (h : S A.in1 (wants (fun o s1 => s1.TypeIs o T ∧ Q o s1) E) s) : wpAny (model P w) A (call (.type T) xs kw) Q E s := by
  obtain ⟨c, tl, mro⟩ := ft.mro
  have m1 := ft.made
  have m2 := ft.sub
  have m3 := ft.notType
  have m4 := ft.canCreate
  refine wpAny_call (codeAny_of_tree ?_)
  show wpAny _ _ (callAny (.type T) _) _ _ _
  refine wpAny_pure ⟨Code.quiet_builtin _ (by decide +kernel), codeAny_builtin F.entry_type_call ?_⟩
  rw [Around.under_plain (weight_type_call_type T xs kw) (units_type_call_type T xs kw)]
  repeat (any_goals (first | assumption | wp_step))
  refine codeAny_mono (codeAny_call_builtin ft.plain en (wpAny_of_eq c2 (g P w A.in1 _ s h))) fun r s1 hr => ?_
  cases r with
  | error e => exact hr
  | ok f1 =>
    cases f1 with
    | next => exact hr.elim
    | brk => exact hr.elim
    | cont => exact hr.elim
    | ret o =>
      obtain ⟨ty, q⟩ := hr
      have l1 := ft.init.lookup
      have l2 := ft.init.bind o
      repeat (any_goals (first | assumption | wp_step))
      have io := oinit_kw (me := o) (rest := xs) (kw := kw) ft.init.lookup ft.made other P w A.in1 (wants (fun r s2 => r = .none ∧ Q o s2) E) s1 ⟨ty, rfl, q⟩
      refine codeAny_mono (codeAny_call_builtin ft.init.plain F.entry_object_init (ft.init.check _ _ _ _ _ _ _ _ ty (c3 o) io)) fun r2 s2 hr2 => ?_
      cases r2 with
      | error e => exact hr2
      | ok f2 =>
        cases f2 with
        | next => exact hr2.elim
        | brk => exact hr2.elim
        | cont => exact hr2.elim
        | ret v =>
          obtain ⟨z, q2⟩ := hr2
          subst z
          repeat (any_goals (first | assumption | wp_step))
theorem tw_kw {pos : Pos} {T : String} {first : List Value} {args : List (Bool × Sem Value)} {kws : List (Option Str × Sem Value)} {Q : Value → Shared → Prop} {M : Model} (h1 : args.any (·.1) = false) (h2 : kws.any (·.1.isNone) = false)
    (h : wpAny M A (evalArgs (.type T) true args kws) (fun a s1 => wpAny M A (call (.type T) (first ++ a.pos) a.kw) Q E s1) E s) : wpAny M A (callWith pos (.type T) first args kws) Q E s := by
  unfold callWith
  refine wpAny_bind (wpAny_holding (thn h fun a s1 h1' => wpAny_bind (wpAny_standAt ?_)))
  simp only [h1, h2, Bool.or_false]
  exact wpAny_bind (wpAny_pure (wpAny_bind (thn h1' fun r s2 hr => wpAny_bind (wpAny_holding (wpAny_point (wpAny_pure hr))))))
theorem call_enum_kw {l : Addr} {items : Array Value} {j : Int} {t : Tok} {Q : Value → Shared → Prop} (hj : Builtin.SmallTypes.fitsIndex j = true) (hL : s.heap.IsList l items)
    (h : ∀ h', IsEnum h' (s.heap.objs.size + 1) s.heap.objs.size j .none → h'.IsListIter s.heap.objs.size l 0 → (∀ b o, s.heap.get? b = some o → h'.get? b = some o) → Q (.ref (s.heap.objs.size + 1)) { s with heap := h' }) :
    wpAny (model P w) A (call (.type "enumerate") [.ref l] [(Str.ofString "start", .int j t)]) Q E s := by
  obtain ⟨⟨c, dct, dt, sl⟩, hl, hc, n, hd⟩ := hL
  have hc : c = .type "list" := hc
  have hd : dt = .seq items n := hd
  subst hc hd
  refine typed_kw F.called_enumerate (by decide) (by kernel_rfl) (by kernel_rfl) (fun o => by kernel_rfl) F.entry_enumerate_new (meets_enum_kw l items n dct sl j t hj) ⟨hl, ?_⟩
  have z : (s.heap.push { cls := .type "list_iterator", data := .fields #[.ref l, .int 0 0] }).objs.size = s.heap.objs.size + 1 := Heap.size_push ..
  show _ ∧ _
  rw [z]
  generalize hk : (s.heap.push { cls := .type "list_iterator", data := .fields #[.ref l, .int 0 0] }) = k at z
  have k0 : k.IsListIter s.heap.objs.size l 0 := by rw [← hk]; exact ⟨_, Heap.get?_push_size _ rfl, rfl, rfl⟩
  have ko : ∀ b o, s.heap.get? b = some o → k.get? b = some o := fun b o x => by rw [← hk]; exact Heap.get?_push_of_some _ x
  have he : IsEnum (k.push { cls := .type "enumerate", data := .fields #[.none, .bool false, .ref s.heap.objs.size, rawInt j, .none, .none] }) (s.heap.objs.size + 1) s.heap.objs.size j .none := by
    rw [← z]; exact Heap.get?_push_size _ rfl
  exact ⟨⟨_, he, rfl⟩, h _ he (k0.at fun o x => Heap.get?_push_of_some _ x) fun b o x => Heap.get?_push_of_some _ (ko b o x)⟩
end
def iEnumS (K : PySem.W.Frag) (j : Int) (ta : TA) : TI := fun σ H R => ta σ H fun vs H1 => ∃ a, vs = [.ref a] ∧ (∃ xs, SqL K H1 a xs) ∧ R (Ite K a j) H1
theorem pi_enumS {a : Expr} {ta : TA} {p pos kp ip : Pos} {j : Int} {jj : Nat} (hg : Gl X "enumerate") (hm : X.mg "enumerate" = none) (ha : PA X [a] ta) (hj : Builtin.SmallTypes.fitsIndex j = true := by rfl) (hs : starEach [a] X.env = [(false, eval a X.env)] := by rfl) :
    PI X (.Tuple elts kk tp) (.Call (.Name "enumerate" p) [a] [⟨some (Str.ofString "start"), .Constant (.int j) jj ip, kp⟩] pos) (iEnumS X.K j ta) := by
  intro pins s σ H R I h
  refine wpAny_Call_Name_kw (ld_blt I hg hm boot_enum ?_)
  refine tw_kw (by rw [hs]; rfl) rfl ?_
  have ha' := ha pos pins s σ H _ I h
  have e0 : backTo pos (starEach [a] X.env) = (false, eval a X.env) :: [] := by rw [hs]; rfl
  rw [e0] at ha' ⊢
  refine evalArgs_kwB rfl (thn ha' fun us s1 ⟨vs, H1, I1, r1, q1⟩ => ?_)
  refine thn (pk_cons pe_int pk_nil pos pins s1 σ H1 (fun zs H2 => zs = [.int j] ∧ H2 = H1) I1 ⟨rfl, rfl⟩) fun ws s2 ⟨zs, H2, I2, rz, ez, eh⟩ => ?_
  subst ez eh
  obtain ⟨a, e, ⟨xs, hq⟩, q⟩ := q1
  subst e
  obtain ⟨u, rfl, ru⟩ := r1.one
  cases ru
  obtain ⟨w1, rfl, rw1⟩ := rz.one
  obtain ⟨t, rfl⟩ := rw1
  obtain ⟨its, r, pl, hz⟩ := I2.list hq
  exact call_enum_kw hj pl.isList fun h' e1 e2 e4 => enum_it (tk := s2.toks) I2 e1 e2 e4 q
theorem for_enum {K : PySem.W.Frag} {a : Addr} {lo : Int} {xs : List V} {g : TG} {tb : TS} {D : Ends} {σ : St} {H : Hp} (Pv : Nat → St → Hp → Prop) (h0 : Pv 0 σ H) (hl : ∀ i σ H, i ≤ xs.length → Pv i σ H → SqL K H a xs)
    (hs : ∀ i x σ H t, xs[i]? = some x → Pv i σ H → H t = none → g (.ref t) σ (upd H t (.tup [.int (lo + i), x])) fun σ2 H2 => tb { D with nx := Pv (i + 1), ct := Pv (i + 1), bk := D.nx } σ2 H2) (hd : ∀ σ H, Pv xs.length σ H → D.nx σ H) :
    ∃ W : Nat → Nat → St → Hp → Prop, (∃ m, W 0 m σ H) ∧ ∀ i m σ H, W i m σ H →
      ((Ite K a lo).stop i H ∧ D.nx σ H) ∨ ((Ite K a lo).go i H ∧ ∃ N : St → Hp → Prop, (∀ σ' H', N σ' H' → ∃ m', m' < m ∧ W (i + 1) m' σ' H') ∧ ∀ x H', (Ite K a lo).yld i H x H' → g x σ H' fun σ2 H2 => tb { D with nx := N, ct := N, bk := D.nx } σ2 H2) := by
  refine ⟨fun i m σ H => m = xs.length - i ∧ i ≤ xs.length ∧ Pv i σ H, ⟨xs.length, by simp, Nat.zero_le _, h0⟩, ?_⟩
  rintro i m σ H ⟨rfl, hi, p⟩
  have q := hl i σ H hi p
  by_cases hlt : i < xs.length
  · refine .inr ⟨⟨xs, xs[i], q, by simp [hlt]⟩, Pv (i + 1), fun σ' H' p' => ⟨xs.length - (i + 1), by omega, rfl, hlt, p'⟩, fun v H' y => ?_⟩
    obtain ⟨t, x, rfl, hn, rfl, y⟩ := y
    exact hs i x σ H t (y xs q) p hn
  · have e : i = xs.length := by omega
    subst e
    exact .inl ⟨⟨xs, q, Nat.le_refl _⟩, hd σ H p⟩
end
end L2
set_option Elab.async false
set_option linter.all false
set_option maxRecDepth 100000
set_option maxHeartbeats 4000000
namespace L2
open PySem PySem.Spec PyProof.Rows
def StrKeys (es : Array DictEntry) : Prop := ∀ e ∈ es, ∃ x t, e.key = .str x t
theorem StrKeys.all {es : Array DictEntry} (h : StrKeys es) : (es.all fun e => isExactStrKey e.key) = true := by
  rw [Array.all_eq_true]
  intro i hi
  obtain ⟨x, t, e⟩ := h es[i] (Array.getElem_mem hi)
  rw [e]; rfl
section
variable {P : Program} {w : World} {A : Around} {E : Value → Shared → Prop} {s : Shared}
theorem find_str {d : Addr} {o : Obj} {es : Array DictEntry} {ep : Nat} {x : Str} {t : Tok} {hs : Int} {Q : Option Nat → Shared → Prop} (ho : s.heap.get? d = some o) (hd : o.data = .dict es ep) (sk : StrKeys es)
    (q : Q (es.findIdx? fun e => e.key.isStr x) s) : wpAny (model P w) A (dictFind d (.str x t) hs) Q E s := by
  unfold dictFind
  refine wpAny_holding (wpAny_bind (wpAny_dictEntries ho hd ?_))
  dsimp only
  rw [if_pos sk.all]
  unfold foundByValue
  cases hf : es.findIdx? (fun e => e.key.isStr x) with
  | none => rw [hf] at q; exact wpAny_pure q
  | some i =>
    rw [hf] at q
    obtain ⟨lt, hi, _⟩ := Array.findIdx?_eq_some_iff_getElem.mp hf
    obtain ⟨y, u, ey⟩ := sk es[i] (Array.getElem_mem lt)
    simp only [Array.getElem?_eq_getElem lt]
    have xy : y = x := by
      have := hi; rw [ey] at this; simpa [Value.isStr] using this
    subst xy
    rw [ey]
    have tt : SeqAt.EqAt A s (.str y u) (.str y t) true := by
      have := SeqAt.EqAt.str_str (A := A) (s := s) y u y t
      rwa [beq_self_eq_true] at this
    refine wpAny_bind (wpAny_dictEpoch ho hd (wpAny_bind (tt P w E _ (wpAny_bind (wpAny_dictEpoch ho hd ?_)))))
    rw [if_neg (by simp)]
    exact wpAny_bind (wpAny_rule (wpAny_pure q))
theorem walk_range {β : Type} {b0 : β} {n : Nat} {f : Nat → β → Sem (ForInStep β)} {Q : β → Shared → Prop} (turn : ∀ i, i < n → wpAny (model P w) A (f i b0) (fun r s' => r = .yield b0 ∧ s' = s) E s) (fin : Q b0 s) : wpAny (model P w) A (forIn [:n] b0 f) Q E s := by
  rw [Std.Legacy.Range.forIn_eq_forIn_range']
  simp only [Std.Legacy.Range.size, Nat.sub_zero, Nat.add_sub_cancel, Nat.div_one]
  refine wpAny_forIn_list _ (fun rest b s' => b = b0 ∧ s' = s ∧ ∀ i ∈ rest, i < n) _ ?_ ?_ _ _ ⟨rfl, rfl, fun i hi => by simpa using hi⟩
  · rintro i rest b s' ⟨rfl, rfl, hb⟩
    refine thn (turn i (hb i (by simp))) fun r s2 ⟨e1, e2⟩ => ?_
    subst e1 e2
    exact ⟨rfl, rfl, fun j hj => hb j (by simp [hj])⟩
  · rintro b s' ⟨rfl, rfl, _⟩
    exact fin
theorem same_pairs {nm : String} {a b : Addr} {oa ob : Obj} {es fs : Array DictEntry} {ep fp : Nat} {Q : Bool → Shared → Prop} (na : (a == sysModules) = false) (nb : (b == sysModules) = false) (ha : s.heap.get? a = some oa) (da : oa.data = .dict es ep) (hb : s.heap.get? b = some ob) (db : ob.data = .dict fs fp)
    (ka : StrKeys es) (kb : StrKeys fs) (sz : es.size = fs.size) (al : ∀ i (h : i < es.size) x t, es[i].key = .str x t → ∃ j, ∃ hj : j < fs.size, (fs.findIdx? fun e => e.key.isStr x) = some j ∧ SeqAt.EqAt A s es[i].val fs[j].val true)
    (q : Q true s) : wpAny (model P w) A (Builtin.Dict.samePairs nm a b) Q E s := by
  unfold Builtin.Dict.samePairs Builtin.Dict.showsAll
  rw [if_neg (by rw [na]; exact Bool.false_ne_true)]
  refine wpAny_bind (wpAny_pure ?_)
  rw [if_neg (by rw [nb]; exact Bool.false_ne_true)]
  refine wpAny_bind (wpAny_pure (wpAny_bind (wpAny_dictEntries ha da (wpAny_bind (wpAny_dictEntries hb db ?_)))))
  rw [if_neg (by simp [sz])]
  refine wpAny_bind (wpAny_dictEpoch ha da ?_)
  refine wpAny_bind (walk_range (fun i hi => ?_) (wpAny_pure q))
  refine wpAny_bind (wpAny_dictEntries ha da ?_)
  obtain ⟨x, t, ex⟩ := ka es[i] (Array.getElem_mem hi)
  obtain ⟨j, hj, ej, eq⟩ := al i hi x t ex
  simp only [Array.getElem?_eq_getElem hi]
  refine wpAny_bind (wpAny_holding (wpAny_bind ?_))
  rw [ex]
  refine find_str hb db kb ?_
  rw [ej]
  refine wpAny_bind (wpAny_dictEntries hb db ?_)
  simp only [Array.getElem?_eq_getElem hj]
  refine wpAny_holding (eq P w E _ ?_)
  rw [if_neg (by simp)]
  refine wpAny_bind (wpAny_dictEpoch ha da ?_)
  rw [if_neg (by simp)]
  exact wpAny_pure ⟨rfl, rfl⟩
end
open AutoSeq1 (wpAny_loadPart')
theorem dict_eqM (a b : Addr) (oa ob : Obj) (es fs : Array DictEntry) (ep fp : Nat) (ka : StrKeys es) (kb : StrKeys fs) (sz : es.size = fs.size) (na : (a == sysModules) = false) (nb : (b == sysModules) = false) (ca : oa.cls = .type "dict") (cb : ob.cls = .type "dict") (da : oa.data = .dict es ep) (db : ob.data = .dict fs fp) :
    Meets (Builtin.«dict.__eq__» ⟨[.ref a, .ref b], []⟩) (fun A R s => s.heap.get? a = some oa ∧ s.heap.get? b = some ob ∧
      (∀ i (h : i < es.size) x t, es[i].key = .str x t → ∃ j, ∃ hj : j < fs.size, (fs.findIdx? fun e => e.key.isStr x) = some j ∧ SeqAt.EqAt A.in1 s es[i].val fs[j].val true) ∧ R (.ok (.ret (.bool true))) s) :=
  .of_wp fun P w A R s ⟨ha, hb, al, q⟩ => by
    have ta : s.TypeIs (.ref a) "dict" := ⟨_, ha, ca⟩
    have tb : s.TypeIs (.ref b) "dict" := ⟨_, hb, cb⟩
    unfold Builtin.«dict.__eq__»
    show wpAny _ _ (Builtin.Dict.dictSlotArgs "__eq__" ⟨[.ref a, .ref b], []⟩ >>= _) _ _ s
    unfold Builtin.Dict.dictSlotArgs
    refine wpAny_bind (wpAny_bind (wpAny_notOrdered_dict ta ?_))
    show wpAny _ _ (pure ((Value.ref a, [Value.ref b]) : Value × List Value) >>= _) _ _ s
    refine wpAny_bind (wpAny_pure (wpAny_pure ?_))
    refine wpAny_bind (wpAny_isInstance tb isSubtype_dict_dict ?_)
    rw [if_neg (by simp)]
    show wpAny _ _ (pure a >>= _) _ _ s
    refine wpAny_bind (wpAny_pure ?_)
    show wpAny _ _ (pure b >>= _) _ _ s
    refine wpAny_bind (wpAny_pure (wpAny_bind (same_pairs na nb ha da hb db ka kb sz al ?_)))
    exact wpAny_pure ⟨_, rfl, q⟩
theorem rc_dicts {A : Around} {s : Shared} {a b : Addr} {oa ob : Obj} {es fs : Array DictEntry} {ep fp : Nat} (ka : StrKeys es) (kb : StrKeys fs) (sz : es.size = fs.size) (na : (a == sysModules) = false) (nb : (b == sysModules) = false) (ca : oa.cls = .type "dict") (cb : ob.cls = .type "dict") (da : oa.data = .dict es ep) (db : ob.data = .dict fs fp)
    (ha : s.heap.get? a = some oa) (hb : s.heap.get? b = some ob) (hu : A.units < cLine) (al : ∀ i (h : i < es.size) x t, es[i].key = .str x t → ∃ j, ∃ hj : j < fs.size, (fs.findIdx? fun e => e.key.isStr x) = some j ∧ SeqAt.EqAt A.in1 s es[i].val fs[j].val true) :
    SeqAt.RcAt A s (.ref a) (.ref b) true := fun P w E Q q =>
  richCompare_meets_room (op := .Eq) ⟨_, ha, ca⟩ ⟨_, hb, cb⟩ F.slot_dict_eq F.entry_dict_eq (F.args_dict_eq_2 _ _) (dict_eqM a b oa ob es fs ep fp ka kb sz na nb ca cb da db) ⟨ha, hb, al, show Value.bool true ≠ Value.notImplemented ∧ Q (.bool true) s from ⟨(fun z => nomatch z), q⟩⟩ hu
def TxtKeys (kvs : List (Key × V)) : Prop := ∀ kv ∈ kvs, ∃ x : Str, kv.1 = .inr x
section
variable {X : Cx} {pins : List (Addr × Obj)} {σ : St} {H : Hp} {s : Shared}
theorem pair_at {P : Program} {w : World} : ∀ {es : List DictEntry} {vs : List (Key × Value)} {kvs : List (Key × V)}, Pairs (mixKind P w) es vs → KV kvs vs → ∀ i (h : i < es.length), ∃ k v, kvs[i]? = some (k, v) ∧ keyIs k es[i].key = true ∧ RelV v es[i].val := by
  intro es vs kvs p
  induction p generalizing kvs with
  | nil => intro _ i h; exact absurd h (Nat.not_lt_zero _)
  | @cons e kv es vs h1 h2 p ih =>
    intro r i h
    cases r with
    | @cons a _ as _ ra rr =>
      cases i with
      | zero => exact ⟨a.1, a.2, rfl, by rw [ra.1]; exact h1, by show RelV a.2 e.val; rw [h2]; exact ra.2⟩
      | succ i => exact ih rr i (by simpa using h)
theorem txt_at {P : Program} {w : World} {es : Array DictEntry} {vs : List (Key × Value)} {kvs : List (Key × V)} (p : Pairs (mixKind P w) es.toList vs) (r : KV kvs vs) (t : TxtKeys kvs) : StrKeys es := fun e he => by
  obtain ⟨i, hi, rfl⟩ := Array.mem_iff_getElem.mp he
  obtain ⟨k, v, e1, e2, _⟩ := pair_at p r i (by simpa using hi)
  obtain ⟨x, ex⟩ := t _ (List.mem_of_getElem? e1)
  have ex : k = .inr x := ex
  subst ex
  rcases keyIs_shape e2 with ⟨_, _, z, _⟩ | ⟨y, t, _, z⟩
  · cases z
  · exact ⟨y, t, by simpa using z⟩
theorem at_text {P : Program} {w : World} {fs : Array DictEntry} {ws : List (Key × Value)} {lvs : List (Key × V)} {x : Str} {u : V} (p : Pairs (mixKind P w) fs.toList ws) (r : KV lvs ws) (h : valV lvs (.inr x) = some u) : ∃ j, ∃ hj : j < fs.size, (fs.findIdx? fun e => e.key.isStr x) = some j ∧ RelV u fs[j].val := by
  have hf : (fun e : DictEntry => e.key.isStr x) = fun e => (mixKind P w).is (.inr x) e.key := funext fun e => ((mixKind P w).strs (.inr x) x 0 e.key (keyIs_str x 0)).symm
  have f1 := p.find (.inr x)
  have f2 := r.val (.inr x)
  rw [h, ← f1] at f2
  cases q : fs.toList.find? (fun e => (mixKind P w).is (.inr x) e.key) with
  | none => rw [q] at f2; exact absurd f2 (by intro z; cases z)
  | some f =>
    rw [q] at f2
    obtain ⟨q1, j, hj, q2, q3⟩ := List.find?_eq_some_iff_getElem.mp q
    have hj' : j < fs.size := by simpa using hj
    have q2' : fs[j] = f := by simpa using q2
    refine ⟨j, hj', ?_, by rw [q2']; exact f2⟩
    rw [hf]
    refine Array.findIdx?_eq_some_iff_getElem.mpr ⟨hj', by rw [q2']; exact q1, fun i hi => ?_⟩
    have := q3 i hi
    simpa using this
def DAlike (K : PySem.W.Frag) (H : Hp) (n : Nat) (kvs lvs : List (Key × V)) : Prop := TxtKeys kvs ∧ TxtKeys lvs ∧ kvs.length = lvs.length ∧ ∀ k v, (k, v) ∈ kvs → ∃ u, valV lvs k = some u ∧ Alike K H n v u
theorem dalike_at (I : Inv X pins σ H s) {a b : Addr} {n : Nat} {A : Around} {kvs lvs : List (Key × V)} (hu : A.units + 1 + n < cLine) (ea : Rd H a (.dK kvs)) (eb : Rd H b (.dK lvs)) (al : DAlike X.K H n kvs lvs) : SeqAt.RcAt A s (.ref a) (.ref b) true := by
  obtain ⟨z1, n1, vs, r1, o1, es, ep, g1, c1, d1, k1, p1, nd1⟩ := dk_rd I.hok ea
  obtain ⟨z2, n2, ws, r2, o2, fs, fp, g2, c2, d2, k2, p2, nd2⟩ := dk_rd I.hok eb
  obtain ⟨t1, t2, len, al⟩ := al
  have l1 := p1.length
  have l2 := p2.length
  have l3 := r1.length
  have l4 := r2.length
  refine rc_dicts (txt_at p1 r1 t1) (txt_at p2 r2 t2) (by simp only [Array.length_toList] at l1 l2; omega) n1 n2 c1.1 c2.1 d1 d2 g1 g2 (by omega) fun i hi x t ex => ?_
  obtain ⟨k, v, e1, e2, e3⟩ := pair_at p1 r1 i (by simpa using hi)
  have e2 : keyIs k es[i].key = true := by simpa using e2
  have e3 : RelV v es[i].val := by simpa using e3
  have ek : k = .inr x := by
    rw [ex] at e2
    rcases keyIs_shape e2 with ⟨_, _, _, z⟩ | ⟨y, t', z1, z2⟩
    · cases z
    · cases z2; exact z1
  subst ek
  obtain ⟨u, hu1, hu2⟩ := al _ _ (List.mem_of_getElem? e1)
  obtain ⟨j, hj, ej, rj⟩ := at_text p2 r2 hu1
  exact ⟨j, hj, ej, alike_at I hu2 e3 rj (by show A.units + 1 + n < cLine; omega)⟩
end
section
variable {X : Cx}
theorem call_dict1 : CallR X (.type "dict") (fun xs H Q => ∃ a kvs, xs = [.ref a] ∧ Rd H a (.dK kvs) ∧ ∀ p, H p = none → Q (.ref p) (upd H p (.dK kvs))) := by
  intro pins s σ H xs us Q I rv h
  obtain ⟨a, kvs, rfl, e, q⟩ := h
  obtain ⟨u, rfl, ru⟩ := rv.one
  cases ru
  exact d_copyOf I e fun p s' hp I' => ⟨.ref p, _, I', rfl, q p hp⟩
end
end L2
set_option Elab.async false
set_option linter.all false
set_option maxRecDepth 100000
set_option maxHeartbeats 4000000
namespace L2
open PySem PySem.Spec PyProof.Rows
section
variable {X : Cx} {pins : List (Addr × Obj)} {σ : St} {H : Hp} {s : Shared}
def AlD (K : PySem.W.Frag) (H : Hp) (n : Nat) (x y : V) : Prop := Alike K H n x y ∨ ∃ a b kvs lvs, x = .ref a ∧ y = .ref b ∧ Rd H a (.dK kvs) ∧ Rd H b (.dK lvs) ∧ DAlike K H n kvs lvs
theorem ald_at (I : Inv X pins σ H s) {n : Nat} {x y : V} (h : AlD X.K H n x y) {u v : Value} {A : Around} (ru : RelV x u) (rv : RelV y v) (hu : A.units + 1 + n < cLine) : SeqAt.EqAt A s u v true := by
  rcases h with h | ⟨a, b, kvs, lvs, rfl, rfl, e1, e2, al⟩
  · exact alike_at I h ru rv (by omega)
  · cases ru
    cases rv
    by_cases ab : a = b
    · subst ab; exact SeqAt.EqAt.same _
    · exact SeqAt.EqAt.of_refs ab (dalike_at I hu e1 e2 al)
theorem ald_items (I : Inv X pins σ H s) {n : Nat} {xs ys : List V} {its its2 : List Value} {A : Around} (r : Vals xs its) (r2 : Vals ys its2) (he : ∀ (i : Nat) (x y : V), xs[i]? = some x → ys[i]? = some y → AlD X.K H n x y) (hu : A.units + 1 + n < cLine) :
    ∀ j (h1 : j < its.toArray.size) (h2 : j < its2.toArray.size), SeqAt.EqAt A s its.toArray[j] its2.toArray[j] true := fun j h1 h2 => by
  have e1 := r.length
  have e2 := r2.length
  rw [List.size_toArray] at h1 h2
  have hjx : xs[j]? = some (xs[j]'(by omega)) := by simp
  have hjy : ys[j]? = some (ys[j]'(by omega)) := by simp
  obtain ⟨u1, q1, ru1⟩ := r.get hjx
  obtain ⟨v1, q2, rv1⟩ := r2.get hjy
  have e3 : its.toArray[j] = u1 := by
    have : its[j]? = some its[j] := by simp
    rw [this] at q1; simpa using q1
  have e4 : its2.toArray[j] = v1 := by
    have : its2[j]? = some its2[j] := by simp
    rw [this] at q2; simpa using q2
  rw [e3, e4]
  exact ald_at I (he j _ _ hjx hjy) ru1 rv1 hu
end
section
variable {X : Cx}
def rAlT (K : PySem.W.Frag) (n : Nat) (b : Bool) : R2 := fun x y H Q => ∃ a c xs ys, x = .ref a ∧ y = .ref c ∧ SqT K H a xs ∧ SqT K H c ys ∧ xs.length = ys.length ∧ (∀ (i : Nat) (x y : V), xs[i]? = some x → ys[i]? = some y → AlD K H n x y) ∧ Q (.bl b) H
theorem op_neT {n : Nat} (hu : X.A.units + 2 + n < cLine) : OpR X (compareOp .NotEq) (rAlT X.K n false) := by
  intro pins s σ H x y v u Q I rx ry h
  obtain ⟨a, c, xs, ys, rfl, rfl, hx, hy, hl, he, q⟩ := h
  cases rx
  cases ry
  obtain ⟨its, r, pl, hz⟩ := I.tuple hx
  obtain ⟨its2, r2, pl2, hz2⟩ := I.tuple hy
  have e1 := r.length
  have e2 := r2.length
  refine SeqAt.RcNeAt.tuples (e := fun _ => true) (show s.heap.IsTuple a its.toArray from pl) (show s.heap.IsTuple c its2.toArray from pl2) (by omega) (ald_items I r r2 he (by show X.A.units + 1 + 1 + n < cLine; omega)) X.prog X.w X.xe _ ?_
  rw [all_true, Bool.true_and, List.size_toArray, List.size_toArray, ← e1, ← e2, hl, beq_self_eq_true]
  exact ⟨.bl false, H, I, rfl, q⟩
end
end L2
set_option Elab.async false
set_option linter.all false
set_option maxRecDepth 100000
set_option maxHeartbeats 4000000
namespace L2
open PySem PySem.Spec PyProof.Rows
section
variable {X : Cx} {pins : List (Addr × Obj)} {σ : St} {H : Hp} {s : Shared}
end
section
variable {P : Program} {w : World} {K : PySem.W.Frag} {mg : Str → Option Value} {base : Heap} {N : List Str} {qual : Str} {scope : Scope} {f : Addr} {cd : Value} {A : Around} {outer : List Env} {s : Shared} {H : Hp} {E E' : XK}
end
end L2
set_option Elab.async false
set_option linter.all false
set_option maxRecDepth 100000
set_option maxHeartbeats 4000000
namespace L2
open PySem PySem.Spec PyProof.Rows
section
variable {X : Cx} {E : XK} {C : Addr}
end
end L2
set_option Elab.async false
set_option linter.all false
set_option maxRecDepth 100000
set_option maxHeartbeats 4000000
namespace L2
open PySem PySem.Spec PyProof.Rows
section
variable {M : Model} {A : Around} {E : Value → Shared → Prop} {h : Heap} {g : Array GenState} {d : Drawn} {t : Nat} {os : OsState}
end
section
variable {X : Cx} {pins : List (Addr × Obj)} {σ : St} {H : Hp} {s : Shared}
end
end L2
set_option Elab.async false
set_option linter.all false
set_option maxRecDepth 100000
set_option maxHeartbeats 4000000
namespace L2
open PySem PySem.Spec PyProof.Rows
section
variable {X : Cx} {pins : List (Addr × Obj)} {σ : St} {H : Hp} {s : Shared}
end
section
variable {X : Cx}
end
section
variable {P : Program} {w : World} {K : PySem.W.Frag} {mg : Str → Option Value} {base : Heap}
end
end L2
set_option Elab.async false
set_option linter.all false
set_option maxRecDepth 100000
set_option maxHeartbeats 4000000
namespace L2
open PySem PySem.Spec PyProof.Rows PySem.W PySem.Builtin PySem.Builtin.ObjectAttr PySem.Builtin.Getset_descriptor
section
variable {prog : Program} {w : World} {A : Around} {E : Value → Shared → Prop} {s : Shared} {K : PySem.W.Frag} {x C : Addr} {R : Result → Shared → Prop}
end
section
variable {X : Cx}
end
end L2
set_option Elab.async false
set_option linter.all false
set_option maxRecDepth 100000
set_option maxHeartbeats 4000000
namespace L2
open PySem PySem.Spec PyProof.Rows
section
variable {M : Model} {A : Around} {E : Value → Shared → Prop} {s : Shared} {B : Heap} {env : Env} {outer : List Env} {L e : Addr} {cls a0 : Value} {Q : Unit → Shared → Prop}
end
end L2
set_option Elab.async false
set_option linter.all false
set_option maxRecDepth 100000
set_option maxHeartbeats 4000000
namespace L2
open PySem PySem.Spec PyProof.Rows
section
variable {P : Program} {w : World} {K : PySem.W.Frag} {mg : Str → Option Value} {base : Heap} {N : List Str} {qual : Str} {scope : Scope} {f : Addr} {cd : Value} {A : Around} {outer : List Env} {s : Shared} {H : Hp} {E : XK} {E' : St → XK}
end
section
variable {X : Cx}
end
end L2
set_option Elab.async false
set_option linter.all false
set_option maxRecDepth 100000
set_option maxHeartbeats 4000000
namespace L2
open PySem PySem.Spec PyProof.Rows
end L2
set_option Elab.async false
set_option linter.all false
set_option maxRecDepth 100000
set_option maxHeartbeats 4000000
namespace L2
open PySem PySem.Spec PyProof.Rows
end L2
set_option Elab.async false
set_option linter.all false
set_option maxRecDepth 100000
set_option maxHeartbeats 4000000
namespace L2
open PySem PySem.Spec PyProof.Rows
section
variable {X : Cx}
end
end L2
set_option Elab.async false
set_option linter.all false
set_option maxRecDepth 100000
set_option maxHeartbeats 4000000
namespace L2
open PySem PySem.Spec PyProof.Rows
open AutoSeq1 (wpAny_loadPart')
section
variable {X : Cx}
end
end L2
set_option Elab.async false
set_option linter.all false
set_option maxRecDepth 100000
set_option maxHeartbeats 4000000
namespace L2
open PySem PySem.Spec PyProof.Rows
end L2
set_option Elab.async false
set_option linter.all false
set_option maxRecDepth 100000
set_option maxHeartbeats 4000000
namespace L2
open PySem PySem.Spec PyProof.Rows
section
variable {X : Cx}
theorem op_fdivB : OpR X (binaryOp .FloorDiv) (rI (fun _ j => 0 < j ∧ j < 10 ^ 100) fun i j => .int (i / j)) := opI fun i j _ _ _ _ _ hc q => by
  have h1 : (0 : Int) < j := hc.1
  have h2 : j < 10 ^ 100 := hc.2
  refine floordiv_int (by omega) (by rw [Int.fdiv_eq_ediv_of_nonneg i (by omega)]; exact q) (.inl (PyProof.noPylong_of_log2 ?_))
  have hj : j.natAbs ≠ 0 := by omega
  rw [Nat.log2_lt hj]
  have : j.natAbs < 10 ^ 100 := by omega
  exact Nat.lt_of_lt_of_le this (by decide +kernel)
end
end L2
set_option Elab.async false
set_option linter.all false
set_option maxRecDepth 100000
set_option maxHeartbeats 4000000
namespace RV
open PySem
theorem s_next : Slot "list_reverseiterator" "__next__" "list_reverseiterator.__next__" :=
  .of (owner := "list_reverseiterator") (n := "__next__") (by rw [typeLookup_type, builtinLookup_eq_fast]; kernel_rfl) (by decide +kernel) (by decide +kernel) (by decide +kernel) (by first | exact .inl (by decide +kernel) | exact .inr (by decide +kernel)) (by rw [isSubtype_type]; kernel_rfl)
theorem e_next : entryFor table "list_reverseiterator.__next__" = some Builtin.«list_reverseiterator.__next__» := entryFor_of_tree (by kernel_rfl)
theorem s_iter : Slot "list_reverseiterator" "__iter__" "list_reverseiterator.__iter__" :=
  .of (owner := "list_reverseiterator") (n := "__iter__") (by rw [typeLookup_type, builtinLookup_eq_fast]; kernel_rfl) (by decide +kernel) (by decide +kernel) (by decide +kernel) (by first | exact .inl (by decide +kernel) | exact .inr (by decide +kernel)) (by rw [isSubtype_type]; kernel_rfl)
theorem e_iter : entryFor table "list_reverseiterator.__iter__" = some Builtin.«dict_keyiterator.__iter__» :=
  entryFor_alias (id' := "dict_keyiterator.__iter__") (by kernel_rfl) (by decide +kernel) (by decide +kernel) (by kernel_rfl)
theorem s_ga : Slot "list_reverseiterator" "__getattribute__" "object.__getattribute__" :=
  .of (owner := "object") (n := "__getattribute__") (by rw [typeLookup_type, builtinLookup_eq_fast]; kernel_rfl) (by decide +kernel) (by decide +kernel) (by decide +kernel) (by first | exact .inl (by decide +kernel) | exact .inr (by decide +kernel)) (by rw [isSubtype_type]; kernel_rfl)
theorem no_ga : typeLookup (.type "list_reverseiterator") "__getattr__" = pure none := by rw [typeLookup_type, builtinLookup_eq_fast]; kernel_rfl
theorem no_keys : typeLookup (.type "list_reverseiterator") "keys" = pure none := by rw [typeLookup_type, builtinLookup_eq_fast]; kernel_rfl
theorem s_rev : Slot "list" "__reversed__" "list.__reversed__" :=
  .of (owner := "list") (n := "__reversed__") (by rw [typeLookup_type, builtinLookup_eq_fast]; kernel_rfl) (by decide +kernel) (by decide +kernel) (by decide +kernel) (by first | exact .inl (by decide +kernel) | exact .inr (by decide +kernel)) (by rw [isSubtype_type]; kernel_rfl)
theorem e_rev : entryFor table "list.__reversed__" = some Builtin.«list.__reversed__» := entryFor_of_tree (by kernel_rfl)
theorem mro_rev : mroOf (.type "reversed") = pure [.type "reversed", .type "object"] := by rw [mroOf_type]; kernel_rfl
theorem new_rev : typeLookup (.type "reversed") "__new__" = pure (some (.builtin "reversed.__new__")) := by rw [typeLookup_type, builtinLookup_eq_fast]; kernel_rfl
theorem tc_rev (a : Value) : checkTypeCall "reversed" ⟨[a], []⟩ = pure () := by kernel_rfl
theorem nc_rev (a : Value) : checkBuiltinCall "reversed.__new__" ⟨[.type "reversed", a], []⟩ = pure () := by kernel_rfl
theorem en_rev : entryFor table "reversed.__new__" = some Builtin.«reversed.__new__» := entryFor_of_tree (by kernel_rfl)
theorem pl_rev : plainId "reversed.__new__" = true := by decide +kernel
theorem s_init : Slot "reversed" "__init__" "object.__init__" :=
  .of (owner := "object") (n := "__init__") (by rw [typeLookup_type, builtinLookup_eq_fast]; kernel_rfl) (by decide +kernel) (by decide +kernel) (by decide +kernel) (by first | exact .inl (by decide +kernel) | exact .inr (by decide +kernel)) (by rw [isSubtype_type]; kernel_rfl)
theorem called_rev : TypeCalled "reversed" "reversed.__new__" "object.__init__" :=
  ⟨by decide +kernel, by decide +kernel, ⟨_, _, mro_rev⟩, madeBy_type mro_rev new_rev (by decide +kernel), by decide +kernel, by rw [isSubtype_type]; kernel_rfl, s_init⟩
theorem sub_rev : isSubtype (.type "list_reverseiterator") (.type "reversed") = pure false := by rw [isSubtype_type]; kernel_rfl
theorem view_len : typeLookup (.type "dict_items") "__len__" = pure (some (.builtin "dict_items.__len__")) := by rw [typeLookup_type, builtinLookup_eq_fast]; kernel_rfl
theorem view_sub : isSubtype (.type "dict_items") (.type "dict_items") = pure true := by rw [isSubtype_type]; kernel_rfl
end RV
set_option Elab.async false
set_option linter.all false
set_option maxRecDepth 100000
set_option maxHeartbeats 4000000
namespace RV
open PySem
theorem own_rev : Manifest.owners.lookup (String.ofList "list_reverseiterator".toList.reverse.reverse) = some Manifest.sig_list_reverseiterator := by kernel_rfl
theorem a_next (a : Value) : argsOk "list_reverseiterator.__next__" ⟨[a], []⟩ := by
  unfold argsOk; rw [signature?_of (id := "list_reverseiterator.__next__") (n := "__next__".toList.reverse) (o := "list_reverseiterator".toList.reverse) (by kernel_rfl) own_rev]; kernel_rfl
theorem a_iter (a : Value) : argsOk "list_reverseiterator.__iter__" ⟨[a], []⟩ := by
  unfold argsOk; rw [signature?_of (id := "list_reverseiterator.__iter__") (n := "__iter__".toList.reverse) (o := "list_reverseiterator".toList.reverse) (by kernel_rfl) own_rev]; kernel_rfl
theorem a_rev (a : Value) : argsOk "list.__reversed__" ⟨[a], []⟩ := by
  unfold argsOk; rw [signature?_of (id := "list.__reversed__") (n := "__reversed__".toList.reverse) (o := ['t', 's', 'i', 'l']) (by kernel_rfl) F.owner_list]; kernel_rfl
abbrev IsRev (h : Heap) (r l : Addr) (i : Int) : Prop := h.get? r = some { cls := .type "list_reverseiterator", dict := none, data := .fields #[.ref l, .int i 0], slots := #[] }
section
variable {P : Program} {w : World} {A : Around} {E : Value → Shared → Prop} {s : Shared}
theorem rev_next {r l : Addr} {i : Nat} {ys : Array Value} {x : Value} {Q : Option Value → Shared → Prop} (hr : IsRev s.heap r l i) (hl : s.heap.IsList l ys) (hx : ys[i]? = some x)
    (q : ∀ k, IsRev k r l ((i : Int) - 1) → Heap.SameBut r s.heap k → Q (some x) { s with heap := k }) : wpAny (model P w) A (pyNext (.ref r)) Q E s := by
  have ty : s.TypeIs (.ref r) "list_reverseiterator" := ⟨_, hr, rfl⟩
  obtain ⟨o, ho, hc, n, hd⟩ := id hl
  unfold pyNext
  refine wpAny_bind (wpAny_attempt (wpAny_callSpecial?_slot (name := Str.ofString "__next__") ty s_next (wpAny_call_entry s_next ty e_next ?_ (a_next _))))
  unfold Builtin.«list_reverseiterator.__next__»
  refine wpAny_bind (wpAny_pure ?_)
  refine wpAny_bind (wpAny_field hr rfl (x := .int i 0) rfl ?_)
  simp only [show ¬ ((i : Int) < 0) from by omega, if_false]
  refine wpAny_bind (wpAny_field hr rfl (x := .ref l) rfl ?_)
  refine wpAny_bind (wpAny_seqItems ho hd ?_)
  simp only [Int.toNat_natCast, hx]
  refine wpAny_bind (wpAny_setField_rec hr (by simp) fun k h1 h2 => ?_)
  exact wpAny_pure ⟨_, rfl, wpAny_pure (q k (by simpa [rawInt] using h1) h2)⟩
theorem rev_end {r l : Addr} {i : Int} {Q : Option Value → Shared → Prop} (hh : A.handled = none) (hr : IsRev s.heap r l i) (hi : i < 0)
    (q : ∀ k, (∀ b o, s.heap.get? b = some o → k.get? b = some o) → Q none { s with heap := k }) : wpAny (model P w) A (pyNext (.ref r)) Q E s := by
  have ty : s.TypeIs (.ref r) "list_reverseiterator" := ⟨_, hr, rfl⟩
  unfold pyNext
  refine wpAny_bind (wpAny_attempt (wpAny_callSpecial?_slot (name := Str.ofString "__next__") ty s_next (wpAny_call_entry s_next ty e_next ?_ (a_next _))))
  unfold Builtin.«list_reverseiterator.__next__»
  refine wpAny_bind (wpAny_pure ?_)
  refine wpAny_bind (wpAny_field hr rfl (x := .int i 0) rfl ?_)
  simp only [hi, if_true]
  refine wpAny_bind (wpAny_rule ?_)
  refine wpAny_bind ?_
  unfold Builtin.SmallTypes.stopIteration
  refine wpAny_bind ?_
  simp only [newExc, newTuple]
  refine wpAny_bind (wpAny_newObj_type ?_ (by size_fits))
  refine wpAny_bind (m := firstArgMember _ _) (wpAny_of_eq (a := Value.none) (by first | rfl | (simp only [firstArgMember]; rfl)) ?_)
  refine wpAny_newObj_type ?_ (by size_fits)
  simp only [raiseNew]
  refine wpAny_bind (wpAny_handled ?_)
  rw [show A.in1.handled = none from hh]
  refine wpAny_bind (wpAny_pure (wpAny_throw ?_))
  refine wpAny_bind (wpAny_isInstance (T := "StopIteration") (b := true) ⟨_, Heap.get?_push_size _ rfl, rfl⟩ isSubtype_stop ?_)
  exact wpAny_pure (q _ fun b o y => Heap.get?_push_of_some _ (Heap.get?_push_of_some _ y))
theorem rev_self {r l : Addr} {i : Int} {Q : Value → Shared → Prop} (hr : IsRev s.heap r l i) (q : Q (.ref r) s) : wpAny (model P w) A (pyIter (.ref r)) Q E s := by
  have ty : s.TypeIs (.ref r) "list_reverseiterator" := ⟨_, hr, rfl⟩
  refine wpAny_pyIter_slot ty s_iter (wpAny_call_entry s_iter ty e_iter ?_ (a_iter _))
  exact wpAny_bind (wpAny_pure (wpAny_pure ⟨_, rfl, "list_reverseiterator", _, ty, s_next.lookup, q⟩))
theorem rev_code {l : Addr} {ys : Array Value} {Q : Value → Shared → Prop} (hl : s.heap.IsList l ys)
    (q : Q (.ref s.heap.objs.size) { s with heap := s.heap.push { cls := .type "list_reverseiterator", data := .fields #[.ref l, rawInt ((ys.size : Int) - 1)] } }) :
    codeAny (model P w) A (.call (.builtin "reversed.__new__") ⟨[.type "reversed", .ref l], []⟩) (wants Q E) s := by
  obtain ⟨h0, g, d, tk, os⟩ := s
  obtain ⟨o, ho, hc, n, hd⟩ := id hl
  have ho : h0.get? l = some o := ho
  have ty : Shared.TypeIs ⟨h0, g, d, tk, os⟩ (.ref l) "list" := ⟨o, ho, hc⟩
  have f1 := s_rev.lookup
  have f2 := s_rev.bind (.ref l)
  have f3 := called_rev.sub
  refine codeAny_of_tree ?_
  show wpAny _ A.in1 (do checkBuiltinCall "reversed.__new__" ⟨[.type "reversed", .ref l], []⟩; again (.builtin "reversed.__new__" ⟨[.type "reversed", .ref l], []⟩)) _ _ _
  refine wpAny_bind (wpAny_of_eq (nc_rev _) (wpAny_pure ⟨plainId_quiet pl_rev _, codeAny_builtin en_rev ?_⟩))
  rw [Around.under_plainId pl_rev _]
  unfold Builtin.«reversed.__new__»
  repeat (any_goals (first | assumption | wp_step))
  refine codeAny_call_builtin s_rev.plain e_rev (s_rev.check _ _ _ _ _ _ _ _ ty (a_rev _) ?_)
  unfold Builtin.«list.__reversed__»
  refine wpAny_bind (wpAny_pure ?_)
  refine wpAny_bind ?_
  unfold Builtin.List.listItems
  refine wpAny_bind (wpAny_seqItems ho hd (wpAny_pure ?_))
  exact wpAny_bind (wpAny_newObj_type (wpAny_pure (wpAny_pure q)) (by size_fits))
theorem rev_new {l : Addr} {ys : Array Value} {Q : Value → Shared → Prop} (hl : s.heap.IsList l ys)
    (q : ∀ k, (∀ b o, s.heap.get? b = some o → k.get? b = some o) → IsRev k s.heap.objs.size l ((ys.size : Int) - 1) → k.objs.size = s.heap.objs.size + 1 → Q (.ref s.heap.objs.size) { s with heap := k }) : wpAny (model P w) A (call (.type "reversed") [.ref l]) Q E s := by
  obtain ⟨h0, g, d, tk, os⟩ := s
  obtain ⟨o, ho, hc, n, hd⟩ := id hl
  have ho : h0.get? l = some o := ho
  have ty : Shared.TypeIs ⟨h0, g, d, tk, os⟩ (.ref l) "list" := ⟨o, ho, hc⟩
  obtain ⟨c, tl, hmro⟩ := called_rev.mro
  have hmade := called_rev.made
  have hsub := called_rev.sub
  have h1 := called_rev.notType
  have h2 := called_rev.canCreate
  refine wpAny_call (codeAny_of_tree ?_)
  show wpAny _ _ (callAny (.type "reversed") _) _ _ _
  refine wpAny_pure ⟨Code.quiet_builtin _ (by decide +kernel), codeAny_builtin F.entry_type_call ?_⟩
  rw [Around.under_plain (weight_type_call_type "reversed" [.ref l] []) rfl]
  have hct := tc_rev (.ref l)
  repeat (any_goals (first | assumption | wp_step))
  refine codeAny_mono (rev_code (E := E) (Q := fun v s1 => v = .ref h0.objs.size ∧ s1 = ⟨h0.push { cls := .type "list_reverseiterator", data := .fields #[.ref l, rawInt ((ys.size : Int) - 1)] }, g, d, tk, os⟩) hl ⟨rfl, rfl⟩) fun r s1 hr => ?_
  cases r with
  | error e => exact hr
  | ok fl =>
    cases fl with
    | ret v =>
      obtain ⟨rfl, rfl⟩ := hr
      have t1 : Shared.TypeIs ⟨h0.push { cls := .type "list_reverseiterator", data := .fields #[.ref l, rawInt ((ys.size : Int) - 1)] }, g, d, tk, os⟩ (.ref h0.objs.size) "list_reverseiterator" := ⟨_, Heap.get?_push_size _ rfl, rfl⟩
      refine wpAny_bind (wpAny_isInstance t1 sub_rev ?_)
      simp only [Bool.not_false, if_true]
      exact wpAny_bind (wpAny_rule (wpAny_pure (q _ (fun b o y => Heap.get?_push_of_some _ y) (Heap.get?_push_size _ rfl) (Heap.size_push ..))))
    | _ => exact hr.elim
end
end RV
set_option Elab.async false
set_option linter.all false
set_option maxRecDepth 100000
set_option maxHeartbeats 4000000
namespace RV
open PySem
theorem own_obj : Manifest.owners.lookup (String.ofList "object".toList.reverse.reverse) = some Manifest.sig_object := by kernel_rfl
theorem a_ga (a b : Value) : argsOk "object.__getattribute__" ⟨[a, b], []⟩ := by
  unfold argsOk; rw [signature?_of (id := "object.__getattribute__") (n := "__getattribute__".toList.reverse) (o := "object".toList.reverse) (by kernel_rfl) own_obj]; kernel_rfl
theorem e_ga : entryFor table "object.__getattribute__" = some Builtin.«object.__getattribute__» := entryFor_of_tree (by kernel_rfl)
theorem miss_m (r l : Addr) (i : Int) (u : Tok) :
    Meets (Builtin.«object.__getattribute__» ⟨[.ref r, .str "keys" u], []⟩) (fun A R s => IsRev s.heap r l i ∧ raisesAttr (.ref r) "keys" A R s) :=
  Meets.of_wp fun P w A R s hs => by
    obtain ⟨h0, g, d, tk, os⟩ := s
    obtain ⟨hx, hs⟩ := hs
    have hx : h0.get? r = some { cls := .type "list_reverseiterator", dict := none, data := .fields #[.ref l, .int i 0], slots := #[] } := hx
    have ty : Shared.TypeIs ⟨h0, g, d, tk, os⟩ (.ref r) "list_reverseiterator" := ⟨_, hx, rfl⟩
    have nk := no_keys
    unfold Builtin.«object.__getattribute__»
    repeat (any_goals (first | assumption | wp_step))
    exact wpAny_raiseAttrError hs.1 hs.2 (attrMsg_fits (by decide +kernel) (by decide +kernel))
section
variable {P : Program} {w : World} {A : Around} {E : Value → Shared → Prop} {s : Shared}
theorem miss_keys {r l : Addr} {i : Int} {Q : Option Value → Shared → Prop} (hh : A.handled = none) (hr : IsRev s.heap r l i) (q : ∀ k tk, (∀ b o, s.heap.get? b = some o → k.get? b = some o) → Q none { s with heap := k, toks := tk }) :
    wpAny (model P w) A (getAttr? (.ref r) "keys") Q E s := by
  obtain ⟨h0, g, d, tk, os⟩ := s
  have hr : h0.get? r = some { cls := .type "list_reverseiterator", dict := none, data := .fields #[.ref l, .int i 0], slots := #[] } := hr
  have ty : ∀ t, Shared.TypeIs ⟨h0, g, d, t, os⟩ (.ref r) "list_reverseiterator" := fun _ => ⟨_, hr, rfl⟩
  have f1 := sub_AttributeError
  have f3 := s_ga.lookup
  have f4 := s_ga.bind (.ref r)
  have f5 := no_ga
  unfold getAttr? getAttrBy? getAttrBy
  repeat (any_goals (first | assumption | exact ty _ | ((with_reducible show wpAny _ _ (call (Value.builtin "object.__getattribute__") _ _) _ _ _); refine call_meets s_ga (ty _) e_ga (a_ga _ _) (miss_m r l i _) ⟨hr, hh, fun h' tk' e hx' => ?_⟩) | wp_step))
  obtain ⟨t', u', he⟩ := hx'.there
  show wpAny _ _ (getattributeRaised _ _ _ _ _ _ _) _ _ _
  unfold getattributeRaised
  repeat (any_goals (first | assumption | wp_step))
  exact q _ _ hx'.keeps
def PairsIn {K : Type} [DecidableEq K] (knd : KeyKind P w K) (h : Heap) (ys : Array Value) (vs : List (K × Value)) : Prop :=
  ys.size = vs.length ∧ ∀ (j : Nat) (k : K) (v : Value), vs[j]? = some (k, v) → ∃ (t : Addr) (key : Value) (n : Nat), ys[j]? = some (.ref t) ∧ knd.is k key = true ∧ ∃ o, h.get? t = some o ∧ o.cls = .type "tuple" ∧ o.data = .seq #[key, v] n
theorem e_loop : entryFor table "dict.update.loop" = some Builtin.«dict.update.loop» := entryFor_of_tree (by kernel_rfl)
theorem p_loop : plainId "dict.update.loop" = true := by decide +kernel
theorem stored_new {K : Type} [DecidableEq K] {kvs : List (K × Value)} {k : K} {v : Value} (h : k ∉ kvs.map (·.1)) : stored kvs k v = kvs ++ [(k, v)] := by
  unfold stored
  rw [if_neg]
  intro z
  rw [List.any_eq_true] at z
  obtain ⟨kv, h1, h2⟩ := z
  exact h (List.mem_map.mpr ⟨kv, h1, by simpa using h2⟩)
theorem fill_loop {K : Type} [DecidableEq K] {knd : KeyKind P w K} {R : Result → Shared → Prop} {d r l : Addr} {ys : Array Value} {vs : List (K × Value)} {res : Value} (hh : A.handled = none) (dr : d ≠ r) (sz : vs.length ≤ sizeLine) :
    ∀ (i : Nat) (s : Shared) (done : List (K × Value)) (c : Int), i ≤ vs.length → IsRev s.heap r l ((i : Int) - 1) → s.heap.IsList l ys → PairsIn knd s.heap ys vs → s.heap.DictOf knd d done → ((done ++ (vs.take i).reverse).map (·.1)).Nodup → done.length + i ≤ vs.length →
    (∀ k tk, (∀ b o, b ≠ d → b ≠ r → s.heap.get? b = some o → k.get? b = some o) → (∃ o, k.get? r = some o) → k.DictOf knd d (done ++ (vs.take i).reverse) → R (.ok (.ret res)) { s with heap := k, toks := tk }) →
    codeAny (model P w) A (.builtin "dict.update.loop" ⟨[.ref d, .ref r, .int c 0, res], []⟩) R s := by
  intro i
  induction i with
  | zero =>
    intro s done c hi hr hl hp hd nd hz q
    refine codeAny_builtin e_loop ?_
    rw [Around.under_plainId p_loop _]
    unfold Builtin.«dict.update.loop»
    refine wpAny_bind (rev_end (A := A.in1) hh hr (by omega) fun k hk => ?_)
    refine wpAny_bind (wpAny_pure (wpAny_pure ?_))
    exact q k s.toks (fun b o _ _ y => hk b o y) ⟨_, hk _ _ hr⟩ (by simpa using hd.at fun o y => hk _ o y)
  | succ i ih =>
    intro s done c hi hr hl hp hd nd hz q
    obtain ⟨h0, g, dd, tk, os⟩ := s
    refine codeAny_builtin e_loop ?_
    rw [Around.under_plainId p_loop _]
    unfold Builtin.«dict.update.loop»
    have hlt : i < vs.length := hi
    obtain ⟨t, key, n, e1, e2, ot, e3, e3c, e3d⟩ := hp.2 i (vs[i]).1 (vs[i]).2 (List.getElem?_eq_getElem hlt)
    have hr : IsRev h0 r l (i : Nat) := by have := hr; simpa using this
    refine wpAny_bind (rev_next hr hl e1 fun k hr1 sb => ?_)
    have sb : Heap.SameBut r h0 k := sb
    have ne_t : t ≠ r := fun z => by rw [z] at e3; have := e3.symm.trans hr; cases this; simp at e3c
    have e4 : k.get? t = some ot := (sb.2 t ne_t).trans e3
    have hd1 : k.DictOf knd d done := hd.at fun o y => (sb.2 d dr).trans y
    refine wpAny_bind ?_
    refine wpAny_holding ?_
    refine wpAny_bind (wpAny_tryCatch ?_)
    unfold Builtin.Dict.pairItems
    refine wpAny_bind (wpAny_typeOf (T := "tuple") ⟨_, e4, e3c⟩ ?_)
    rw [if_pos (by decide)]
    refine wpAny_bind (wpAny_seqItems e4 e3d (wpAny_pure ?_))
    have tk1 : (vs.take (i + 1)).reverse = vs[i] :: (vs.take i).reverse := by rw [List.take_succ_eq_append_getElem hlt, List.reverse_append]; rfl
    have cut : done ++ (vs.take (i + 1)).reverse = (done ++ [((vs[i]).1, (vs[i]).2)]) ++ (vs.take i).reverse := by rw [tk1, List.append_assoc]; rfl
    rw [cut] at nd q
    have nw : (vs[i]).1 ∉ done.map (·.1) := by
      have n1 := nd
      rw [List.map_append, List.map_append] at n1
      have n2 := (List.nodup_append.mp n1).1
      have n3 := (List.nodup_append.mp n2).2.2
      intro z
      exact n3 _ z _ (by simp) rfl
    show wpAny _ _ (holding [key, (vs[i]).2] (dictSet d key (vs[i]).2)) _ _ _
    refine wpAny_holding (wpAny_dictSet_pairs e2 hd1 (fun k2 hd2 sb2 => ?_) (by omega))
    have sb2 : Heap.SameBut d k k2 := sb2
    rw [stored_new nw] at hd2
    have ne_dl : l ≠ d := fun z => by
      obtain ⟨o, es, ep, y, ex, _⟩ := hd
      obtain ⟨o', y', c', _⟩ := hl
      rw [z] at y'
      have := y.symm.trans y'
      cases this
      have := ex.1.symm.trans c'
      simp at this
    have ne_rl : l ≠ r := fun z => by
      obtain ⟨o', y', c', _⟩ := hl
      rw [z] at y'
      have := y'.symm.trans hr
      cases this
      simp at c'
    refine wpAny_pure ⟨plainId_quiet p_loop _, ih ⟨k2, g, dd, tk + 1, os⟩ _ (c + 1) (by omega) ((sb2.2 r dr.symm).trans hr1) (hl.at fun o y => (sb2.2 l ne_dl).trans ((sb.2 l ne_rl).trans y)) ⟨hp.1, fun j kk v e => ?_⟩ hd2 nd (by simp; omega) fun k3 tk3 k4 k5 hd3 => ?_⟩
    · obtain ⟨t', key', n', e1', e2', o', e3', e4', e5'⟩ := hp.2 j kk v e
      have n1 : t' ≠ r := fun z => by rw [z] at e3'; have := e3'.symm.trans hr; cases this; simp at e4'
      have n2 : t' ≠ d := fun z => by
        obtain ⟨o, es, ep, y, ex, _⟩ := hd
        rw [z] at e3'
        have := y.symm.trans e3'
        cases this
        have := ex.1.symm.trans e4'
        simp at this
      exact ⟨t', key', n', e1', e2', o', (sb2.2 t' n2).trans ((sb.2 t' n1).trans e3'), e4', e5'⟩
    · exact q k3 tk3 (fun b o h1 h2 y => k4 b o h1 h2 ((sb2.2 b h1).trans ((sb.2 b h2).trans y))) k5 hd3
theorem dict_rev {K : Type} [DecidableEq K] {knd : KeyKind P w K} {r l : Addr} {ys : Array Value} {vs : List (K × Value)} {Q : Value → Shared → Prop} (hh : A.handled = none) (hr : IsRev s.heap r l ((ys.size : Int) - 1)) (hl : s.heap.IsList l ys) (hp : PairsIn knd s.heap ys vs) (nd : (vs.map (·.1)).Nodup) (sz : vs.length ≤ sizeLine)
    (q : ∀ k tk, (∀ b o, b ≠ r → s.heap.get? b = some o → k.get? b = some o) → (∃ o, k.get? r = some o) → k.DictOf knd s.heap.objs.size vs.reverse → Q (.ref s.heap.objs.size) { s with heap := k, toks := tk }) : wpAny (model P w) A (call (.type "dict") [.ref r]) Q E s := by
  refine callType_codes (Q₁ := fun obj s₁ => obj = .ref s.heap.objs.size ∧ s₁ = { s with heap := s.heap.push { cls := .type "dict", data := .dict #[] } }) F.kt_called_dict (F.kt_typeCall_dict_1 _) F.entry_dict_init (kt_code_dict_new _ ⟨rfl, rfl⟩) fun obj s1 h1 => ?_
  obtain ⟨rfl, rfl⟩ := h1
  have hnew : (s.heap.push { cls := .type "dict", data := .dict #[] }).DictOf knd s.heap.objs.size [] := Heap.DictOf.new s.heap
  refine ⟨hnew.typeIs, F.args_dict_init_2 _ _, ?_⟩
  unfold Builtin.«dict.__init__»
  refine wpAny_bind ?_
  unfold Builtin.Dict.selfAndRest
  refine wpAny_bind (wpAny_notOrdered_dict hnew.typeIs ?_)
  show wpAny _ _ (pure (s.heap.objs.size, [Value.ref r])) _ _ _
  refine wpAny_pure ?_
  show wpAny _ _ (Builtin.Dict.updateFrom "dict.__init__" s.heap.objs.size (.ref r) [] .none) _ _ _
  unfold Builtin.Dict.updateFrom
  have hr1 : IsRev (s.heap.push { cls := .type "dict", data := .dict #[] }) r l ((ys.size : Int) - 1) := Heap.get?_push_of_some _ hr
  refine wpAny_bind (wpAny_typeOf (T := "list_reverseiterator") ⟨_, hr1, rfl⟩ ?_)
  rw [if_pos (by decide)]
  refine wpAny_bind (miss_keys (A := A.in1.in1) hh hr1 fun k tk hk => ?_)
  have hk : ∀ b o, (s.heap.push { cls := .type "dict", data := .dict #[] }).get? b = some o → k.get? b = some o := hk
  simp only [Option.isNone_none, if_true]
  refine wpAny_bind (wpAny_rule ?_)
  have hr2 : IsRev k r l ((ys.size : Int) - 1) := hk _ _ hr1
  refine wpAny_bind (rev_self (i := (ys.size : Int) - 1) hr2 ?_)
  have up : ∀ b o, s.heap.get? b = some o → k.get? b = some o := fun b o y => hk b o (Heap.get?_push_of_some _ y)
  have tk0 : vs.take vs.length = vs := List.take_length
  refine wpAny_pure ⟨plainId_quiet p_loop _, fill_loop (A := A.in1) (knd := knd) (vs := vs) (l := l) (ys := ys) hh (Nat.ne_of_gt (Heap.lt_size hr)) sz vs.length _ [] 0 (Nat.le_refl _) (by rw [← hp.1]; exact hr2) (hl.at fun o y => up l o y) ⟨hp.1, fun j kk v e => ?_⟩ (hnew.at fun o y => hk _ o y) ?_ (by simp) fun k2 tk2 k3 k5 hd => ?_⟩
  · obtain ⟨t', key', n', e1', e2', o', e3', e4'⟩ := hp.2 j kk v e
    exact ⟨t', key', n', e1', e2', o', up _ _ e3', e4'⟩
  · rw [tk0, List.nil_append, List.map_reverse]
    exact (List.reverse_perm _).nodup_iff.mpr nd
  · rw [tk0, List.nil_append] at hd
    exact ⟨rfl, q k2 tk2 (fun b o n y => k3 b o (Nat.ne_of_lt (Heap.lt_size y)) n (up b o y)) k5 hd⟩
end
end RV
set_option Elab.async false
set_option linter.all false
set_option maxRecDepth 100000
set_option maxHeartbeats 4000000
namespace RV
open PySem
abbrev IsIt (h : Heap) (it d : Addr) (z0 z1 : Value) (i n ep : Nat) (ok ov : Value) : Prop :=
  h.get? it = some { cls := .type "dict_itemiterator", dict := none, data := .fields #[z0, z1, .ref d, .int i 0, .int n 0, .int ep 0, ok, ov], slots := #[] }
section
variable {P : Program} {w : World} {A : Around} {E : Value → Shared → Prop} {s : Shared}
theorem alive {a : Addr} {Q : Option Obj → Shared → Prop} (q : Q (s.heap.get? a) s) : wpAny (model P w) A (loadIfAlive a) Q E s := fun _ _ _ => q
theorem it_again {K : Type} [DecidableEq K] {knd : KeyKind P w K} {it d a : Addr} {i ep : Nat} {kvs : List (K × Value)} {k : K} {v ok ov : Value} {b : Bool} {oa : Obj} {Q : Option Value → Shared → Prop} (hit : IsIt s.heap it d (rawInt a) (.bool b) i kvs.length ep ok ov)
    (ha : s.heap.get? a = some oa) (hm : s.heap.DictAt knd d kvs ep) (hx : kvs[i]? = some (k, v))
    (q : ∀ key h', knd.is k key = true → IsIt h' it d (rawInt a) (.bool true) (i + 1) kvs.length ep ok ov → h'.get? s.heap.objs.size = some { cls := .type "tuple", data := .seq #[key, v] } → h'.objs.size = s.heap.objs.size + 1 →
      (∀ b o, b ≠ it → s.heap.get? b = some o → h'.get? b = some o) → Q (some (.ref s.heap.objs.size)) { s with heap := h' }) : wpAny (model P w) A (pyNext (.ref it)) Q E s := by
  obtain ⟨h0, g, dr, tk, os⟩ := s
  have hit : h0.get? it = some { cls := .type "dict_itemiterator", dict := none, data := .fields #[rawInt a, .bool b, .ref d, .int i 0, .int kvs.length 0, .int ep 0, ok, ov], slots := #[] } := hit
  have ty : Shared.TypeIs ⟨h0, g, dr, tk, os⟩ (.ref it) "dict_itemiterator" := ⟨_, hit, rfl⟩
  have f1 := mroOf_itemiter
  obtain ⟨od, es, hod, hcd, hdd, hk, hpr, hn⟩ := id hm
  obtain ⟨oc, oq, odt, osl⟩ := od
  have hdd : odt = .dict es ep := hdd
  subst hdd
  have hod : h0.get? d = some { cls := oc, dict := oq, data := .dict es ep, slots := osl } := hod
  have hsz : es.size = kvs.length := by rw [← hpr.length]; simp
  have hlt : i < es.size := by rw [hsz]; exact (List.getElem?_eq_some_iff.mp hx).1
  obtain ⟨hkey, hval⟩ := hpr.get? (e := es[i]) (by simp [hlt]) hx
  have c1 : ((es.size : Int) != (kvs.length : Int)) = false := by rw [hsz]; simp
  have c2 : ((ep : Int) != (ep : Int)) = false := by simp
  unfold pyNext
  refine wpAny_bind (wpAny_attempt (wpAny_callSpecial?_slot (name := Str.ofString "__next__") ty F.slot_dict_itemiterator_next (wpAny_call_entry F.slot_dict_itemiterator_next ty F.entry_dict_itemiterator_next ?_ (F.args_dict_itemiterator_next_1 _))))
  unfold Builtin.«dict_itemiterator.__next__»
  repeat (any_goals (first | assumption | wp_step | simp only [c1, Bool.false_eq_true, if_false] | simp only [c2, Bool.false_eq_true, if_false] | simp only [show ¬ ((i : Int) < 0) from by omega, if_false, Int.toNat_natCast, Array.getElem?_eq_getElem hlt]))
  rw [if_pos (c := (Builtin.Dict_items.ownsTuple _ = true)) ?own, if_neg (c := (List.any _ _ = true)) ?bw]
  case own => decide +kernel
  case bw => decide +kernel
  have e1 : (h0.update it (Obj.mapFields fun x => x.setIfInBounds (2 + 1) (rawInt ((i : Int) + 1)))).get? it = some { cls := .type "dict_itemiterator", dict := none, data := .fields #[rawInt a, .bool b, .ref d, .int ((i : Int) + 1) 0, .int kvs.length 0, .int ep 0, ok, ov], slots := #[] } := Heap.get?_update_self _ hit rfl
  have o1 : ∀ b o, b ≠ it → h0.get? b = some o → (h0.update it (Obj.mapFields fun x => x.setIfInBounds (2 + 1) (rawInt ((i : Int) + 1)))).get? b = some o := fun b o nb y => (Heap.get?_update_other _ _ (Ne.symm nb)).trans y
  have z1 : (h0.update it (Obj.mapFields fun x => x.setIfInBounds (2 + 1) (rawInt ((i : Int) + 1)))).objs.size = h0.objs.size := by simp
  generalize h0.update it (Obj.mapFields fun x => x.setIfInBounds (2 + 1) (rawInt ((i : Int) + 1))) = h1 at e1 o1 z1 ⊢
  obtain ⟨oa', ha'⟩ : ∃ o, h1.get? a = some o := by
    by_cases z : a = it
    · exact ⟨_, by rw [z]; exact e1⟩
    · exact ⟨oa, o1 a oa z ha⟩
  rw [← hval] at q
  have ci : ((i : Int) + 1) = ((i + 1 : Nat) : Int) := by omega
  rw [ci] at e1
  have ilt : it < h0.objs.size := Heap.lt_size hit
  have e2 := Heap.get?_push_of_some { cls := .type "tuple", data := .seq #[es[i].key, es[i].val] } e1
  have a2 := Heap.get?_push_of_some { cls := .type "tuple", data := .seq #[es[i].key, es[i].val] } ha'
  have o2 : ∀ b o, b ≠ it → h0.get? b = some o → (h1.push { cls := .type "tuple", data := .seq #[es[i].key, es[i].val] }).get? b = some o := fun b o nb y => Heap.get?_push_of_some _ (o1 b o nb y)
  have t2 : (h1.push { cls := .type "tuple", data := .seq #[es[i].key, es[i].val] }).get? h0.objs.size = some { cls := .type "tuple", data := .seq #[es[i].key, es[i].val] } := by rw [← z1]; exact Heap.get?_push_size _ rfl
  have z2 : (h1.push { cls := .type "tuple", data := .seq #[es[i].key, es[i].val] }).objs.size = h0.objs.size + 1 := by rw [Heap.size_push, z1]
  rw [z1]
  generalize h1.push { cls := .type "tuple", data := .seq #[es[i].key, es[i].val] } = h2 at e2 a2 o2 t2 z2 ⊢
  show wpAny _ _ (loadIfAlive a) _ _ _
  refine alive ?_
  rw [show (Shared.heap ⟨h2, g, dr, tk, os⟩).get? a = some oa' from a2]
  simp only [Option.isNone_some, Bool.false_eq_true, if_false]
  refine wpAny_bind (wpAny_field (s := ⟨h2, g, dr, tk, os⟩) e2 rfl (x := .bool b) rfl ?_)
  cases b with
  | true =>
    rw [if_neg (by decide)]
    refine wpAny_pure ?_
    rw [if_neg (by decide)]
    exact wpAny_pure (wpAny_pure ⟨_, rfl, wpAny_pure (q _ h2 hkey e2 t2 z2 o2)⟩)
  | false =>
    rw [if_pos (by decide)]
    refine wpAny_bind (wpAny_setField_rec (s := ⟨h2, g, dr, tk, os⟩) e2 (by simp) fun h3 e3 b3 => ?_)
    have b3 : Heap.SameBut it h2 h3 := b3
    refine wpAny_pure ?_
    rw [if_neg (by decide)]
    exact wpAny_pure (wpAny_pure ⟨_, rfl, wpAny_pure (q _ h3 hkey e3 (b3.extBut _ _ (Nat.ne_of_gt ilt) t2) (by rw [b3.1]; exact z2) fun b o nb y => b3.extBut b o nb (o2 b o nb y))⟩)
def ItSt (h : Heap) (it d : Addr) (i n ep : Nat) : Prop := ∃ z0 b ok ov, IsIt h it d z0 (.bool b) i n ep ok ov ∧ ((z0 = .none ∧ b = false) ∨ ∃ a oa, z0 = rawInt (a : Nat) ∧ h.get? a = some oa)
theorem it_next {K : Type} [DecidableEq K] {knd : KeyKind P w K} {it d : Addr} {i ep : Nat} {kvs : List (K × Value)} {k : K} {v : Value} {Q : Option Value → Shared → Prop} (hit : ItSt s.heap it d i kvs.length ep) (hm : s.heap.DictAt knd d kvs ep) (hx : kvs[i]? = some (k, v))
    (q : ∀ key h', knd.is k key = true → ItSt h' it d (i + 1) kvs.length ep → h'.get? s.heap.objs.size = some { cls := .type "tuple", data := .seq #[key, v] } → h'.objs.size = s.heap.objs.size + 1 →
      (∀ b o, b ≠ it → s.heap.get? b = some o → h'.get? b = some o) → Q (some (.ref s.heap.objs.size)) { s with heap := h' }) : wpAny (model P w) A (pyNext (.ref it)) Q E s := by
  obtain ⟨z0, b, ok, ov, h1, h2⟩ := hit
  rcases h2 with ⟨rfl, rfl⟩ | ⟨a, oa, rfl, ha⟩
  · exact wpAny_pyNext_items_item h1 hm hx fun key h' x1 x2 x3 x4 x5 => q key h' x1 ⟨_, false, _, _, x2, .inr ⟨_, _, rfl, x3⟩⟩ x3 x4 x5
  · refine it_again h1 ha hm hx fun key h' x1 x2 x3 x4 x5 => q key h' x1 ⟨_, true, _, _, x2, .inr ⟨a, ?_⟩⟩ x3 x4 x5
    by_cases z : a = it
    · exact ⟨_, rfl, by rw [z]; exact x2⟩
    · exact ⟨oa, rfl, x5 a oa z ha⟩
theorem it_end {K : Type} [DecidableEq K] {knd : KeyKind P w K} {it d : Addr} {i ep : Nat} {kvs : List (K × Value)} {Q : Option Value → Shared → Prop} (hh : A.handled = none) (hit : ItSt s.heap it d i kvs.length ep) (hm : s.heap.DictAt knd d kvs ep) (hx : kvs[i]? = none)
    (q : ∀ h', (∀ b o, b ≠ it → s.heap.get? b = some o → h'.get? b = some o) → Q none { s with heap := h' }) : wpAny (model P w) A (pyNext (.ref it)) Q E s := by
  obtain ⟨h0, g, dr, tk, os⟩ := s
  obtain ⟨z0, b, ok, ov, hit, _⟩ := hit
  have hit : h0.get? it = some { cls := .type "dict_itemiterator", dict := none, data := .fields #[z0, .bool b, .ref d, .int i 0, .int kvs.length 0, .int ep 0, ok, ov], slots := #[] } := hit
  have ty : Shared.TypeIs ⟨h0, g, dr, tk, os⟩ (.ref it) "dict_itemiterator" := ⟨_, hit, rfl⟩
  have f1 := mroOf_itemiter
  obtain ⟨od, es, hod, hcd, hdd, hk, hpr, hn⟩ := id hm
  obtain ⟨oc, oq, odt, osl⟩ := od
  have hdd : odt = .dict es ep := hdd
  subst hdd
  have hod : h0.get? d = some { cls := oc, dict := oq, data := .dict es ep, slots := osl } := hod
  have hsz : es.size = kvs.length := by rw [← hpr.length]; simp
  have hge : es.size ≤ i := by rw [hsz]; simpa using hx
  have c1 : ((es.size : Int) != (kvs.length : Int)) = false := by rw [hsz]; simp
  have c2 : ((ep : Int) != (ep : Int)) = false := by simp
  unfold pyNext
  refine wpAny_bind (wpAny_attempt (wpAny_callSpecial?_slot (name := Str.ofString "__next__") ty F.slot_dict_itemiterator_next (wpAny_call_entry F.slot_dict_itemiterator_next ty F.entry_dict_itemiterator_next ?_ (F.args_dict_itemiterator_next_1 _))))
  unfold Builtin.«dict_itemiterator.__next__»
  have hh1 : A.in1.handled = none := hh
  repeat (any_goals (first | assumption | wp_step | simp only [c1, Bool.false_eq_true, if_false] | simp only [c2, Bool.false_eq_true, if_false] | simp only [show ¬ ((i : Int) < 0) from by omega, if_false, Int.toNat_natCast, Array.getElem?_eq_none hge]))
  simp only [raiseNew]
  refine wpAny_bind (wpAny_handled ?_)
  rw [hh1]
  refine wpAny_bind (wpAny_pure (wpAny_throw ?_))
  refine wpAny_bind (wpAny_isInstance (T := "StopIteration") (b := true) ⟨_, Heap.get?_push_size _ rfl, rfl⟩ isSubtype_stop ?_)
  exact wpAny_pure (q _ fun b o nb y => Heap.get?_push_of_some _ (Heap.get?_push_of_some _ ((Heap.get?_update_other _ _ (Ne.symm nb)).trans y)))
end
end RV
set_option Elab.async false
set_option linter.all false
set_option maxRecDepth 100000
set_option maxHeartbeats 4000000
namespace RV
open PySem
section
variable {P : Program} {w : World} {A : Around} {E : Value → Shared → Prop} {s : Shared}
def Tups {K : Type} [DecidableEq K] (knd : KeyKind P w K) (h : Heap) (lo : Nat) (ts : List Addr) (vs : List (K × Value)) : Prop :=
  ts.length = vs.length ∧ ts.Nodup ∧ (∀ t ∈ ts, lo ≤ t ∧ t < h.objs.size) ∧ ∀ (j : Nat) (t : Addr) (k : K) (v : Value), ts[j]? = some t → vs[j]? = some (k, v) → ∃ key, knd.is k key = true ∧ h.get? t = some { cls := .type "tuple", data := .seq #[key, v] }
theorem gather {K : Type} [DecidableEq K] {knd : KeyKind P w K} {R : Result → Shared → Prop} {S it d : Addr} {ep lo : Nat} {vs : List (K × Value)} {res : Value} (hh : A.handled = none) (nS : S ≠ it) (nd : d ≠ S) (nd' : d ≠ it) (sz : vs.length ≤ sizeLine) :
    ∀ (j i : Nat) (s : Shared) (ts : List Addr) (c : Nat), vs.length - i = j → i ≤ vs.length → lo ≤ s.heap.objs.size → S < lo → ItSt s.heap it d i vs.length ep → s.heap.DictAt knd d vs ep → s.heap.get? S = some { cls := .type "list", dict := none, data := .seq (ts.map Value.ref).toArray c, slots := #[] } →
    it < lo → Tups knd s.heap lo ts (vs.take i) → (∀ k ts' c', (∀ b o, b ≠ S → b ≠ it → s.heap.get? b = some o → k.get? b = some o) → k.get? S = some { cls := .type "list", dict := none, data := .seq (ts'.map Value.ref).toArray c', slots := #[] } → Tups knd k lo ts' vs → R (.ok (.ret res)) { s with heap := k }) →
    codeAny (model P w) A (.builtin "list.extend.loop" ⟨[.ref S, .ref it, res], []⟩) R s := by
  intro j
  induction j with
  | zero =>
    intro i s ts c hj hi hlo hS hit hm hl hil tu q
    have e : i = vs.length := by omega
    subst e
    refine codeAny_builtin F.entry_extend_loop ?_
    rw [Around.under_plainId F.plain_extend_loop _]
    show wpAny _ A.in1 (pyNext (.ref it) >>= _) _ _ s
    refine wpAny_bind (it_end (A := A.in1) hh hit hm (by simp) fun k hk => wpAny_pure ?_)
    rw [List.take_length] at tu
    refine q k ts c (fun b o _ n y => hk b o n y) (hk _ _ nS hl) ?_
    obtain ⟨a1, a2, a3, a4⟩ := tu
    refine ⟨a1, a2, fun t ht => ⟨(a3 t ht).1, ?_⟩, fun j t kk v x y => ?_⟩
    · obtain ⟨n, hn, e⟩ := List.mem_iff_getElem.mp ht
      obtain ⟨key, _, z⟩ := a4 n t vs[n].1 vs[n].2 (by rw [← e]; exact List.getElem?_eq_getElem hn) (List.getElem?_eq_getElem (by omega))
      exact Heap.lt_size (hk t _ (Nat.ne_of_gt (Nat.lt_of_lt_of_le hil (a3 t ht).1)) z)
    · obtain ⟨key, z1, z2⟩ := a4 j t kk v x y
      exact ⟨key, z1, hk t _ (Nat.ne_of_gt (Nat.lt_of_lt_of_le hil (a3 t (List.mem_of_getElem? x)).1)) z2⟩
  | succ j ih =>
    intro i s ts c hj hi hlo hS hit hm hl hil tu q
    have hlt : i < vs.length := by omega
    obtain ⟨h0, g, dd, tk, os⟩ := s
    have hl : h0.get? S = some { cls := .type "list", dict := none, data := .seq (ts.map Value.ref).toArray c, slots := #[] } := hl
    refine codeAny_builtin F.entry_extend_loop ?_
    rw [Around.under_plainId F.plain_extend_loop _]
    show wpAny _ A.in1 (pyNext (.ref it) >>= _) _ _ _
    refine wpAny_bind (it_next hit hm (k := vs[i].1) (v := vs[i].2) (List.getElem?_eq_getElem hlt) fun key k hkey hit1 ht hz hk => ?_)
    have hk : ∀ b o, b ≠ it → h0.get? b = some o → k.get? b = some o := hk
    have ht : k.get? h0.objs.size = some { cls := .type "tuple", data := .seq #[key, vs[i].2] } := ht
    have hz : k.objs.size = h0.objs.size + 1 := hz
    have hl1 := hk _ _ nS hl
    obtain ⟨a1, a2, a3, a4⟩ := tu
    have tl : ts.length = i := by rw [a1, List.length_take]; omega
    show wpAny _ A.in1 (updateSeq S (·.push (.ref h0.objs.size)) >>= _) _ _ _
    refine wpAny_bind (wpAny_updateSeq hl1 rfl (wpAny_pure ⟨plainId_quiet F.plain_extend_loop _, ?_⟩) (by simp; omega) (by show ((ts.map Value.ref).toArray.push (.ref h0.objs.size)).size ≤ sizeLine + 1; simp; omega))
    have oth : ∀ b o, b ≠ S → k.get? b = some o → (k.update S (Obj.mapSeq (·.push (Value.ref h0.objs.size)))).get? b = some o := fun b o n y => (Heap.get?_update_other _ _ (Ne.symm n)).trans y
    have lo' : lo ≤ h0.objs.size := hlo
    obtain ⟨c9, SS⟩ : ∃ c9, (k.update S (Obj.mapSeq (·.push (Value.ref h0.objs.size)))).get? S = some { cls := .type "list", dict := none, data := .seq ((ts ++ [h0.objs.size]).map Value.ref).toArray c9, slots := #[] } := by
      have := Heap.get?_update_self (Obj.mapSeq (·.push (Value.ref h0.objs.size))) hl1 rfl
      exact ⟨_, this.trans (by simp [Obj.mapSeq]; rfl)⟩
    refine ih (i + 1) _ (ts ++ [h0.objs.size]) c9 (by omega) hlt (by show lo ≤ (k.update S _).objs.size; simp [hz]; omega) hS ?_ (Heap.DictAt.at hm fun o y => oth d o nd (hk d o nd' y)) ?_ hil ?_ fun k2 ts2 c2 o2 l2 t2 => q k2 ts2 c2 (fun b o n1 n2 y => o2 b o n1 n2 (oth b o n1 (hk b o n2 y))) l2 t2
    · obtain ⟨z0, b, ok, ov, x1, x2⟩ := hit1
      refine ⟨z0, b, ok, ov, oth _ _ nS.symm x1, ?_⟩
      rcases x2 with x2 | ⟨a, oa, x3, x4⟩
      · exact .inl x2
      · refine .inr ⟨a, ?_⟩
        by_cases z : a = S
        · exact ⟨_, x3, by rw [z]; exact Heap.get?_update_self _ hl1 rfl⟩
        · exact ⟨oa, x3, oth a oa z x4⟩
    · exact SS
    · have up : ∀ t o, lo ≤ t → k.get? t = some o → (k.update S (Obj.mapSeq (·.push (Value.ref h0.objs.size)))).get? t = some o := fun t o h y => oth t o (Nat.ne_of_gt (Nat.lt_of_lt_of_le hS h)) y
      refine ⟨by simp [tl]; omega, ?_, fun t ht' => ?_, fun j t kk v x y => ?_⟩
      · rw [List.nodup_append]
        exact ⟨a2, by simp, fun x hx y hy e => by
          have hy : y = h0.objs.size := by simpa using hy
          have hx : x < h0.objs.size := (a3 x hx).2
          rw [e, hy] at hx
          exact Nat.lt_irrefl _ hx⟩
      · show lo ≤ t ∧ t < (k.update S _).objs.size
        rw [show (k.update S (Obj.mapSeq (·.push (Value.ref h0.objs.size)))).objs.size = k.objs.size by simp, hz]
        rcases List.mem_append.mp ht' with z | z
        · have : t < h0.objs.size := (a3 t z).2
          exact ⟨(a3 t z).1, Nat.lt_succ_of_lt this⟩
        · have z : t = h0.objs.size := by simpa using z
          rw [z]
          exact ⟨lo', Nat.lt_succ_self _⟩
      · by_cases c' : j < i
        · have x' : ts[j]? = some t := by rw [List.getElem?_append_left (by omega)] at x; exact x
          have y' : (vs.take i)[j]? = some (kk, v) := by
            rw [List.getElem?_take] at y ⊢
            rw [if_pos c']; rw [if_pos (by omega)] at y; exact y
          obtain ⟨key', z1, z2⟩ := a4 j t kk v x' y'
          exact ⟨key', z1, up t _ (a3 t (List.mem_of_getElem? x')).1 (hk t _ (Nat.ne_of_gt (Nat.lt_of_lt_of_le hil (a3 t (List.mem_of_getElem? x')).1)) z2)⟩
        · have jl : j < (ts ++ [h0.objs.size]).length := (List.getElem?_eq_some_iff.mp x).1
          have je : j = i := by simp [tl] at jl; omega
          subst je
          rw [List.getElem?_append_right (by omega), tl] at x
          have x : h0.objs.size = t := by simpa using x
          rw [List.getElem?_take, if_pos (by omega), List.getElem?_eq_getElem hlt] at y
          have y : vs[j] = (kk, v) := by simpa using y
          refine ⟨key, by rw [y] at hkey; exact hkey, ?_⟩
          rw [← x]
          refine up _ _ lo' ?_
          rw [ht, y]
theorem sp_len : splitId "dict_items.__len__" = some ("dict_items", "__len__") := by decide +kernel
theorem list_view {K : Type} [DecidableEq K] {knd : KeyKind P w K} {v d : Addr} {ep : Nat} {vs : List (K × Value)} {Q : Value → Shared → Prop} (hh : A.handled = none) (hv : s.heap.IsItemsView v d) (hm : s.heap.DictAt knd d vs ep) (sz : vs.length ≤ sizeLine)
    (q : ∀ k ts c, (∀ b o, s.heap.get? b = some o → k.get? b = some o) → k.get? s.heap.objs.size = some { cls := .type "list", dict := none, data := .seq (ts.map Value.ref).toArray c, slots := #[] } → Tups knd k (s.heap.objs.size + 1) ts vs → Q (.ref s.heap.objs.size) { s with heap := k }) :
    wpAny (model P w) A (call (.type "list") [.ref v]) Q E s := by
  obtain ⟨h0, g, dd, tk, os⟩ := s
  have hv : h0.IsItemsView v d := hv
  have hm : h0.DictAt knd d vs ep := hm
  have nv : v < h0.objs.size := by obtain ⟨o, y, _⟩ := hv; exact Heap.lt_size y
  have ndd : d < h0.objs.size := hm.lt_size
  refine callType_codes (Q₁ := fun obj s₁ => obj = .ref h0.objs.size ∧ s₁ = ⟨h0.push { cls := .type "list", data := .seq #[] }, g, dd, tk, os⟩) F.called_list (F.typeCall_list_1 _) F.entry_list_init (code_list_new _ ⟨rfl, rfl⟩) fun obj s1 h1 => ?_
  obtain ⟨rfl, rfl⟩ := h1
  have hS : (h0.push { cls := .type "list", data := .seq #[] }).get? h0.objs.size = some { cls := .type "list", data := .seq #[] } := Heap.get?_push_size _ rfl
  refine ⟨⟨_, hS, rfl⟩, F.args_list_init_2 _ _, ?_⟩
  show wpAny _ A.in1.in1 (do let old ← Builtin.List.listItems (.ref h0.objs.size); Builtin.List.listUpdate (.ref h0.objs.size) (fun _ => #[]); letGo old.toList.reverse; Builtin.List.listExtendWith (.ref h0.objs.size) (.ref v) .none) _ _ _
  refine wpAny_bind ?_
  unfold Builtin.List.listItems
  refine wpAny_bind (wpAny_seqItems hS rfl (wpAny_pure ?_))
  show wpAny _ A.in1.in1 (updateSeq h0.objs.size (fun _ => #[]) >>= fun _ => letGo (#[] : Array Value).toList.reverse >>= fun _ => Builtin.List.listExtendWith (.ref h0.objs.size) (.ref v) .none) _ _ _
  refine wpAny_bind (wpAny_updateSeq hS rfl ?_)
  have S1 := Heap.get?_update_self (Obj.mapSeq (fun _ => (#[] : Array Value))) hS rfl
  have o1 : ∀ b o, h0.get? b = some o → ((h0.push { cls := .type "list", data := .seq #[] }).update h0.objs.size (Obj.mapSeq (fun _ => (#[] : Array Value)))).get? b = some o := fun b o y => (Heap.get?_update_other _ _ (Nat.ne_of_gt (Heap.lt_size y))).trans (Heap.get?_push_of_some _ y)
  have z1 : ((h0.push { cls := .type "list", data := .seq #[] }).update h0.objs.size (Obj.mapSeq (fun _ => (#[] : Array Value)))).objs.size = h0.objs.size + 1 := by simp
  generalize (h0.push { cls := .type "list", data := .seq #[] }).update h0.objs.size (Obj.mapSeq (fun _ => (#[] : Array Value))) = h1 at S1 o1 z1 ⊢
  refine wpAny_bind (wpAny_letGo ?_)
  have hv1 : h1.IsItemsView v d := by obtain ⟨o, y, r⟩ := hv; exact ⟨o, o1 _ _ y, r⟩
  have hm1 : h1.DictAt knd d vs ep := Heap.DictAt.at hm fun o y => o1 _ _ y
  unfold Builtin.List.listExtendWith
  refine wpAny_bind (wpAny_typeOf (T := "dict_items") hv1.typeIs ?_)
  have d1 : Builtin.List.listSameRef (.ref h0.objs.size) (.ref v) = false := by
    show (h0.objs.size == v) = false
    exact beq_eq_false_iff_ne.mpr (Nat.ne_of_gt nv)
  have d2 : (Value.type "dict_items" == Value.type "list") = false := by decide
  have d3 : (Value.type "dict_items" == Value.type "tuple") = false := by decide
  simp only [d1, d2, d3, Bool.or_false, Bool.false_eq_true, if_false]
  refine wpAny_bind (wpAny_pyIter_items hv1 hm1 ?_)
  have S2 := Heap.get?_push_of_some { cls := .type "dict_itemiterator", data := .fields #[.none, .bool false, .ref d, .int 0 0, .int vs.length 0, .int ep 0, .none, .none] } S1
  have o2 : ∀ b o, h0.get? b = some o → (h1.push { cls := .type "dict_itemiterator", data := .fields #[.none, .bool false, .ref d, .int 0 0, .int vs.length 0, .int ep 0, .none, .none] }).get? b = some o := fun b o y => Heap.get?_push_of_some _ (o1 b o y)
  have i2 : ItSt (h1.push { cls := .type "dict_itemiterator", data := .fields #[.none, .bool false, .ref d, .int 0 0, .int vs.length 0, .int ep 0, .none, .none] }) h1.objs.size d 0 vs.length ep := ⟨_, _, _, _, Heap.get?_push_size _ rfl, .inl ⟨rfl, rfl⟩⟩
  have z2 : (h1.push { cls := .type "dict_itemiterator", data := .fields #[.none, .bool false, .ref d, .int 0 0, .int vs.length 0, .int ep 0, .none, .none] }).objs.size = h0.objs.size + 2 := by rw [Heap.size_push, z1]
  show wpAny _ _ (_ >>= _) _ _ ⟨h1.push { cls := .type "dict_itemiterator", data := .fields #[.none, .bool false, .ref d, .int 0 0, .int vs.length 0, .int ep 0, .none, .none] }, g, dd, tk, os⟩
  generalize h1.push { cls := .type "dict_itemiterator", data := .fields #[.none, .bool false, .ref d, .int 0 0, .int vs.length 0, .int ep 0, .none, .none] } = h2 at S2 o2 i2 z2 ⊢
  have ty2 : Shared.TypeIs ⟨h2, g, dd, tk, os⟩ (.ref v) "dict_items" := by obtain ⟨o, y, c, _⟩ := hv; exact ⟨o, o2 _ _ y, c⟩
  have f1 := view_len
  have f2 := view_sub
  refine wpAny_bind (wpAny_holding ?_)
  unfold Builtin.List.listLengthHint
  refine wpAny_bind (wpAny_specialOf ty2 view_len ?_)
  simp only [sp_len]
  refine wpAny_bind (wpAny_isInstance ty2 view_sub ?_)
  simp only [Bool.not_true, Bool.false_eq_true, if_false]
  rw [if_pos ?si]
  case si => decide +kernel
  refine wpAny_bind (wpAny_typeOf ty2 (wpAny_pure ?_))
  rw [if_pos ?rs]
  case rs => decide +kernel
  refine wpAny_bind (wpAny_rule (wpAny_bind ?_))
  show wpAny _ _ (updateSeq h0.objs.size (·.push .none) >>= fun _ => updateSeq h0.objs.size (·.pop)) _ _ _
  refine wpAny_bind (wpAny_updateSeq S2 rfl ?_)
  have S3 := Heap.get?_update_self (Obj.mapSeq (·.push Value.none)) S2 rfl
  refine wpAny_updateSeq (hz := by seq_fits) S3 rfl ?_
  have S4 := Heap.get?_update_self (Obj.mapSeq (·.pop)) S3 rfl
  have oth : ∀ b o, b ≠ h0.objs.size → h2.get? b = some o → ((h2.update h0.objs.size (Obj.mapSeq (·.push Value.none))).update h0.objs.size (Obj.mapSeq (·.pop))).get? b = some o := fun b o n y => (Heap.get?_update_other _ _ (Ne.symm n)).trans ((Heap.get?_update_other _ _ (Ne.symm n)).trans y)
  have z4 : ((h2.update h0.objs.size (Obj.mapSeq (·.push Value.none))).update h0.objs.size (Obj.mapSeq (·.pop))).objs.size = h0.objs.size + 2 := by simp [z2]
  refine wpAny_pure ⟨plainId_quiet F.plain_extend_loop _, gather (A := A.in1) (knd := knd) (vs := vs) (lo := h0.objs.size + 2) (d := d) (ep := ep) hh (by rw [z1]; exact Nat.ne_of_lt (Nat.lt_succ_self _)) (Nat.ne_of_lt ndd) (by rw [z1]; exact Nat.ne_of_lt (Nat.lt_succ_of_lt ndd)) sz vs.length 0 _ [] _ (by omega) (Nat.zero_le _) (by show h0.objs.size + 2 ≤ _; rw [z4]; exact Nat.le_refl _) (Nat.lt_succ_of_lt (Nat.lt_succ_self _)) ?_ (Heap.DictAt.at hm fun o y => oth d o (Nat.ne_of_lt ndd) (o2 d o y)) S4 (by rw [z1]; exact Nat.lt_succ_self _) ⟨by simp, by simp, by simp, by simp⟩ fun k ts c ko kl kt => ?_⟩
  · obtain ⟨x0, b, ok, ov, x1, x2⟩ := i2
    refine ⟨x0, b, ok, ov, oth _ _ (by rw [z1]; exact Nat.ne_of_gt (Nat.lt_succ_self _)) x1, ?_⟩
    rcases x2 with x2 | ⟨a, oa, x3, x4⟩
    · exact .inl x2
    · refine .inr ⟨a, ?_⟩
      by_cases z : a = h0.objs.size
      · exact ⟨_, x3, by rw [z]; exact S4⟩
      · exact ⟨oa, x3, oth a oa z x4⟩
  · refine ⟨rfl, q k ts c (fun b o y => ko b o (Nat.ne_of_lt (Heap.lt_size y)) (by rw [z1]; exact Nat.ne_of_lt (Nat.lt_succ_of_lt (Heap.lt_size y))) (oth b o (Nat.ne_of_lt (Heap.lt_size y)) (o2 b o y))) kl ?_⟩
    obtain ⟨a1, a2, a3, a4⟩ := kt
    exact ⟨a1, a2, fun t ht => ⟨Nat.le_of_succ_le (a3 t ht).1, (a3 t ht).2⟩, a4⟩
end
end RV
set_option Elab.async false
set_option linter.all false
set_option maxRecDepth 100000
set_option maxHeartbeats 4000000
namespace L2
open PySem PySem.Spec PyProof.Rows
def vwO (p a : Addr) : HO := .ext fun h => h.IsItemsView p a
def rvO (r l : Addr) (n : Nat) : HO := .ext fun h => RV.IsRev h r l ((n : Int) - 1)
def anyO (r : Addr) : HO := .ext fun h => ∃ o, h.get? r = some o
def lay (H : Hp) : List Addr → List HO → Hp
  | t :: ts, o :: os => lay (upd H t o) ts os
  | _, _ => H
theorem lay_ne {b : Addr} : ∀ {ts : List Addr} {os : List HO} {H : Hp}, b ∉ ts → lay H ts os b = H b
  | [], _, _, _ => by unfold lay; rfl
  | _ :: _, [], _, _ => by unfold lay; rfl
  | t :: ts, o :: os, H, h => by
    show lay (upd H t o) ts os b = H b
    rw [lay_ne (fun z => h (List.mem_cons_of_mem _ z)), upd_ne (fun z => h (by rw [z]; exact List.mem_cons_self))]
theorem lay_at : ∀ {ts : List Addr} {os : List HO} {H : Hp} {j : Nat} {t : Addr} {o : HO}, ts.Nodup → ts[j]? = some t → os[j]? = some o → lay H ts os t = some o
  | [], _, _, _, _, _, _, h, _ => by simp at h
  | _ :: _, [], _, _, _, _, _, _, h => by simp at h
  | t :: ts, o :: os, H, 0, t', o', nd, h, h' => by
    have e : t = t' := by simpa using h
    have e' : o = o' := by simpa using h'
    subst e e'
    show lay (upd H t o) ts os t = some o
    rw [lay_ne (List.nodup_cons.mp nd).1, upd_same]
  | t :: ts, o :: os, H, j + 1, t', o', nd, h, h' => lay_at (H := upd H t o) (List.nodup_cons.mp nd).2 (by simpa using h) (by simpa using h')
section
variable {X : Cx} {pins : List (Addr × Obj)} {σ : St} {H H' : Hp} {s : Shared}
theorem Inv.grow {k : Heap} {tk : Nat} (I : Inv X pins σ H s) (kept : ∀ b u, s.heap.get? b = some u → k.get? b = some u) (old : ∀ b, b < s.heap.objs.size → H' b = H b) (new : ∀ b o, s.heap.objs.size ≤ b → H' b = some o → ObjOk X.prog X.w H' k b o) : Inv X pins σ H' { s with heap := k, toks := tk } := by
  have lt : ∀ b o, H b = some o → H' b = some o := fun b o e => by rw [old b (I.hok.lt e)]; exact e
  refine I.call' (ch := []) rfl ⟨fun b o q _ _ _ => kept b o q, fun b o q _ _ _ => ⟨o.slots, kept b o q⟩, fun b o q n _ => by rw [old b (Heap.lt_size q)]; exact n, fun b o q _ => ⟨o, kept b o q⟩, fun b xs e => lt b _ e, fun b o u e => lt b _ e, fun b ps e => ⟨#[], by rw [Array.append_empty]; exact lt b _ e⟩⟩ (fun b o e => ?_) I.bare (fun b hb => by cases hb)
  by_cases z : b < s.heap.objs.size
  · rw [old b z] at e
    exact (I.hok b o e).stay (fun c u _ q => kept c u q) (fun c e => lt c _ e) fun c xs e => lt c _ e
  · exact new b o (Nat.le_of_not_lt z) e
end
section
variable {X : Cx}
theorem mt_items : MtM X "dict.items" (fun x xs H Q => ∃ a kvs, x = .ref a ∧ xs = [] ∧ H a = some (.dK kvs) ∧ ∀ p, H p = none → Q (.ref p) (upd H p (vwO p a))) := by
  intro pins s σ H x xs v us Q I rx rv h
  obtain ⟨a, kvs, rfl, rfl, e, q⟩ := h
  cases rx
  cases rv.zero
  obtain ⟨z, hd, vs, rel, dd⟩ := dk_of I.hok e
  have ty : s.TypeIs (.ref a) "dict" := dd.typeIs
  refine wpAny_call (codeAny_call_builtin PySem.F.slot_dict_items.plain PySem.F.entry_dict_items (PySem.F.slot_dict_items.check _ _ _ _ _ _ _ _ ty (PySem.F.args_dict_items_1 _) (meets_dict_items (mixKind X.prog X.w) a hd X.A (wants (EP X pins σ Q) X.xe) s ⟨⟨vs, dd⟩, ?_⟩)))
  refine ⟨.ref s.heap.objs.size, _, I.laid (o := vwO s.heap.objs.size a) (t' := s.toks) (fun b u y => Heap.get?_push_of_some _ y) (Nat.le_refl _) ?_, rfl, q _ (I.hok.fresh (Nat.le_refl _))⟩
  exact ⟨⟨_, Heap.get?_push_size _ rfl, rfl, rfl⟩, ⟨_, Heap.get?_push_size _ rfl⟩, fun h1 h2 ⟨o, y, r⟩ k => ⟨o, k _ y, r⟩⟩
theorem rel_key {P : Program} {w : World} {k : Key} {u : Value} (h : (mixKind P w).is k u = true) : RelV (kV k) u := by
  rcases keyIs_shape (show keyIs k u = true from h) with ⟨i, t, rfl, rfl⟩ | ⟨x, t, rfl, rfl⟩
  · exact ⟨t, rfl⟩
  · exact ⟨t, rfl⟩
theorem kv_at : ∀ {kvs : List (Key × V)} {vs : List (Key × Value)} {j : Nat} {k : Key} {v : V}, KV kvs vs → kvs[j]? = some (k, v) → ∃ u, vs[j]? = some (k, u) ∧ RelV v u
  | _, _, j, _, _, .nil, h => by simp at h
  | _, _, 0, k, v, .cons (a := a) (b := b) r _, h => by
    have e : a = (k, v) := by simpa using h
    subst e
    exact ⟨b.2, by simp; exact Prod.ext r.1.symm rfl, r.2⟩
  | _, _, j + 1, k, v, .cons r rr, h => by
    obtain ⟨u, h1, h2⟩ := kv_at rr (show _ = some (k, v) by simpa using h)
    exact ⟨u, by simpa using h1, h2⟩
theorem valsRef : ∀ ts : List Addr, Vals (ts.map V.ref) (ts.map Value.ref)
  | [] => .nil
  | t :: ts => .cons rfl (valsRef ts)
theorem call_listV (hc : X.calm = true) : CallR X (.type "list") (fun xs H Q => ∃ p a kvs, xs = [.ref p] ∧ H p = some (vwO p a) ∧ H a = some (.dK kvs) ∧ ∀ (l : Addr) (ts : List Addr) (H' : Hp), Kp [] H H' → H l = none → H' l = some (.lst (ts.map V.ref)) → ts.length = kvs.length →
    (∀ (j : Nat) (t : Addr) (k : Key) (v : V), ts[j]? = some t → kvs[j]? = some (k, v) → H t = none ∧ H' t = some (.tup [kV k, v])) → Q (.ref l) H') := by
  intro pins s σ H xs us Q I rv h
  obtain ⟨p, a, kvs, rfl, ep, ea, q⟩ := h
  obtain ⟨u, rfl, ru⟩ := rv.one
  cases ru
  obtain ⟨z, hd, vs, rel, dd⟩ := dk_of I.hok ea
  obtain ⟨hv, _, _⟩ : ObjOk X.prog X.w H s.heap p (vwO p a) := I.hok p _ ep
  obtain ⟨o, es, ep', y1, y2, y3, y4, y5, y6⟩ := id dd
  have hl := rel.length
  refine RV.list_view (knd := mixKind X.prog X.w) (I.ok.hd hc) hv (vs := vs) (ep := ep') ⟨o, es, y1, y2, y3, y4, y5, y6⟩ (by omega) fun k ts c ko kl kt => ?_
  obtain ⟨a1, a2, a3, a4⟩ := kt
  have tin : ∀ b, b < s.heap.objs.size → b ∉ ts := fun b hb z => Nat.lt_irrefl _ (Nat.lt_of_lt_of_le (Nat.lt_succ_of_lt hb) (a3 b z).1)
  have tl : s.heap.objs.size ∉ ts := fun z => Nat.lt_irrefl _ (a3 _ z).1
  have tne : ∀ t ∈ ts, t ≠ s.heap.objs.size := fun t ht e => tl (e ▸ ht)
  have at' : ∀ (j : Nat) (t : Addr) (kk : Key) (v : V), ts[j]? = some t → kvs[j]? = some (kk, v) → upd (lay H ts (kvs.map fun kv => .tup [kV kv.1, kv.2])) s.heap.objs.size (.lst (ts.map V.ref)) t = some (.tup [kV kk, v]) := fun j t kk v e1 e2 => by
    rw [upd_ne (tne t (List.mem_of_getElem? e1))]
    exact lay_at a2 e1 (by rw [List.getElem?_map, e2]; rfl)
  have old : ∀ b, b < s.heap.objs.size → upd (lay H ts (kvs.map fun kv => .tup [kV kv.1, kv.2])) s.heap.objs.size (.lst (ts.map V.ref)) b = H b := fun b hb => by rw [upd_ne (Nat.ne_of_lt hb), lay_ne (tin b hb)]
  refine ⟨.ref s.heap.objs.size, upd (lay H ts (kvs.map fun kv => .tup [kV kv.1, kv.2])) s.heap.objs.size (.lst (ts.map V.ref)), I.grow (tk := s.toks) ko old fun b o hb e => ?_, rfl, q _ ts _ (fun b o e _ => by rw [old b (I.hok.lt e)]; exact e) (I.hok.fresh (Nat.le_refl _)) upd_same (by omega) fun j t kk v e1 e2 => ⟨I.hok.fresh (Nat.le_of_succ_le (a3 t (List.mem_of_getElem? e1)).1), at' j t kk v e1 e2⟩⟩
  by_cases c1 : b = s.heap.objs.size
  · subst c1
    rw [upd_same] at e
    cases e
    exact ⟨by rw [List.length_map]; omega, ts.map Value.ref, c, valsRef ts, kl⟩
  · by_cases c2 : b ∈ ts
    · obtain ⟨j, hj, ej⟩ := List.mem_iff_getElem.mp c2
      have e1 : ts[j]? = some b := by rw [← ej]; exact List.getElem?_eq_getElem hj
      have hjk : j < kvs.length := by omega
      have e2 : kvs[j]? = some (kvs[j].1, kvs[j].2) := List.getElem?_eq_getElem hjk
      rw [at' j b _ _ e1 e2] at e
      cases e
      obtain ⟨u, e3, r3⟩ := kv_at rel e2
      obtain ⟨key, r4, e4⟩ := a4 j b _ _ e1 e3
      exact ⟨by show (2 : Nat) ≤ sizeLine; decide, [key, u], .cons (rel_key r4) (.cons r3 .nil), ⟨_, e4, rfl, _, rfl⟩⟩
    · rw [upd_ne c1, lay_ne c2, I.hok.fresh hb] at e
      cases e
theorem call_reversed : CallR X (.type "reversed") (fun xs H Q => ∃ l ys, xs = [.ref l] ∧ H l = some (.lst ys) ∧ ∀ r, H r = none → Q (.ref r) (upd H r (rvO r l ys.length))) := by
  intro pins s σ H xs us Q I rv h
  obtain ⟨l, ys, rfl, e, q⟩ := h
  obtain ⟨u, rfl, ru⟩ := rv.one
  cases ru
  obtain ⟨z, its, n, rel, hl⟩ : ObjOk X.prog X.w H s.heap l (.lst ys) := I.hok l _ e
  have len := rel.length
  refine RV.rev_new (ys := its.toArray) ⟨_, hl, rfl, n, rfl⟩ fun k ko kr _ => ?_
  rw [show its.toArray.size = ys.length by simp [len]] at kr
  refine ⟨.ref s.heap.objs.size, _, I.laid (o := rvO s.heap.objs.size l ys.length) (t' := s.toks) ko (Nat.le_refl _) ?_, rfl, q _ (I.hok.fresh (Nat.le_refl _))⟩
  exact ⟨kr, ⟨_, kr⟩, fun h1 h2 x y => y _ x⟩
theorem valsRefs : ∀ (ts : List Addr) {its : List Value}, Vals (ts.map V.ref) its → its = ts.map Value.ref
  | [], _, .nil => rfl
  | t :: ts, _, .cons r rr => by rw [valsRefs ts rr, show _ = Value.ref t from r]; rfl
theorem kv_keys : ∀ {kvs : List (Key × V)} {vs : List (Key × Value)}, KV kvs vs → kvs.map (·.1) = vs.map (·.1)
  | _, _, .nil => rfl
  | _, _, .cons r rr => by rw [List.map_cons, List.map_cons, kv_keys rr, r.1]
theorem kv_app : ∀ {a c : List (Key × V)} {b d : List (Key × Value)}, KV a b → KV c d → KV (a ++ c) (b ++ d)
  | _, _, _, _, .nil, h => h
  | _, _, _, _, .cons r rr, h => .cons r (kv_app rr h)
theorem kv_rev : ∀ {kvs : List (Key × V)} {vs : List (Key × Value)}, KV kvs vs → KV kvs.reverse vs.reverse
  | _, _, .nil => .nil
  | _, _, .cons r rr => by rw [List.reverse_cons, List.reverse_cons]; exact kv_app (kv_rev rr) (.cons r .nil)
theorem pairs_of {pins : List (Addr × Obj)} {σ : St} {H : Hp} {s : Shared} (I : Inv X pins σ H s) : ∀ {kvs : List (Key × V)} {ts : List Addr}, ts.length = kvs.length →
    (∀ (j : Nat) (t : Addr) (k : Key) (v : V), ts[j]? = some t → kvs[j]? = some (k, v) → H t = some (.tup [kV k, v])) → ∃ vs, KV kvs vs ∧ ∀ (j : Nat) (t : Addr) (k : Key) (u : Value), ts[j]? = some t → vs[j]? = some (k, u) → ∃ key n o, (mixKind X.prog X.w).is k key = true ∧ s.heap.get? t = some o ∧ o.cls = .type "tuple" ∧ o.data = .seq #[key, u] n
  | [], [], _, _ => ⟨[], .nil, fun j t k u h _ => by simp at h⟩
  | [], _ :: _, h, _ => by simp at h
  | _ :: _, [], h, _ => by simp at h
  | (k, v) :: kvs, t :: ts, h, f => by
    obtain ⟨vs, h1, h2⟩ := pairs_of I (kvs := kvs) (ts := ts) (by simpa using h) fun j t' k' v' x y => f (j + 1) t' k' v' (by simpa using x) (by simpa using y)
    obtain ⟨_, its, rr, o, g1, g2, n, g3⟩ : ObjOk X.prog X.w H s.heap t (.tup [kV k, v]) := I.hok t _ (f 0 t k v rfl rfl)
    obtain ⟨key, u, rfl, r1, r2⟩ := rr.two
    refine ⟨(k, u) :: vs, .cons ⟨rfl, r2⟩ h1, fun j t' k' u' x y => ?_⟩
    cases j with
    | zero =>
      have x : t = t' := by simpa using x
      have y : k = k' ∧ u = u' := by simpa using y
      obtain ⟨rfl, rfl⟩ := y
      subst x
      exact ⟨key, n, o, kV_is r1, g1, g2, g3⟩
    | succ j => exact h2 j t' k' u' (by simpa using x) (by simpa using y)
theorem call_dictR (hc : X.calm = true) : CallR X (.type "dict") (fun xs H Q => ∃ (r l : Addr) (ts : List Addr) (kvs : List (Key × V)), xs = [.ref r] ∧ H r = some (rvO r l ts.length) ∧ H l = some (.lst (ts.map V.ref)) ∧ ts.length = kvs.length ∧ (kvs.map (·.1)).Nodup ∧
    (∀ (j : Nat) (t : Addr) (k : Key) (v : V), ts[j]? = some t → kvs[j]? = some (k, v) → H t = some (.tup [kV k, v])) ∧ ∀ p, H p = none → Q (.ref p) (upd (upd H r (anyO r)) p (.dK kvs.reverse))) := by
  intro pins s σ H xs us Q I rv h
  obtain ⟨r, l, ts, kvs, rfl, er, el, len, nd, tu, q⟩ := h
  obtain ⟨u, rfl, ru⟩ := rv.one
  cases ru
  obtain ⟨hr, _, _⟩ : ObjOk X.prog X.w H s.heap r (rvO r l ts.length) := I.hok r _ er
  obtain ⟨z, its, n, rel, hl⟩ : ObjOk X.prog X.w H s.heap l (.lst (ts.map V.ref)) := I.hok l _ el
  have hi := valsRefs ts rel
  subst hi
  obtain ⟨vs, kv, vt⟩ := pairs_of I len tu
  have kl := kv.length
  have z' : vs.length ≤ sizeLine := by rw [List.length_map] at z; omega
  have nd' : (vs.map (·.1)).Nodup := by rw [← kv_keys kv]; exact nd
  refine RV.dict_rev (knd := mixKind X.prog X.w) (l := l) (ys := (ts.map Value.ref).toArray) (vs := vs) (I.ok.hd hc) (by have := hr; simpa using this) ⟨_, hl, rfl, n, rfl⟩ ⟨by simp; omega, fun j k v e => ?_⟩ nd' z' fun k tk ko kr kd => ?_
  · have jl : j < ts.length := by have := (List.getElem?_eq_some_iff.mp e).1; omega
    obtain ⟨key, n, o, h1, h2⟩ := vt j ts[j] k v (List.getElem?_eq_getElem jl) e
    exact ⟨ts[j], key, n, by simp [jl], h1, o, h2⟩
  · have rlt : r < s.heap.objs.size := I.hok.lt er
    have pr : s.heap.objs.size ≠ r := Nat.ne_of_gt rlt
    have old : ∀ b, b ≠ r → b < s.heap.objs.size → upd (upd H r (anyO r)) s.heap.objs.size (.dK kvs.reverse) b = H b := fun b h1 h2 => by rw [upd_ne (Nat.ne_of_lt h2), upd_ne h1]
    have atr : upd (upd H r (anyO r)) s.heap.objs.size (.dK kvs.reverse) r = some (anyO r) := by rw [upd_ne (Ne.symm pr), upd_same]
    have lt : ∀ b o, b ≠ r → H b = some o → upd (upd H r (anyO r)) s.heap.objs.size (.dK kvs.reverse) b = some o := fun b o h1 e => by rw [old b h1 (I.hok.lt e)]; exact e
    have nr : ∀ b o, H b = some o → o ≠ rvO r l ts.length → b ≠ r := fun b o e h1 h2 => by rw [h2, er] at e; cases e; exact h1 rfl
    refine ⟨.ref s.heap.objs.size, _, I.call' (s' := { s with heap := k, toks := tk }) (ch := []) rfl ⟨fun b o y h1 _ _ => ko b o (ne_of_none er h1).symm y, fun b o y h1 _ _ => ⟨o.slots, ko b o (ne_of_none er h1).symm y⟩, fun b o y h1 _ => by rw [old b (ne_of_none er h1).symm (Heap.lt_size y)]; exact h1, fun b o y _ => ?_, fun b xs e => lt b _ (nr b _ e (fun z => by unfold rvO at z; cases z)) e, fun b o u e => lt b _ (nr b _ e (fun z => by unfold rvO at z; cases z)) e, fun b ps e => ⟨#[], by rw [Array.append_empty]; exact lt b _ (nr b _ e (fun z => by unfold rvO at z; cases z)) e⟩⟩ (fun b o e => ?_) I.bare (fun b hb => by cases hb), rfl, q _ (I.hok.fresh (Nat.le_refl _))⟩
    · by_cases c : b = r
      · rw [c]; exact kr
      · exact ⟨o, ko b o c y⟩
    · by_cases c1 : b = s.heap.objs.size
      · subst c1
        rw [upd_same] at e
        cases e
        exact dk_new (by simp; omega) (beq_eq_false_iff_ne.mpr (Ne.symm (Nat.ne_of_lt I.big))) (kv_rev kv) kd
      · by_cases c2 : b = r
        · subst c2
          rw [atr] at e
          cases e
          exact ⟨kr, kr, fun h1 h2 ⟨o, y⟩ x => ⟨o, x o y⟩⟩
        · rw [upd_ne c1, upd_ne c2] at e
          refine (I.hok b o e).stay (fun c u h y => ko c u ?_ y) (fun c e' => lt c _ (nr c _ e' (fun z => by unfold rvO at z; cases z)) e') fun c xs e' => lt c _ (nr c _ e' (fun z => by unfold rvO at z; cases z)) e'
          rcases h with h | h
          · rw [h]; exact c2
          · exact nr c _ h (fun z => by unfold rvO at z; cases z)
end
end L2
set_option Elab.async false
set_option linter.all false
set_option maxRecDepth 100000
set_option maxHeartbeats 4000000
local macro_rules | `(tactic| walk_at "lc") => `(tactic| first | exact Or.inl rfl | exact Or.inr rfl)
local macro_rules | `(tactic| walk_at "nm") => `(tactic| first | assumption | exact List.not_mem_nil | (refine L2.nm1 ?_; walk_at "ne") | (refine L2.nm2 ?_ ?_ <;> walk_at "ne") | (refine L2.nm3 ?_ ?_ ?_ <;> walk_at "ne"))
local macro_rules | `(tactic| walk_at "lk") => `(tactic| first | assumption | exact L2.upd_same | (refine (L2.upd_ne ?_).trans ?_; walk_at "ne"; walk_at "lk") | (refine L2.Kp.look (by assumption) ?_ ?_; walk_at "lk"; walk_at "nm"))
local macro_rules | `(tactic| walk_at "ne") => `(tactic| first | assumption | (refine Ne.symm ?_; assumption) | (refine L2.ne_fre (by assumption) ?_; walk_at "lk") | (refine Ne.symm (L2.ne_fre (by assumption) ?_); walk_at "lk"))
local macro_rules | `(tactic| walk_at "bd") => `(tactic| first | decide | omega | (dsimp only; first | decide | omega))
local macro_rules | `(tactic| walk_at "ml") => `(tactic| first | exact Or.inr ⟨by decide, by decide⟩ | exact Or.inl ⟨by omega, by omega⟩ | exact Or.inr ⟨by omega, by omega⟩)
local macro_rules | `(tactic| walk_at "ln") => `(tactic| first | decide | (have hsz := PySem.sizeLine_eq; simp only [List.length_cons, List.length_nil, List.length_map, List.length_append] at *; omega))
local macro_rules | `(tactic| walk_at "ix") => `(tactic| first | rfl | assumption | (refine L2.atI_natc ?_; assumption))
local macro_rules | `(tactic| walk_at "vs") => `(tactic| first | exact Or.inl rfl | exact Or.inr (Or.inl rfl) | exact Or.inr (Or.inr rfl))
local macro_rules | `(tactic| walk_at "vk") => `(tactic| first | exact Or.inl rfl | exact Or.inr rfl)
local macro_rules | `(tactic| walk_at "vf") => `(tactic| first | decide +kernel | (simp only [List.mem_cons]; decide))
namespace My
open PySem L2
def top (i : Nat) : Stmt := PySem.Challenge.pw_levelbench_k65_lateness_of_plans.main.body.getD i (.Pass ⟨0, 0, 0, 0⟩)
structure Txt (K : PySem.W.Frag) (mg : Str → Option Value) : Prop where
  z_len : mg "len" = none
  z_max : mg "max" = none
  z_range : mg "range" = none
  z_int : mg "int" = none
  z_list : mg "list" = none
  z_min : mg "min" = none
  z_dict : mg "dict" = none
  z_reversed : mg "reversed" = none
  z_enumerate : mg "enumerate" = none
  z_bool : mg "bool" = none
  z_isinstance : mg "isinstance" = none
section
variable {P : Program} {w : World} {K : PySem.W.Frag} {mg : Str → Option Value} {base : Heap}
def Purse (H : Hp) (p : Addr) : Prop := ∃ a b : Int, H p = some (.lst [.int a, .int b]) ∧ 0 ≤ a ∧ 0 ≤ b ∧ b < 2147483629
theorem Purse.kp {M : List Addr} {H H' : Hp} {p : Addr} (h : Purse H p) (k : Kp M H H') (n : p ∉ M) : Purse H' p := by
  obtain ⟨a, b, e, r⟩ := h
  exact ⟨a, b, k p _ e n, r⟩
def spTake : Sp := fun vs H Q _ => ∃ (p : Addr) (m : Int), vs = [.ref p, .int m] ∧ Purse H p ∧ 1 ≤ m ∧ m < 10 ^ 100 ∧ ∀ (d : Int) (H' : Hp), 0 ≤ d → d < m → Purse H' p → Kp [p] H H' → Q (.int d) H'
abbrev s_take : Stmt := top 5
theorem sc_take : FnScope ["_law_purse_here", "_law_many", "_law_digit"] ["_law_purse_here", "_law_many"] (defScope s_take) := ⟨rfl, rfl, rfl, by decide +kernel, rfl, by decide +kernel, by decide +kernel⟩
theorem ok_take {f : Addr} {fd : FuncData} (F : Fun K "_law_take" "_law_take" s_take f fd) : FnOk P w K mg base CX0 1 f fd ["_law_purse_here", "_law_many"] spTake := by
  refine F.ok sc_take (fun vs H Q E h => ?_) (fun cdv A outer s H vs Q E hr h => ?_)
  · obtain ⟨p, m, rfl, _⟩ := h
    rfl
  · obtain ⟨p, m, rfl, ⟨a, b, hp, ha, hb, hb'⟩, hm, hm', k⟩ := h
    refine ⟨_, (pss_cons (ps_if (pt_cmpR op_gt (pe_ix ix_list (pv 0) pe_int (fun _ _ => rfl)) pe_int (nomark _))
        (pss_cons (ps_set (i := 2) sc_take.nd rfl (by walk_at "lc") (pe_op op_mod (pe_ix ix_list (pv 0) pe_int (fun _ _ => rfl)) (pv 1)))
        (pss_cons (ps_asg (pe_op op_fdivB (pe_ix ix_list (pv 0) pe_int (fun _ _ => rfl)) (pv 1)) (pg_sub (pv 0) pe_int set_list))
        (pss_one (ps_ret (pv 2)))))
        pss_nil)
      (pss_cons (ps_asg (pe_op op_mod (pe_op op_add (pe_op op_mul (pe_ix ix_list (pv 0) pe_int (fun _ _ => rfl)) pe_int) pe_int) pe_int) (pg_sub (pv 0) pe_int set_list))
      (pss_one (ps_ret (pe_op op_mod (pe_op op_fdiv (pe_op op_mod (pe_op op_mul (pe_ix ix_list (pv 0) pe_int (fun _ _ => rfl)) (pe_ix ix_list (pv 0) pe_int (fun _ _ => rfl))) pe_int) pe_int) (pv 1)))))), ?_⟩
    refine ⟨_, rfl, _, _, _, _, rfl, rfl, SqL.of (by walk_at "lk"), (by walk_at "ix"), _, _, rfl, rfl, _, rfl, ?_⟩
    refine ite2 (fun c => ?_) (fun c => ?_)
    · have c' : 0 < a := by simpa using c
      refine ⟨_, rfl, _, _, _, _, rfl, rfl, SqL.of (by walk_at "lk"), (by walk_at "ix"), _, rfl, _, _, rfl, rfl, (by walk_at "bd"), ?_⟩
      refine ⟨_, rfl, _, _, _, _, rfl, rfl, SqL.of (by walk_at "lk"), (by walk_at "ix"), _, rfl, _, _, rfl, rfl, ⟨by walk_at "bd", hm'⟩, _, rfl, _, _, _, _, rfl, rfl, (by walk_at "lk"), (by walk_at "ix"), ?_⟩
      refine ⟨_, rfl, ?_⟩
      refine k _ _ (Int.emod_nonneg _ (by omega)) (Int.emod_lt_of_pos _ (by omega)) ⟨a / m, b, upd_same, Int.ediv_nonneg ha (by omega), hb, hb'⟩ (Kp.put Kp.refl (by simp))
    · refine ⟨_, rfl, _, _, _, _, rfl, rfl, SqL.of (by walk_at "lk"), (by walk_at "ix"), _, _, rfl, rfl, (by walk_at "ml"), _, _, rfl, rfl, _, _, rfl, rfl, (by walk_at "bd"), _, rfl, _, _, _, _, rfl, rfl, (by walk_at "lk"), (by walk_at "ix"), ?_⟩
      have h1 := Int.emod_nonneg (b * 39373 + 7919) (show (2147483629 : Int) ≠ 0 by decide)
      have h2 := Int.emod_lt_of_pos (b * 39373 + 7919) (show (0 : Int) < 2147483629 by decide)
      refine ⟨_, rfl, _, _, _, _, rfl, rfl, SqL.of (by walk_at "lk"), (by walk_at "ix"), _, rfl, _, _, _, _, rfl, rfl, SqL.of (by walk_at "lk"), (by walk_at "ix"), _, _, rfl, rfl, (by walk_at "ml"), _, _, rfl, rfl, (by walk_at "bd"), _, _, rfl, rfl, ⟨by walk_at "bd", by walk_at "bd"⟩, _, rfl, _, _, rfl, rfl, (by walk_at "bd"), ?_⟩
      refine k _ _ (Int.emod_nonneg _ (by omega)) (Int.emod_lt_of_pos _ (by omega)) ⟨a, _, upd_same, ha, h1, h2⟩ (Kp.put Kp.refl (by simp))
def spPurse : Sp := fun vs H Q _ => ∃ (c k : Int), vs = [.int c, .int k] ∧ -(2 ^ 31) < k ∧ k < 2 ^ 31 ∧ ∀ (p : Addr) (H' : Hp), Fre H p → Purse H' p → Kp [] H H' → Q (.ref p) H'
abbrev s_purse : Stmt := top 4
theorem sc_purse : FnScope ["_law_cell_here", "_law_k", "_law_number"] ["_law_cell_here", "_law_k"] (defScope s_purse) := ⟨rfl, rfl, rfl, by decide +kernel, rfl, by decide +kernel, by decide +kernel⟩
theorem ok_purse {f : Addr} {fd : FuncData} (F : Fun K "_law_purse" "_law_purse" s_purse f fd) (T : Txt K mg) : FnOk P w K mg base CX0 1 f fd ["_law_cell_here", "_law_k"] spPurse := by
  refine F.ok sc_purse (fun vs H Q E h => ?_) (fun cdv A outer s H vs Q E hr h => ?_)
  · obtain ⟨p, m, rfl, _⟩ := h
    rfl
  · obtain ⟨c, n, rfl, hn, hn', k⟩ := h
    refine ⟨_, (pss_cons (ps_set (i := 2) sc_purse.nd rfl (by walk_at "lc") (pe_op op_mod (pe_op op_add (pe_op op_add (pe_op op_mul (pe_op op_mod (pv 0) pe_int) pe_int) (pe_op op_mul (pe_op op_mul (pv 1) (pv 1)) pe_int)) pe_int) pe_int))
      (pss_one (ps_ret (pe_lst (pa_cons (pe_callB (call_max2 rfl) (by rfl) T.z_max bo_max (pa_cons pe_int (pa_cons (pe_op op_sub (pv 0) (pe_op op_pow pe_int pe_int)) pa_nil))) (pa_cons (pe_op op_mod (pe_op op_mul (pv 2) (pv 2)) pe_int) pa_nil)))))), ?_⟩
    refine ⟨_, rfl, _, _, rfl, rfl, (by walk_at "bd"), _, _, rfl, rfl, (by walk_at "ml"), _, rfl, _, rfl, _, _, rfl, rfl, (by walk_at "ml"), _, _, rfl, rfl, (by walk_at "ml"), _, _, rfl, rfl, _, _, rfl, rfl, _, _, rfl, rfl, (by walk_at "bd"), ?_⟩
    generalize c % 2147483629 * 48271 + n * n * 69623 + 11 = y
    have h1 := Int.emod_nonneg y (show (2147483647 : Int) ≠ 0 by decide)
    have h2 := Int.emod_lt_of_pos y (show (0 : Int) < 2147483647 by decide)
    refine ⟨_, rfl, _, _, rfl, rfl, ⟨by decide, by decide, by decide⟩, _, _, rfl, rfl, _, _, rfl, _, rfl, _, rfl, _, _, rfl, rfl, (by walk_at "ml"), _, _, rfl, rfl, (by walk_at "bd"), (by walk_at "ln"), fun p hp => ?_⟩
    refine k p _ hp ⟨_, _, upd_same, ?_, Int.emod_nonneg _ (by decide), Int.emod_lt_of_pos _ (by decide)⟩ (Kp.new Kp.refl hp)
    split <;> omega
def spCell (K : PySem.W.Frag) : Sp := fun vs H Q _ => ∃ (a : Addr) (ns : List Int) (k : Int), vs = [.ref a, .int k] ∧ SqL K H a (ns.map V.int) ∧ 0 ≤ k ∧ ∀ c : Int, Q (.int c) H
abbrev s_cell : Stmt := top 3
theorem sc_cell : FnScope ["_law_script", "_law_k"] ["_law_script", "_law_k"] (defScope s_cell) := ⟨rfl, rfl, rfl, by decide +kernel, rfl, by decide +kernel, by decide +kernel⟩
theorem ok_cell {f : Addr} {fd : FuncData} (F : Fun K "_law_cell" "_law_cell" s_cell f fd) (T : Txt K mg) : FnOk P w K mg base CX0 1 f fd ["_law_script", "_law_k"] (spCell K) := by
  refine F.ok sc_cell (fun vs H Q E h => ?_) (fun cdv A outer s H vs Q E hr h => ?_)
  · obtain ⟨p, m, n, rfl, _⟩ := h
    rfl
  · obtain ⟨a, ns, n, rfl, hS, hn, k⟩ := h
    refine ⟨_, (pss_one (ps_ret (pe_ifExp (pt_cmpR op_lt (pv 1) (pe_callB call_len_seq (by rfl) T.z_len bo_len (pa_cons (pv 0) pa_nil)) (nomark _)) (pe_ix ix_list (pv 0) (pv 1) (fun _ _ => rfl)) pe_int))), ?_⟩
    refine ⟨_, rfl, _, rfl, _, _, rfl, .inl hS, _, _, rfl, rfl, _, rfl, ?_⟩
    refine ite2 (fun c => ?_) (fun c => ?_)
    · have c' : n < ns.length := by simpa using c
      have hx : (ns.map V.int)[n.toNat]? = some (V.int (ns[n.toNat]'(by omega))) := by simp
      refine ⟨_, rfl, _, rfl, _, _, _, _, rfl, rfl, hS, atI_at hn hx, k _⟩
    · exact k _
end
end My
set_option Elab.async false
set_option linter.all false
set_option maxRecDepth 100000
set_option maxHeartbeats 4000000
namespace My
open PySem L2
def NameS (s : Str) : Prop := 1 ≤ s.length ∧ s.length ≤ 8 ∧ ∀ c ∈ s.cps.toList, 97 ≤ c ∧ c ≤ 122
def WordS (n : Nat) (s : Str) : Prop := s.length = n ∧ ∀ c ∈ s.cps.toList, 97 ≤ c ∧ c ≤ 122
theorem len_app (a b : Str) : (a ++ b).length = a.length + b.length := by
  show (a ++ b).cps.size = _
  rw [Str.cps_append, Array.size_append]; rfl
theorem WordS.more {n : Nat} {s : Str} (h : WordS n s) {c : Nat} (h1 : 97 ≤ c) (h2 : c ≤ 122) : WordS (n + 1) (s ++ ⟨#[c]⟩) := by
  refine ⟨by rw [len_app, h.1]; rfl, fun x hx => ?_⟩
  rw [Str.cps_append, Array.toList_append] at hx
  rcases List.mem_append.mp hx with z | z
  · exact h.2 x z
  · have : x = c := by simpa using z
    omega
def letters : Str := "abcdefghijklmnopqrstuvwxyz"
theorem letters_list : letters.cps.toList = (List.range 26).map (97 + ·) := by decide +kernel
theorem letters_at {d : Int} (h0 : 0 ≤ d) (h1 : d < 26) : atI letters.cps.toList d = some (97 + d.toNat) := by
  refine atI_at h0 ?_
  have : d.toNat < 26 := by omega
  rw [letters_list, List.getElem?_map, List.getElem?_range this]
  rfl
section
variable {P : Program} {w : World} {K : PySem.W.Frag} {mg : Str → Option Value} {base : Heap}
end
end My
set_option Elab.async false
set_option linter.all false
set_option maxRecDepth 100000
set_option maxHeartbeats 4000000
namespace My
open PySem L2
abbrev Txs (H : Hp) (l : Addr) (ns : List Str) : Prop := H l = some (.lst (ns.map V.str))
theorem inV_str (x : Str) (ns : List Str) : inV (.str x) (ns.map V.str) = decide (x ∈ ns) := by
  unfold inV
  induction ns with
  | nil => rfl
  | cons n r ih =>
    rw [List.map_cons, List.any_cons, ih]
    show ((n == x) || _) = _
    by_cases e : n = x
    · subst e; simp
    · have e' : ¬ x = n := fun z => e z.symm
      rw [beq_eq_false_iff_ne.mpr e]
      simp [e']
theorem flat_strs (ns : List Str) : (ns.map V.str).all flatV = true := by simp [flatV]
theorem take_snoc {α : Type} {xs : List α} {i : Nat} {x : α} (h : xs[i]? = some x) : xs.take (i + 1) = xs.take i ++ [x] := by rw [List.take_succ, h]; rfl
theorem str_at {ns : List Str} {i : Nat} {v : V} (h : (ns.map V.str)[i]? = some v) : ∃ n, ns[i]? = some n ∧ v = .str n := by
  rw [List.getElem?_map] at h
  obtain ⟨n, e, r⟩ := Option.map_eq_some_iff.mp h
  exact ⟨n, e, r.symm⟩
theorem sub_len : ∀ {A B : List Str}, A.Nodup → (∀ x ∈ A, x ∈ B) → A.length ≤ B.length
  | [], B, _, _ => Nat.zero_le _
  | a :: A, B, h, hs => by
    obtain ⟨h1, h2⟩ := List.nodup_cons.mp h
    have hb := hs a List.mem_cons_self
    have := sub_len (B := B.erase a) h2 fun x hx => (List.mem_erase_of_ne fun e => h1 (by rw [← e]; exact hx)).mpr (hs x (List.mem_cons_of_mem _ hx))
    rw [List.length_erase_of_mem hb] at this
    have := List.length_pos_of_mem hb
    rw [List.length_cons]; omega
theorem filt_yes {α : Type} {p : α → Bool} {xs : List α} {i : Nat} {x : α} (e : xs[i]? = some x) (h : p x = true) : (xs.take (i + 1)).filter p = (xs.take i).filter p ++ [x] := by
  rw [take_snoc e, List.filter_append, List.filter_cons, if_pos h]; rfl
theorem filt_no {α : Type} {p : α → Bool} {xs : List α} {i : Nat} {x : α} (e : xs[i]? = some x) (h : ¬ p x = true) : (xs.take (i + 1)).filter p = (xs.take i).filter p := by
  rw [take_snoc e, List.filter_append, List.filter_cons, if_neg h]; simp
theorem filt_len {α : Type} {p : α → Bool} {xs : List α} {i : Nat} (h : xs.length ≤ 4096) : (((xs.take i).filter p)).length < sizeLine := by
  have h1 := List.length_filter_le p (xs.take i)
  rw [List.length_take] at h1
  rw [sizeLine_eq]; omega
def singles : List Str := letters.cps.toList.map fun c => ⟨#[c]⟩
theorem singles_len : singles.length = 26 := by
  unfold singles
  rw [letters_list]; simp
theorem singles_nd : singles.Nodup := by decide +kernel
theorem single_ok {x : Str} (h : x ∈ singles) : NameS x := by
  unfold singles at h
  rw [letters_list] at h
  obtain ⟨c, hc, rfl⟩ := List.mem_map.mp h
  obtain ⟨i, hi, rfl⟩ := List.mem_map.mp hc
  have := List.mem_range.mp hi
  refine ⟨Nat.le_refl 1, by show 1 ≤ 8; decide, fun d hd => ?_⟩
  have : d = 97 + i := by simpa using hd
  omega
theorem some_single {found : List Str} (h : found.length ≤ 20) : (singles.filter fun x => decide (x ∉ found)) ≠ [] := fun z => by
  have : singles.length ≤ found.length := sub_len singles_nd fun x hx => by
    apply Classical.byContradiction
    intro y
    have : x ∈ singles.filter fun x => decide (x ∉ found) := List.mem_filter.mpr ⟨hx, decide_eq_true y⟩
    rw [z] at this; exact nomatch this
  rw [singles_len] at this
  omega
section
variable {P : Program} {w : World} {K : PySem.W.Frag} {mg : Str → Option Value} {base : Heap}
def spLNames : Sp := fun vs H Q _ => ∃ (p : Addr) (m : Int), vs = [.ref p, .int m] ∧ Purse H p ∧ 0 ≤ m ∧ m ≤ 20 ∧ ∀ (l : Addr) (ns : List Str) (H' : Hp), Fre H l → Txs H' l ns → ns.length = m.toNat → ns.Nodup → (∀ n ∈ ns, NameS n) → Purse H' p → Kp [p] H H' → Q (.ref l) H'
abbrev s_names : Stmt := top 6
theorem sc_names : FnScope ["_law_purse_here", "_law_many", "_law_letters", "_law_found", "_law_k", "_law_word", "_law_j"] ["_law_purse_here", "_law_many"] (defScope s_names) := ⟨rfl, rfl, rfl, by decide +kernel, rfl, by decide +kernel, by decide +kernel⟩
theorem ok_names {f : Addr} {fd : FuncData} (F : Fun K "_law_names" "_law_names" s_names f fd) (T : Txt K mg) (C_take : Cal P w K mg base "_law_take" 1 ["_law_purse_here", "_law_many"] spTake) : FnOk P w K mg base CX0 2 f fd ["_law_purse_here", "_law_many"] spLNames := by
  refine F.ok sc_names (fun vs H Q E h => ?_) (fun cdv A outer s H vs Q E hr h => ?_)
  · obtain ⟨p, m, rfl, _⟩ := h
    rfl
  · obtain ⟨p, m, rfl, hP, h0, h1, k⟩ := h
    have HR_take := hr
    refine ⟨_, (pss_cons (ps_set (i := 2) sc_names.nd rfl (by walk_at "lc") pe_str)
      (pss_cons (ps_set (i := 3) sc_names.nd rfl (by walk_at "lc") (pe_lst pa_nil))
      (pss_cons (ps_for PassesOwn.never rfl (pi_range1 rfl T.z_range (pa_cons (pv 1) pa_nil)) (pg_name (i := 4) sc_names.nd rfl (by walk_at "lc"))
        (pss_cons (ps_set (i := 5) sc_names.nd rfl (by walk_at "lc") pe_str)
        (pss_cons (ps_for PassesOwn.never rfl (pi_range1 rfl T.z_range (pa_cons (pe_op op_add pe_int (pe_op op_mul (pe_callC C_take HR_take rfl (pa_cons (pv 0) (pa_cons pe_int pa_nil))) (pe_callC C_take HR_take rfl (pa_cons (pv 0) (pa_cons pe_int pa_nil))))) pa_nil)) (pg_name (i := 6) sc_names.nd rfl (by walk_at "lc"))
          (pss_one (ps_set (i := 5) sc_names.nd rfl (by walk_at "lc") (pe_op op_add_str (pv 5) (pe_ix ix_str (pv 2) (pe_callC C_take HR_take rfl (pa_cons (pv 0) (pa_cons pe_int pa_nil))) (fun _ _ => rfl))))))
        (pss_cons (ps_if (pt_cmpR op_in_seq (pv 5) (pv 3) (by rfl))
          (pss_one (ps_set (i := 5) sc_names.nd rfl (by walk_at "lc") (pe_ix ix_list (pe_comp rfl (blk_mk (sc := defScope s_names) rfl (by decide +kernel)) (Draws.own (x := "_law_letter") (Draws.tk (i := 3) rfl (by walk_at "vs") (by walk_at "vk") (by walk_at "vf") Draws.nil)) (pi_str (pv 2)) (fun C s₀ H₀ ex => (pg_name (i := 0) (show List.Nodup (["_law_letter", "_law_found"] : List Str) by decide +kernel) rfl (by walk_at "lc"))) (fun C s₀ H₀ ex => (pts_one (pt_cmpR (op_notIn_seqK (K := K)) (pv 0) (pv 1) (by rfl)))) (fun C s₀ H₀ ex => (pv 0))) pe_int (fun _ _ => rfl))))
          pss_nil)
        (pss_one (ps_expr (pe_bm PySem.F.plainAttrs_list PySem.F.slot_list_append PySem.F.type_list_append mt_append (pv 3) (pa_cons (pv 5) pa_nil))))))))
      (pss_one (ps_ret (pv 3)))))), ?_⟩
    refine ⟨(by walk_at "ln"), fun l hl => ?_⟩
    have fl : Fre H l := hl
    have npl : p ≠ l := by obtain ⟨a, b, e, _⟩ := hP; exact ne_fre fl e
    have hP1 : Purse (upd H l (.lst [])) p := hP.kp (M := []) (Kp.new Kp.refl fl) (by simp)
    refine ⟨_, rfl, _, rfl, by omega, by omega, for_range (lo := 0) (n := m.toNat) (fun i σ H2 => ∃ (o4 o5 o6 : Option V) (ws : List Str), σ = [some (.ref p), some (.int m), some (.str letters), some (.ref l), o4, o5, o6] ∧ Purse H2 p ∧ Kp [p] H H2 ∧ Txs H2 l ws ∧ ws.length = i ∧ ws.Nodup ∧ ∀ s ∈ ws, NameS s)
      ⟨none, none, none, [], rfl, hP1, Kp.new Kp.refl fl, upd_same, rfl, List.nodup_nil, fun s h => nomatch h⟩ ?_ ?_⟩
    · rintro i σ H2 hi ⟨o4, o5, o6, ws, rfl, P2, K2, R2, e2, n2, q2⟩
      refine ⟨_, rfl, p, 2, rfl, P2, by decide, by decide, fun d1 H3 a0 a1 P3 K3 => ?_⟩
      refine ⟨_, rfl, p, 8, rfl, P3, by decide, by decide, fun d2 H4 b0 b1 P4 K4 => ?_⟩
      have hm0 : 0 ≤ d1 * d2 := Int.mul_nonneg a0 b0
      have hm1 : d1 * d2 ≤ 7 := by
        have : d1 * d2 ≤ 1 * 7 := Int.mul_le_mul (by omega) (by omega) b0 (by decide)
        omega
      have K24 : Kp [p] H2 H4 := K3.trans K4
      refine ⟨_, _, rfl, rfl, (by walk_at "ml"), _, _, rfl, rfl, _, rfl, by omega, by omega, for_range (lo := 0) (n := (1 + d1 * d2).toNat) (fun n σ H7 => ∃ (o4 o6 : Option V) (x : Str), σ = [some (.ref p), some (.int m), some (.str letters), some (.ref l), o4, some (.str x), o6] ∧ Purse H7 p ∧ Kp [p] H2 H7 ∧ WordS n x)
        ⟨_, _, _, rfl, P4, K24, rfl, (fun c h => absurd (show c ∈ ([] : List Nat) from h) (by simp))⟩ ?_ ?_⟩
      · rintro n σ H7 hn ⟨o4, o6, x, rfl, P8, K7, W⟩
        refine ⟨_, rfl, _, rfl, _, rfl, p, 26, rfl, P8, by decide, by decide, fun d4 H8 e0 e1 P9 K8 => ?_⟩
        refine ⟨_, _, _, rfl, rfl, by decide, letters_at e0 e1, _, _, rfl, rfl, ?_, ?_⟩
        · rw [W.1]
          show n + 1 ≤ sizeLine
          rw [sizeLine_eq]; omega
        · exact ⟨_, _, _, rfl, P9, K7.trans K8, W.more (by omega) (by omega)⟩
      · rintro σ H7 ⟨o4, o6, x, rfl, P8, K7, W⟩
        have h7 : Txs H7 l ws := K7 l _ R2 (nm1 npl.symm)
        have NX : NameS x := ⟨by have := W.1; omega, by have := W.1; omega, W.2⟩
        refine ⟨_, rfl, _, rfl, _, _, rfl, .inl (SqL.of h7), rfl, flat_strs ws, _, rfl, ?_⟩
        rw [if_neg (by decide), inV_str]
        refine if_mid (fun σ H8 => ∃ (y : Str), σ = [some (.ref p), some (.int m), some (.str letters), some (.ref l), o4, some (.str y), o6] ∧ Kp [] H7 H8 ∧ NameS y ∧ y ∉ ws) (fun N hN => ite2 (fun c => ?_) (fun c => ?_)) ?_
        · -- _law_word = [..][0]
          refine ⟨_, rfl, _, rfl, fun B hB => comp_str (z := letters) (fun i ys τ H8 => (∃ o0, τ = [o0, some (.ref l)]) ∧ ys = ((singles.take i).filter fun x => decide (x ∉ ws)).map V.str ∧ H8 = upd H7 B (.lst ys)) ⟨⟨_, rfl⟩, rfl, rfl⟩ ?_ ?_⟩
          · rintro i c ys τ H8 hc ⟨⟨o0, rfl⟩, rfl, rfl⟩
            have en : singles[i]? = some ⟨#[c]⟩ := by unfold singles; rw [List.getElem?_map, hc]; rfl
            refine ⟨_, rfl, _, rfl, _, _, rfl, .inl (SqL.of ((upd_ne (ne_fre (show Fre H7 B from hB) h7)).trans h7)), rfl, flat_strs ws, _, rfl, ?_⟩
            rw [if_pos rfl, inV_str]
            have ed : (!decide ((⟨#[c]⟩ : Str) ∈ ws)) = decide ((⟨#[c]⟩ : Str) ∉ ws) := by
              by_cases z : (⟨#[c]⟩ : Str) ∈ ws
              · simp [z]
              · simp [z]
            rw [ed]
            refine ite2 (fun c => ?_) (fun c => ?_)
            · refine ⟨_, rfl, upd_same, ?_, ⟨_, rfl⟩, ?_, upd_upd⟩
              · rw [List.length_map]; exact filt_len (by rw [singles_len]; decide)
              · rw [filt_yes (p := fun x => decide (x ∉ ws)) en c, List.map_append]; rfl
            · refine ⟨⟨_, rfl⟩, ?_, ?_⟩
              · rw [filt_no (p := fun x => decide (x ∉ ws)) en c]
              · rfl
          · rintro ys τ H8 ⟨_, rfl, rfl⟩
            have eT : singles.take letters.length = singles := List.take_of_length_le (by rw [singles_len]; decide)
            rw [eT]
            have hne := some_single (found := ws) (by omega)
            have hmm : ∀ y, y ∈ (singles.filter fun x => decide (x ∉ ws)) → NameS y ∧ y ∉ ws := fun y hy => by
              have := List.mem_filter.mp hy
              exact ⟨single_ok this.1, of_decide_eq_true this.2⟩
            generalize (singles.filter fun x => decide (x ∉ ws)) = L at hne hmm
            obtain ⟨y, r, rfl⟩ : ∃ y r, L = y :: r := by
              cases L with
              | nil => exact absurd rfl hne
              | cons y r => exact ⟨y, r, rfl⟩
            refine ⟨_, _, _, .str y, rfl, rfl, SqL.of upd_same, atI_at (by decide) rfl, ?_⟩
            exact hN _ _ ⟨y, rfl, Kp.new Kp.refl hB, (hmm y List.mem_cons_self).1, (hmm y List.mem_cons_self).2⟩
        · exact hN _ _ ⟨x, rfl, Kp.refl, NX, fun z => c (decide_eq_true z)⟩
        · rintro σ H8 ⟨y, rfl, K8, NY, ny⟩
          have h8 : Txs H8 l ws := K8 l _ h7 (by simp)
          refine ⟨_, rfl, .inl ⟨rfl, _, SqL.of h8⟩, _, rfl, _, _, _, rfl, rfl, h8, ?_, ?_⟩
          · rw [sizeLine_eq, List.length_map]; omega
          · refine ⟨_, _, _, ws ++ [y], rfl, (P8.kp K8 (by simp)).kp (M := [l]) (Kp.put Kp.refl (by simp)) (nm1 npl), Kp.new (K2.trans (K7.trans (K8.weak (by simp)))) fl, ?_, by simp [e2], ?_, fun s hs => ?_⟩
            · show upd H8 l _ l = some (.lst ((ws ++ [y]).map V.str))
              rw [upd_same, List.map_append]; rfl
            · refine List.nodup_append.mpr ⟨n2, by simp, fun a ha b hb => ?_⟩
              rw [List.mem_singleton.mp hb]
              rintro rfl
              exact ny ha
            · rcases List.mem_append.mp hs with z | z
              · exact q2 s z
              · rw [List.mem_singleton.mp z]; exact NY
    · rintro σ H2 ⟨o4, o5, o6, ws, rfl, P2, K2, R2, e2, n2, q2⟩
      exact ⟨_, rfl, k l ws H2 fl R2 e2 n2 q2 P2 K2⟩
end
end My
set_option Elab.async false
set_option linter.all false
set_option maxRecDepth 100000
set_option maxHeartbeats 4000000
namespace My
open PySem L2
theorem bo_reversed : bootBuiltins "reversed" = some (.type "reversed") := by decide +kernel
section
variable {kvs : List (Key × V)} {k : Key} {v : V}
theorem put_mem {y : Key × V} (h : y ∈ putK kvs k v) : y = (k, v) ∨ (y ∈ kvs ∧ y.1 ≠ k) := by
  unfold putK at h
  split at h
  · obtain ⟨z, hz, e⟩ := List.mem_map.mp h
    by_cases c : z.1 = k
    · rw [if_pos c] at e; rw [c] at e; exact .inl e.symm
    · rw [if_neg c] at e; subst e; exact .inr ⟨hz, c⟩
  · rename_i hn
    rcases List.mem_append.mp h with z | z
    · refine .inr ⟨z, fun c => hn ?_⟩
      rw [List.any_eq_true]
      exact ⟨y, z, decide_eq_true c⟩
    · exact .inl (by simpa using z)
theorem put_new : (k, v) ∈ putK kvs k v := by
  unfold putK
  split
  · rename_i h
    rw [List.any_eq_true] at h
    obtain ⟨z, hz, e⟩ := h
    have e := of_decide_eq_true e
    refine List.mem_map.mpr ⟨z, hz, ?_⟩
    rw [if_pos e, e]
  · simp
theorem put_stay {y : Key × V} (h : y ∈ kvs) (n : y.1 ≠ k) : y ∈ putK kvs k v := by
  unfold putK
  split
  · exact List.mem_map.mpr ⟨y, h, by rw [if_neg n]⟩
  · simp [h]
theorem put_nd (h : (kvs.map (·.1)).Nodup) : ((putK kvs k v).map (·.1)).Nodup := by
  unfold putK
  split
  · rw [List.map_map]
    have : ((fun x : Key × V => x.1) ∘ fun kv : Key × V => if kv.1 = k then (kv.1, v) else kv) = fun x => x.1 := funext fun x => by
      show (if x.1 = k then (x.1, v) else x).1 = x.1
      split <;> rfl
    rw [this]; exact h
  · rename_i hn
    rw [List.map_append, List.nodup_append]
    refine ⟨h, by simp, fun a ha b hb e => ?_⟩
    have hb : b = k := by simpa using hb
    obtain ⟨y, hy, e'⟩ := List.mem_map.mp ha
    apply hn
    rw [List.any_eq_true]
    exact ⟨y, hy, decide_eq_true (by rw [e', e, hb])⟩
theorem put_len : (putK kvs k v).length ≤ kvs.length + 1 := by
  unfold putK
  split <;> simp
theorem put_old {u : V} (h : (k, u) ∈ kvs) : (putK kvs k v).length = kvs.length := by
  unfold putK
  rw [if_pos (by rw [List.any_eq_true]; exact ⟨_, h, decide_eq_true rfl⟩), List.length_map]
theorem val_of : ∀ {kvs : List (Key × V)}, (kvs.map (·.1)).Nodup → (k, v) ∈ kvs → valV kvs k = some v
  | y :: r, nd, h => by
    obtain ⟨n1, n2⟩ := List.nodup_cons.mp nd
    show ((y :: r).find? fun kv => decide (kv.1 = k)).map (·.2) = some v
    rw [List.find?_cons]
    rcases List.mem_cons.mp h with z | z
    · subst z; simp
    · have : y.1 ≠ k := fun e => n1 (List.mem_map.mpr ⟨_, z, e.symm⟩)
      rw [decide_eq_false this]
      exact val_of n2 z
end
theorem kp_drop {M : List Addr} {e : Addr} {H H1 H2 : Hp} (a : Kp M H H1) (f : Fre H e) (b : Kp [e] H1 H2) : Kp M H H2 := fun c o h n => b c o (a c o h n) (nm1 (ne_fre f h))
theorem fre_back {H H' : Hp} {p d : Addr} (P : Purse H' p) (k : Kp [p] H H') (f : Fre H' d) : Fre H d := by
  cases z : H d with
  | none => exact z
  | some o =>
    by_cases c : d = p
    · subst c
      obtain ⟨x, y, e, _⟩ := P
      rw [show H' d = none from f] at e; cases e
    · have := k d o z (nm1 c)
      rw [show H' d = none from f] at this; cases this
structure EndsOk (kvs : List (Key × V)) (ns : List Str) : Prop where
  nd : (kvs.map (·.1)).Nodup
  whole : ∀ y ∈ kvs, ∃ x i, y = (Sum.inr x, V.int i)
  has : ∀ x ∈ ns, ∃ i, (Sum.inr x, V.int i) ∈ kvs
theorem EndsOk.put {kvs : List (Key × V)} {ns : List Str} (h : EndsOk kvs ns) (x : Str) (i : Int) : EndsOk (putK kvs (Sum.inr x) (.int i)) (ns ++ [x]) where
  nd := put_nd h.nd
  whole := fun y hy => by
    rcases put_mem hy with z | z
    · exact ⟨x, i, z⟩
    · exact h.whole y z.1
  has := fun y hy => by
    by_cases c : y = x
    · subst c; exact ⟨i, put_new⟩
    · rcases List.mem_append.mp hy with z | z
      · obtain ⟨j, hj⟩ := h.has y z
        exact ⟨j, put_stay hj (fun e => c (by cases e; rfl))⟩
      · exact absurd (by simpa using z) c
theorem EndsOk.again {kvs : List (Key × V)} {ns : List Str} {x : Str} (h : EndsOk kvs ns) (hx : x ∈ ns) (i : Int) : EndsOk (putK kvs (Sum.inr x) (.int i)) ns where
  nd := (h.put x i).nd
  whole := (h.put x i).whole
  has := fun y hy => (h.put x i).has y (by simp [hy])
theorem EndsOk.rev {kvs : List (Key × V)} {ns : List Str} (h : EndsOk kvs ns) : EndsOk kvs.reverse ns where
  nd := by rw [List.map_reverse]; exact (List.reverse_perm _).nodup_iff.mpr h.nd
  whole := fun y hy => h.whole y (List.mem_reverse.mp hy)
  has := fun x hx => by
    obtain ⟨i, hi⟩ := h.has x hx
    exact ⟨i, List.mem_reverse.mpr hi⟩
theorem pl_ne {H : Hp} {p l : Addr} {ns : List Str} (hP : Purse H p) (h : Txs H l ns) : p ≠ l := fun e => by
  obtain ⟨a, b, e1, _⟩ := hP
  rw [e] at e1
  have := e1.symm.trans h
  cases ns with
  | nil => simp at this
  | cons n r => simp at this
section
variable {P : Program} {w : World} {K : PySem.W.Frag} {mg : Str → Option Value} {base : Heap}
def spEnds : Sp := fun vs H Q _ => ∃ (p l : Addr) (ns : List Str), vs = [.ref p, .ref l] ∧ Purse H p ∧ Txs H l ns ∧ ns.length ≤ 20 ∧ ∀ (d : Addr) (kvs : List (Key × V)) (H' : Hp), Fre H d → H' d = some (.dK kvs) → EndsOk kvs ns → Purse H' p → Kp [p] H H' → Q (.ref d) H'
abbrev s_ends : Stmt := top 7
theorem sc_ends : FnScope ["_law_purse_here", "_law_names_here", "_law_base", "_law_wide", "_law_ends_here", "_law_name"] ["_law_purse_here", "_law_names_here"] (defScope s_ends) := ⟨rfl, rfl, rfl, by decide +kernel, rfl, by decide +kernel, by decide +kernel⟩
theorem four_at {z d : Int} (h0 : 0 ≤ d) (h1 : d < 4) : ∃ b, atI [V.int 0, V.int 0, V.int 1, V.int z] d = some (V.int b) := by
  have : d = 0 ∨ d = 1 ∨ d = 2 ∨ d = 3 := by omega
  rcases this with rfl | rfl | rfl | rfl
  · exact ⟨0, rfl⟩
  · exact ⟨0, rfl⟩
  · exact ⟨1, rfl⟩
  · exact ⟨z, rfl⟩
theorem ok_ends {f : Addr} {fd : FuncData} (F : Fun K "_law_ends" "_law_ends" s_ends f fd) (T : Txt K mg) (C_take : Cal P w K mg base "_law_take" 1 ["_law_purse_here", "_law_many"] spTake) : FnOk P w K mg base CX0 2 f fd ["_law_purse_here", "_law_names_here"] spEnds := by
  refine F.ok sc_ends (fun vs H Q E h => ?_) (fun cdv A outer s H vs Q E hr h => ?_)
  · obtain ⟨p, l, ns, rfl, _⟩ := h
    rfl
  · obtain ⟨p, l, ns, rfl, hP, hl, hn, k⟩ := h
    have HR_take := hr
    have hu := hu_of hr
    have npl := pl_ne hP hl
    refine ⟨_, (pss_cons (ps_set (i := 2) sc_ends.nd rfl (by walk_at "lc") (pe_ix ix_list (pe_lst (pa_cons pe_int (pa_cons pe_int (pa_cons pe_int (pa_cons (pe_op op_sub (pe_callC C_take HR_take rfl (pa_cons (pv 0) (pa_cons (pe_op op_mul pe_int (pe_op op_pow pe_int pe_int)) pa_nil))) (pe_op op_pow pe_int pe_int)) pa_nil))))) (pe_callC C_take HR_take rfl (pa_cons (pv 0) (pa_cons pe_int pa_nil))) (fun _ _ => rfl)))
      (pss_cons (ps_set (i := 3) sc_ends.nd rfl (by walk_at "lc") (pe_op op_add pe_int (pe_callC C_take HR_take rfl (pa_cons (pv 0) (pa_cons pe_int pa_nil)))))
      (pss_cons (ps_set (i := 4) sc_ends.nd rfl (by walk_at "lc") pe_dnewK)
      (pss_cons (ps_for PassesOwn.never rfl (pi_list (pv 1)) (pg_name (i := 5) sc_ends.nd rfl (by walk_at "lc"))
        (pss_cons (ps_dput hu (pv 4) (pv 5) (pe_op op_add (pv 2) (pe_callC C_take HR_take rfl (pa_cons (pv 0) (pa_cons (pv 3) pa_nil)))) rfl)
        (pss_one (ps_if (pt_cmpR op_eq (pe_callC C_take HR_take rfl (pa_cons (pv 0) (pa_cons pe_int pa_nil))) pe_int (nomark _))
          (pss_one (ps_dput hu (pv 4) (pv 5) (pe_op op_add (pe_op op_sub (pe_callC C_take HR_take rfl (pa_cons (pv 0) (pa_cons (pe_op op_sub (pe_op op_mul pe_int (pe_op op_pow pe_int pe_int)) pe_int) pa_nil))) (pe_op op_pow pe_int pe_int)) pe_int) rfl))
          pss_nil))))
      (pss_cons (ps_if (pt_cmpR op_eq (pe_callC C_take HR_take rfl (pa_cons (pv 0) (pa_cons pe_int pa_nil))) pe_int (nomark _))
        (pss_one (ps_ret (pe_callTy (call_dictR rfl) (by rfl) T.z_dict bo_dict (pa_cons (pe_callTy call_reversed (by rfl) T.z_reversed bo_reversed (pa_cons (pe_callTy (call_listV rfl) (by rfl) T.z_list bo_list (pa_cons (pe_bm0 PySem.F.plainAttrs_dict PySem.F.slot_dict_items PySem.F.type_dict_items mt_items (pv 4)) pa_nil)) pa_nil)) pa_nil))))
        pss_nil)
      (pss_one (ps_ret (pv 4)))))))), ?_⟩
    refine ⟨_, rfl, _, _, rfl, rfl, ⟨by decide, by decide, by decide⟩, _, _, rfl, rfl, (by walk_at "ml"), p, _, rfl, hP, by decide +kernel, by decide +kernel, fun d1 H1 a0 a1 P1 K1 => ?_⟩
    refine ⟨_, _, rfl, rfl, ⟨by decide, by decide, by decide⟩, _, _, rfl, rfl, (by walk_at "ln"), fun b hb => ?_⟩
    have fb : Fre H1 b := hb
    have KB : Kp [] H1 (upd H1 b (.lst [.int 0, .int 0, .int 1, .int (d1 - 10 ^ (59 : Int).toNat)])) := Kp.new Kp.refl fb
    have hbb : upd H1 b (.lst [.int 0, .int 0, .int 1, .int (d1 - 10 ^ (59 : Int).toNat)]) b = _ := upd_same
    have nbp : b ≠ p := by obtain ⟨x, y, e, _⟩ := P1; exact (ne_fre fb e).symm
    generalize upd H1 b (.lst [.int 0, .int 0, .int 1, .int (d1 - 10 ^ (59 : Int).toNat)]) = H2 at KB hbb
    have P2 : Purse H2 p := P1.kp KB (by simp)
    have K2 : Kp [p] H H2 := K1.trans (KB.weak (by simp))
    refine ⟨_, rfl, p, 4, rfl, P2, by decide, by decide, fun d2 H3 b0 b1 P3 K3 => ?_⟩
    obtain ⟨bb, e4⟩ := four_at (z := d1 - 10 ^ (59 : Int).toNat) b0 b1
    refine ⟨_, _, _, _, rfl, rfl, SqL.of (K3 b _ hbb (nm1 nbp)), e4, ?_⟩
    refine ⟨_, rfl, p, 12, rfl, P3, by decide, by decide, fun d3 H4 c0 c1 P4 K4 => ?_⟩
    refine ⟨_, _, rfl, rfl, ?_⟩
    have K5 : Kp [p] H H4 := (K2.trans K3).trans K4
    refine fun d hd => ?_
    have fd' : Fre H4 d := hd
    have fd0 : Fre H d := by
      cases z : H d with
      | none => exact z
      | some o =>
        by_cases c : d = p
        · subst c
          obtain ⟨x, y, e, _⟩ := P4
          rw [show H4 d = none from fd'] at e; cases e
        · have := K5 d o z (nm1 c)
          rw [show H4 d = none from fd'] at this; cases this
    have ndp : p ≠ d := by obtain ⟨x, y, e, _⟩ := P4; exact ne_fre fd' e
    have KD : Kp [] H4 (upd H4 d (.dK [])) := Kp.new Kp.refl fd'
    have h4 : Txs H4 l ns := K5 l _ hl (nm1 npl.symm)
    have ndl : l ≠ d := ne_fre fd' h4
    refine ⟨_, rfl, _, rfl, ⟨_, SqL.of (KD l _ h4 (by simp))⟩, for_list (xs := ns.map V.str) (fun i σ H6 => ∃ (kvs : List (Key × V)) (o5 : Option V), σ = [some (.ref p), some (.ref l), some (.int bb), some (.int (1 + d3)), some (.ref d), o5] ∧ Purse H6 p ∧ Kp [p] H H6 ∧ H6 d = some (.dK kvs) ∧ EndsOk kvs (ns.take i) ∧ kvs.length ≤ i)
      ⟨[], none, rfl, P4.kp KD (by simp), K5.trans (KD.weak (by simp)), upd_same, ⟨List.nodup_nil, (fun _ h => nomatch h), (fun x hx => by simp at hx)⟩, Nat.le_refl _⟩ (fun i σ H6 _ ⟨_, _, _, _, K6, _⟩ => SqL.of (K6 l _ hl (nm1 npl.symm))) ?_ ?_⟩
    · rintro i x σ H6 hx ⟨kvs, o5, rfl, P6, K6, h6, E6, n6⟩
      obtain ⟨nm, en, rfl⟩ := str_at hx
      have hi : i < ns.length := (List.getElem?_eq_some_iff.mp en).1
      refine ⟨_, rfl, _, rfl, _, rfl, p, 1 + d3, rfl, P6, by omega, by omega, fun d4 H7 e0 e1 P7 K7 => ?_⟩
      have h7 : H7 d = some (.dK kvs) := K7 d _ h6 (nm1 ndp.symm)
      refine ⟨_, _, rfl, rfl, _, rfl, _, rfl, _, _, rfl, DPut.k (k := Sum.inr nm) h7 (by rw [sizeLine_eq]; omega), ?_⟩
      have E8 : EndsOk (putK kvs (Sum.inr nm) (.int (bb + d4))) (ns.take (i + 1)) := by rw [take_snoc en]; exact E6.put nm _
      have n8 : (putK kvs (Sum.inr nm) (.int (bb + d4))).length ≤ i + 1 := Nat.le_trans put_len (by omega)
      have m8 : (Sum.inr nm, V.int (bb + d4)) ∈ putK kvs (Sum.inr nm) (.int (bb + d4)) := put_new
      generalize putK kvs (Sum.inr nm) (.int (bb + d4)) = kv8 at E8 n8 m8
      have K8 : Kp [p] H (upd H7 d (.dK kv8)) := kp_drop (K6.trans K7) fd0 (Kp.put Kp.refl (by simp))
      have P8 : Purse (upd H7 d (.dK kv8)) p := P7.kp (M := [d]) (Kp.put Kp.refl (by simp)) (nm1 ndp)
      have h8 : upd H7 d (.dK kv8) d = some (.dK kv8) := upd_same
      generalize upd H7 d (.dK kv8) = H8 at K8 P8 h8
      refine ⟨_, rfl, p, 24, rfl, P8, by decide, by decide, fun d5 H9 f0 f1 P9 K9 => ?_⟩
      have h9 : H9 d = some (.dK kv8) := K9 d _ h8 (nm1 ndp.symm)
      refine ⟨rfl, _, rfl, ?_⟩
      refine ite2 (fun c => ?_) (fun c => ?_)
      · refine ⟨_, rfl, _, _, rfl, rfl, ⟨by decide, by decide, by decide⟩, _, _, rfl, rfl, (by walk_at "ml"), _, _, rfl, rfl, p, _, rfl, P9, by decide +kernel, by decide +kernel, fun d6 H10 g0 g1 P10 K10 => ?_⟩
        refine ⟨_, _, rfl, rfl, ⟨by decide, by decide, by decide⟩, _, _, rfl, rfl, _, _, rfl, rfl, _, rfl, _, rfl, _, _, rfl, DPut.k (k := Sum.inr nm) (K10 d _ h9 (nm1 ndp.symm)) (by rw [sizeLine_eq]; omega), ?_⟩
        refine ⟨_, _, rfl, P10.kp (M := [d]) (Kp.put Kp.refl (by simp)) (nm1 ndp), kp_drop ((K8.trans K9).trans K10) fd0 (Kp.put Kp.refl (by simp)), upd_same, E8.again (by rw [take_snoc en]; simp) _, by rw [put_old m8]; exact n8⟩
      · exact ⟨_, _, rfl, P9, K8.trans K9, h9, E8, n8⟩
    · rintro σ H6 ⟨kvs, o5, rfl, P6, K6, h6, E6, n6⟩
      have eT : ns.take (ns.map V.str).length = ns := by rw [List.length_map, List.take_length]
      rw [eT] at E6
      refine ⟨_, rfl, p, 2, rfl, P6, by decide, by decide, fun d4 H7 e0 e1 P7 K7 => ?_⟩
      have h7 : H7 d = some (.dK kvs) := K7 d _ h6 (nm1 ndp.symm)
      refine ⟨rfl, _, rfl, ?_⟩
      refine ite2 (fun c => ?_) (fun c => ?_)
      · refine ⟨_, rfl, .inr (.inr (.inl ⟨rfl, .inl ⟨_, h7⟩⟩)), d, kvs, rfl, rfl, h7, fun v hv => ?_⟩
        have K8 : Kp [] H7 (upd H7 v (vwO v d)) := Kp.new Kp.refl hv
        refine ⟨v, d, kvs, rfl, upd_same, K8 d _ h7 (by simp), fun l2 ts H9 k9 f9 h9 tl tu => ?_⟩
        refine ⟨l2, _, rfl, h9, fun r hr => ?_⟩
        have fr : Fre H9 r := hr
        have K10 : Kp [] H9 (upd H9 r (rvO r l2 (ts.map V.ref).length)) := Kp.new Kp.refl fr
        have e10 : upd H9 r (rvO r l2 (ts.map V.ref).length) r = some (rvO r l2 ts.length) := by rw [upd_same, List.length_map]
        generalize upd H9 r (rvO r l2 (ts.map V.ref).length) = H10 at K10 e10
        have K7' : Kp [] H7 H10 := (K8.trans k9).trans K10
        have fr7 : Fre H7 r := by
          cases z : H7 r with
          | none => exact z
          | some o => have := k9 r o (K8 r o z (by simp)) (by simp); rw [show H9 r = none from fr] at this; cases this
        refine ⟨r, l2, ts, kvs, rfl, e10, K10 l2 _ h9 (by simp), tl, E6.nd, fun j t kk vv x y => K10 t _ (tu j t kk vv x y).2 (by simp), fun q hq => ?_⟩
        have P10 : Purse H10 p := P7.kp K7' (by simp)
        have K11 : Kp [p] H H10 := (K6.trans K7).trans (K7'.weak (by simp))
        have K12 : Kp [] H7 (upd H10 r (anyO r)) := kp_drop K7' fr7 (Kp.put Kp.refl (by simp))
        have nq : ∀ b, H10 b ≠ none → b ≠ q := fun b h e => h (by rw [e]; exact hq)
        have K13 : Kp [] H7 (upd (upd H10 r (anyO r)) q (.dK kvs.reverse)) := fun b o e n => by
          rw [upd_ne (nq b (by rw [K7' b o e n]; simp))]
          exact K12 b o e n
        exact k q kvs.reverse _ (fre_back P10 K11 hq) upd_same E6.rev (P7.kp K13 (by simp)) ((K6.trans K7).trans (K13.weak (by simp)))
      · exact ⟨_, rfl, k d kvs H7 fd0 h7 E6 P7 (K6.trans K7)⟩
end
end My
set_option Elab.async false
set_option linter.all false
set_option maxRecDepth 100000
set_option maxHeartbeats 4000000
namespace My
open PySem L2
theorem lt_big {n : Int} (h : n < 1000) : n < 10 ^ 100 := Int.lt_trans h (by decide +kernel)
theorem ifT {a b : Prop} (h : a) : (if true = true then a else b) := by rw [if_pos rfl]; exact h
structure Pln (H : Hp) (l : Addr) (as : List Addr) (rs : List (List Str)) : Prop where
  top : H l = some (.lst (as.map V.ref))
  len : as.length = rs.length
  nd : as.Nodup
  row : ∀ (i : Nat) (a : Addr) (r : List Str), as[i]? = some a → rs[i]? = some r → Txs H a r
theorem Pln.kp {H H' : Hp} {l : Addr} {as : List Addr} {rs : List (List Str)} {M : List Addr} (h : Pln H l as rs) (k : Kp M H H') (n : l ∉ M) (n' : ∀ a ∈ as, a ∉ M) : Pln H' l as rs :=
  ⟨k l _ h.top n, h.len, h.nd, fun i a r e1 e2 => k a _ (h.row i a r e1 e2) (n' a (List.mem_of_getElem? e1))⟩
theorem flat_set : ∀ {rs : List (List Str)} {j : Nat} {r r' : List Str}, rs[j]? = some r → r'.length = r.length + 1 → (rs.set j r').flatten.length = rs.flatten.length + 1
  | [], _, _, _, h, _ => by simp at h
  | q :: rs, 0, r, r', h, e => by
    have : q = r := by simpa using h
    subst this
    simp [e]; omega
  | q :: rs, j + 1, r, r', h, e => by
    have := flat_set (rs := rs) (j := j) (r := r) (r' := r') (by simpa using h) e
    rw [List.set_cons_succ, List.flatten_cons, List.flatten_cons, List.length_append, List.length_append, this]; omega
theorem flat_le {rs : List (List Str)} {r : List Str} (h : r ∈ rs) : r.length ≤ rs.flatten.length := by
  obtain ⟨a, b, rfl⟩ := List.append_of_mem h
  simp; omega
section
variable {P : Program} {w : World} {K : PySem.W.Frag} {mg : Str → Option Value} {base : Heap}
def spPlan : Sp := fun vs H Q _ => ∃ (p l : Addr) (ns : List Str), vs = [.ref p, .ref l] ∧ Purse H p ∧ Txs H l ns ∧ ns.length ≤ 20 ∧ ∀ (d : Addr) (as : List Addr) (rs : List (List Str)) (H' : Hp), Fre H d → (∀ a ∈ as, Fre H a) → Pln H' d as rs → rs.length ≤ 30 → rs.flatten.length = ns.length → (∀ r ∈ rs, ∀ x ∈ r, x ∈ ns) → Purse H' p → Kp [p] H H' → Q (.ref d) H'
abbrev s_plan : Stmt := top 8
theorem sc_plan : FnScope ["_law_purse_here", "_law_names_here", "_law_plan_here", "_law_name", "_law_turn"] ["_law_purse_here", "_law_names_here"] (defScope s_plan) := ⟨rfl, rfl, rfl, by decide +kernel, rfl, by decide +kernel, by decide +kernel⟩
theorem ok_plan {f : Addr} {fd : FuncData} (F : Fun K "_law_plan" "_law_plan" s_plan f fd) (T : Txt K mg) (C_take : Cal P w K mg base "_law_take" 1 ["_law_purse_here", "_law_many"] spTake) : FnOk P w K mg base CX0 2 f fd ["_law_purse_here", "_law_names_here"] spPlan := by
  refine F.ok sc_plan (fun vs H Q E h => ?_) (fun cdv A outer s H vs Q E hr h => ?_)
  · obtain ⟨p, l, ns, rfl, _⟩ := h
    rfl
  · obtain ⟨p, l, ns, rfl, hP, hl, hn, k⟩ := h
    have HR_take := hr
    have npl := pl_ne hP hl
    refine ⟨_, (pss_cons (ps_comp (i := 2) rfl (blk_mk (sc := defScope s_plan) rfl (by decide +kernel)) (Draws.own (x := "_law_k") Draws.nil) (pi_range1 rfl T.z_range (pa_cons (pe_op op_add pe_int (pe_callC C_take HR_take rfl (pa_cons (pv 0) (pa_cons pe_int pa_nil)))) pa_nil)) (fun C s₀ H₀ ex => (pg_name (i := 0) (show List.Nodup (["_law_k"] : List Str) by decide +kernel) rfl (by walk_at "lc"))) (fun C s₀ H₀ ex => pts_nil) (fun C s₀ H₀ ex => (pe_lst pa_nil)) sc_plan.nd rfl rfl)
      (pss_cons (ps_for PassesOwn.never rfl (pi_list (pv 1)) (pg_name (i := 3) sc_plan.nd rfl (by walk_at "lc"))
        (pss_cons (ps_set (i := 4) sc_plan.nd rfl (by walk_at "lc") (pe_ix ix_list (pv 2) (pe_callC C_take HR_take rfl (pa_cons (pv 0) (pa_cons (pe_callB call_len_seq (by rfl) T.z_len bo_len (pa_cons (pv 2) pa_nil)) pa_nil))) (fun _ _ => rfl)))
        (pss_one (ps_expr (pe_bm PySem.F.plainAttrs_list PySem.F.slot_list_insert PySem.F.type_list_insert mt_insert (pv 4) (pa_cons (pe_callC C_take HR_take rfl (pa_cons (pv 0) (pa_cons (pe_op op_add (pe_callB call_len_seq (by rfl) T.z_len bo_len (pa_cons (pv 4) pa_nil)) pe_int) pa_nil))) (pa_cons (pv 3) pa_nil)))))))
      (pss_one (ps_ret (pv 2))))), ?_⟩
    refine ⟨_, rfl, p, 30, rfl, hP, by decide, by decide, fun d1 H1 a0 a1 P1 K1 => ?_⟩
    refine ⟨_, _, rfl, rfl, _, rfl, by omega, by omega, fun D hD => comp_range (lo := 0) (n := (1 + d1).toNat) (fun i ys τ H3 => ∃ as : List Addr, (∃ o0, τ = [o0]) ∧ as.length = i ∧ as.Nodup ∧ ys = as.map V.ref ∧ H3 D = some (.lst ys) ∧ Kp [] H1 H3 ∧ ∀ a ∈ as, H3 a = some (.lst []) ∧ Fre H1 a ∧ a ≠ D)
      ⟨[], ⟨_, rfl⟩, rfl, List.nodup_nil, rfl, upd_same, Kp.new Kp.refl hD, (fun _ h => nomatch h)⟩ ?_ ?_⟩
    · rintro i ys τ H3 hi ⟨as, ⟨o0, rfl⟩, e1, nd, rfl, hD3, k3, ha⟩
      unfold gName tTrue
      refine ifT ⟨(by walk_at "ln"), fun a fa => ?_⟩
      have fa : Fre H3 a := fa
      have naD : a ≠ D := (ne_fre fa hD3).symm
      have fa1 : Fre H1 a := by
        cases z : H1 a with
        | none => exact z
        | some o => have := k3 a o z (by simp); rw [show H3 a = none from fa] at this; cases this
      have fD1 : Fre H1 D := hD
      refine ⟨by rw [upd_ne naD.symm]; exact hD3, by rw [List.length_map, sizeLine_eq]; omega, as ++ [a], ⟨_, rfl⟩, by simp [e1], ?_, by simp, upd_same, ?_, fun b hb => ?_⟩
      · refine List.nodup_append.mpr ⟨nd, by simp, fun x hx y hy e => ?_⟩
        have hy : y = a := by simpa using hy
        have := (ha x hx).1
        rw [e, hy, show H3 a = none from fa] at this; cases this
      · exact kp_drop (k3.trans (Kp.new Kp.refl fa)) fD1 (Kp.put Kp.refl (by simp))
      · rcases List.mem_append.mp hb with z | z
        · obtain ⟨h1, h2, h3⟩ := ha b z
          exact ⟨by rw [upd_ne h3, upd_ne (ne_fre fa h1)]; exact h1, h2, h3⟩
        · have z : b = a := by simpa using z
          subst z
          exact ⟨by rw [upd_ne naD]; exact upd_same, fa1, naD⟩
    · rintro ys τ H3 ⟨as, ⟨o0, rfl⟩, e1, nd, rfl, hD3, k3, ha⟩
      have P3 : Purse H3 p := P1.kp k3 (by simp)
      have K3 : Kp [p] H H3 := K1.trans (k3.weak (by simp))
      have fD : Fre H D := fre_back P1 K1 hD
      have fas : ∀ a ∈ as, Fre H a := fun a h => fre_back P1 K1 (ha a h).2.1
      have npD : p ≠ D := by obtain ⟨x, y, e, _⟩ := hP; exact ne_fre fD e
      have npa : ∀ a ∈ as, p ≠ a := fun a h => by obtain ⟨x, y, e, _⟩ := hP; exact ne_fre (fas a h) e
      have naD : ∀ a ∈ as, a ≠ D := fun a h => (ha a h).2.2
      have R3 : Pln H3 D as (List.replicate (1 + d1).toNat []) := ⟨hD3, by simp [e1], nd, fun i a r x y => by
        have : r = [] := by
          rw [List.getElem?_replicate] at y
          split at y
          · cases y; rfl
          · cases y
        subst this
        exact (ha a (List.mem_of_getElem? x)).1⟩
      refine ⟨_, rfl, _, rfl, ⟨_, SqL.of (K3 l _ hl (nm1 npl.symm))⟩, for_list (xs := ns.map V.str) (fun i σ H6 => ∃ (rs : List (List Str)) (o3 o4 : Option V), σ = [some (.ref p), some (.ref l), some (.ref D), o3, o4] ∧ Purse H6 p ∧ Kp [p] H H6 ∧ Pln H6 D as rs ∧ rs.flatten.length = i ∧ ∀ r ∈ rs, ∀ x ∈ r, x ∈ ns)
        ⟨_, none, none, rfl, P3, K3, R3, by simp, fun r hr x hx => by rw [(List.mem_replicate.mp hr).2] at hx; exact nomatch hx⟩ (fun i σ H6 _ ⟨_, _, _, _, _, K6, _⟩ => SqL.of (K6 l _ hl (nm1 npl.symm))) ?_ ?_⟩
      · rintro i x σ H6 hx ⟨rs, o3, o4, rfl, P6, K6, R6, f6, q6⟩
        obtain ⟨nm, en, rfl⟩ := str_at hx
        have hi : i < ns.length := (List.getElem?_eq_some_iff.mp en).1
        refine ⟨_, rfl, _, rfl, _, rfl, _, _, rfl, .inl (SqL.of R6.top), p, _, rfl, P6, by rw [List.length_map]; omega, lt_big (by rw [List.length_map]; omega), fun d2 H7 b0 b1 P7 K7 => ?_⟩
        rw [List.length_map] at b1
        have jl : d2.toNat < as.length := by omega
        have R7 : Pln H7 D as rs := R6.kp K7 (nm1 npD.symm) (fun a h => nm1 (npa a h).symm)
        have ea : as[d2.toNat]? = some as[d2.toNat] := List.getElem?_eq_getElem jl
        have er : rs[d2.toNat]? = some (rs[d2.toNat]'(by rw [← R7.len]; exact jl)) := List.getElem?_eq_getElem _
        generalize as[d2.toNat] = a at ea
        generalize rs[d2.toNat]'(by rw [← R7.len]; exact jl) = r at er
        have ha7 := R7.row _ a r ea er
        have ma : a ∈ as := List.mem_of_getElem? ea
        have mr : r ∈ rs := List.mem_of_getElem? er
        have rl : r.length ≤ 20 := Nat.le_trans (flat_le mr) (by omega)
        refine ⟨_, _, _, _, rfl, rfl, SqL.of R7.top, atI_at b0 (by rw [List.getElem?_map, ea]; rfl), ?_⟩
        refine ⟨_, rfl, .inl ⟨rfl, _, SqL.of ha7⟩, _, rfl, _, rfl, _, _, rfl, .inl (SqL.of ha7), _, _, rfl, rfl, p, _, rfl, P7, by rw [List.length_map]; omega, lt_big (by rw [List.length_map]; omega), fun d3 H8 c0 c1 P8 K8 => ?_⟩
        rw [List.length_map] at c1
        have ha8 : Txs H8 a r := K8 a _ ha7 (nm1 (npa a ma).symm)
        have R8 : Pln H8 D as rs := R7.kp K8 (nm1 npD.symm) (fun a h => nm1 (npa a h).symm)
        refine ⟨_, rfl, a, _, d3, _, rfl, rfl, ha8, by rw [List.length_map, sizeLine_eq]; omega, c0, by rw [List.length_map]; omega, ?_⟩
        refine ⟨rs.set d2.toNat (r.take d3.toNat ++ nm :: r.drop d3.toNat), _, _, rfl, P8.kp (M := [a]) (Kp.put Kp.refl (by simp)) (nm1 (npa a ma)), kp_drop ((K6.trans K7).trans K8) (fas a ma) (Kp.put Kp.refl (by simp)), ?_, ?_, fun q hq x hx => ?_⟩
        · refine ⟨by rw [upd_ne (naD a ma).symm]; exact R8.top, by rw [List.length_set]; exact R8.len, nd, fun i' b r' x y => ?_⟩
          by_cases c : i' = d2.toNat
          · subst c
            rw [ea] at x
            cases x
            rw [List.getElem?_set_self (by rw [← R8.len]; exact jl)] at y
            cases y
            show upd H8 a _ a = _
            rw [upd_same]; simp
          · rw [List.getElem?_set_ne (Ne.symm c)] at y
            have nba : b ≠ a := fun e => c (by
              rw [e] at x
              exact (List.getElem?_inj (List.getElem?_eq_some_iff.mp x).1 nd).mp (x.trans ea.symm))
            show upd H8 a _ b = _
            rw [upd_ne nba]
            exact R8.row i' b r' x y
        · rw [flat_set er (by simp; omega), f6]
        · rcases List.mem_or_eq_of_mem_set hq with z | z
          · exact q6 q z x hx
          · subst z
            rcases List.mem_append.mp hx with z | z
            · exact q6 r mr x (List.mem_of_mem_take z)
            · rcases List.mem_cons.mp z with z | z
              · rw [z]; exact List.mem_of_getElem? en
              · exact q6 r mr x (List.mem_of_mem_drop z)
      · rintro σ H6 ⟨rs, o3, o4, rfl, P6, K6, R6, f6, q6⟩
        rw [List.length_map] at f6
        exact ⟨_, rfl, k D as rs H6 fD fas R6 (by rw [← R6.len, e1]; omega) f6 q6 P6 K6⟩
end
end My
set_option Elab.async false
set_option linter.all false
set_option maxRecDepth 100000
set_option maxHeartbeats 4000000
namespace My
open PySem L2
def fOf (kvs : List (Key × V)) (x : Str) : Int := match valV kvs (Sum.inr x) with
  | some (.int i) => i
  | _ => 0
theorem fOf_at {kvs : List (Key × V)} {x : Str} {i : Int} (h : valV kvs (Sum.inr x) = some (.int i)) : valV kvs (Sum.inr x) = some (.int (fOf kvs x)) := by
  unfold fOf; rw [h]
def dueL (f : Str → Int) : Int → List (List Str) → List Int
  | _, [] => []
  | c, r :: rs => r.map (fun x => c - f x) ++ dueL f (c + 1) rs
theorem dueL_app (f : Str → Int) : ∀ (a b : List (List Str)) (c : Int), dueL f c (a ++ b) = dueL f c a ++ dueL f (c + a.length) b
  | [], b, c => by simp [dueL]
  | r :: a, b, c => by
    rw [List.cons_append, dueL, dueL, dueL_app f a b (c + 1), List.append_assoc, List.length_cons]
    have : c + 1 + (a.length : Int) = c + ((a.length + 1 : Nat) : Int) := by omega
    rw [this]
theorem dueL_snoc {f : Str → Int} {rs : List (List Str)} {i : Nat} {r : List Str} {c : Int} (h : rs[i]? = some r) : dueL f c (rs.take (i + 1)) = dueL f c (rs.take i) ++ r.map (fun x => c + i - f x) := by
  have hi := (List.getElem?_eq_some_iff.mp h).1
  rw [take_snoc h, dueL_app, List.length_take, Nat.min_eq_left (by omega)]
  simp [dueL]
theorem dueL_len (f : Str → Int) : ∀ (rs : List (List Str)) (c : Int), (dueL f c rs).length = rs.flatten.length
  | [], _ => rfl
  | r :: rs, c => by rw [dueL, List.length_append, dueL_len f rs, List.length_map, List.flatten_cons, List.length_append]
theorem take_flat (rs : List (List Str)) (i : Nat) : (rs.take i).flatten.length ≤ rs.flatten.length := by
  have : rs.flatten.length = (rs.take i).flatten.length + (rs.drop i).flatten.length := by rw [← List.length_append, ← List.flatten_append, List.take_append_drop]
  omega
section
variable {P : Program} {w : World} {K : PySem.W.Frag} {mg : Str → Option Value} {base : Heap}
def spLate : Sp := fun vs H Q _ => ∃ (l d : Addr) (as : List Addr) (rs : List (List Str)) (kvs : List (Key × V)), vs = [.ref l, .ref d] ∧ Pln H l as rs ∧ H d = some (.dK kvs) ∧ (∀ r ∈ rs, ∀ x ∈ r, ∃ i, valV kvs (Sum.inr x) = some (.int i)) ∧ 0 < rs.flatten.length ∧ rs.flatten.length ≤ 20 ∧
  ∀ (M : Int) (H' : Hp), M ∈ dueL (fOf kvs) 1 rs → (∀ a ∈ dueL (fOf kvs) 1 rs, a ≤ M) → Kp [] H H' → Q (.int M) H'
abbrev s_lateness : Stmt := top 1
theorem sc_lateness : FnScope ["plan", "ends", "found", "number", "row"] ["plan", "ends"] (defScope s_lateness) := ⟨rfl, rfl, rfl, by decide +kernel, rfl, by decide +kernel, by decide +kernel⟩
theorem ok_lateness {f : Addr} {fd : FuncData} (F : Fun K "lateness" "lateness" s_lateness f fd) (T : Txt K mg) : FnOk P w K mg base CX0 1 f fd ["plan", "ends"] spLate := by
  refine F.ok sc_lateness (fun vs H Q E h => ?_) (fun cdv A outer s H vs Q E hr h => ?_)
  · obtain ⟨l, d, as, rs, kvs, rfl, _⟩ := h
    rfl
  · obtain ⟨l, d, as, rs, kvs, rfl, R, hd, hv, n0, n1, k⟩ := h
    have hu := hu_of hr
    refine ⟨_, (pss_cons (ps_set (i := 2) sc_lateness.nd rfl (by walk_at "lc") (pe_lst pa_nil))
      (pss_cons (ps_for PassesOwn.never rfl (pi_enumS rfl T.z_enumerate (pa_cons (pv 0) pa_nil)) (pg_tup rfl (pgs_cons (pg_name (i := 3) sc_lateness.nd rfl (by walk_at "lc")) (pgs_cons (pg_name (i := 4) sc_lateness.nd rfl (by walk_at "lc")) pgs_nil)))
        (pss_one (ps_expr (pe_bm PySem.F.plainAttrs_list PySem.F.slot_list_extend PySem.F.type_list_extend mt_extend (pv 2) (pa_cons (pe_comp rfl (blk_mk (sc := defScope s_lateness) rfl (by decide +kernel)) (Draws.own (x := "name") (Draws.tk (i := 3) rfl (by walk_at "vs") (by walk_at "vk") (by walk_at "vf") (Draws.tk (i := 1) rfl (by walk_at "vs") (by walk_at "vk") (by walk_at "vf") Draws.nil))) (pi_list (pv 4)) (fun C s₀ H₀ ex => (pg_name (i := 0) (show List.Nodup (["name", "number", "ends"] : List Str) by decide +kernel) rfl (by walk_at "lc"))) (fun C s₀ H₀ ex => pts_nil) (fun C s₀ H₀ ex => (pe_op op_sub (pv 1) (pe_dget hu (pv 2) (pv 0) (fun _ _ => rfl))))) pa_nil)))))
      (pss_one (ps_ret (pe_callB (call_max1 rfl) (by rfl) T.z_max bo_max (pa_cons (pv 2) pa_nil)))))), ?_⟩
    refine ⟨(by walk_at "ln"), fun b hb => ?_⟩
    have fb : Fre H b := hb
    have k1 : Kp [] H (upd H b (.lst [])) := Kp.new Kp.refl fb
    refine ⟨_, rfl, _, rfl, ⟨_, SqL.of (k1 l _ R.top (by simp))⟩, for_enum (lo := 1) (xs := as.map V.ref) (fun i σ H2 => (∃ o3 o4, σ = [some (.ref l), some (.ref d), some (.ref b), o3, o4]) ∧ Kp [] H H2 ∧ H2 b = some (.lst ((dueL (fOf kvs) 1 (rs.take i)).map V.int))) ⟨⟨_, _, rfl⟩, k1, upd_same⟩ (fun i σ H2 _ ⟨_, k2, _⟩ => SqL.of (k2 l _ R.top (by simp))) ?_ ?_⟩
    · rintro i v σ H2 t hv' ⟨⟨o3, o4, rfl⟩, k2, h2⟩ ht
      have ft : Fre H2 t := ht
      have hi : i < as.length := by
        have := (List.getElem?_eq_some_iff.mp hv').1
        rw [List.length_map] at this; exact this
      have ea : as[i]? = some as[i] := List.getElem?_eq_getElem hi
      have er : rs[i]? = some (rs[i]'(by rw [← R.len]; exact hi)) := List.getElem?_eq_getElem _
      generalize as[i] = a at ea
      generalize rs[i]'(by rw [← R.len]; exact hi) = r at er
      rw [List.getElem?_map, ea] at hv'
      cases hv'
      have ha := R.row i a r ea er
      have mr : r ∈ rs := List.mem_of_getElem? er
      have rl : r.length ≤ 20 := Nat.le_trans (flat_le mr) n1
      have kt : Kp [] H2 (upd H2 t (.tup [.int (1 + (i : Int)), .ref a])) := Kp.new Kp.refl ft
      refine ⟨_, _, rfl, .inl (.inl upd_same), rfl, _, _, rfl, _, _, rfl, rfl, ?_⟩
      have h3 := kt b _ h2 (by simp)
      generalize upd H2 t (.tup [.int (1 + (i : Int)), .ref a]) = H3 at kt h3 ⊢
      have k3 := k2.trans kt
      have ha3 : Txs H3 a r := k3 a _ ha (by simp)
      have hd3 := k3 d _ hd (by simp)
      refine ⟨_, rfl, .inl ⟨rfl, _, SqL.of h3⟩, _, rfl, _, rfl, ⟨_, SqL.of ha3⟩, fun B hB => comp_list0 (r.map V.str) (fun j ys τ H4 => (∃ o0, τ = [o0, some (.int (1 + (i : Int))), some (.ref d)]) ∧ ys = ((r.take j).map fun x => V.int (1 + (i : Int) - fOf kvs x)) ∧ H4 = upd H3 B (.lst ys))
        ⟨⟨_, rfl⟩, rfl, rfl⟩ (fun j ys τ H4 ⟨_, _, z⟩ => by subst z; exact SqL.of ((Kp.new (M := []) Kp.refl hB) _ _ ha3 (by simp))) ?_ ?_⟩
      · rintro j v ys τ H4 hv4 ⟨⟨o0, rfl⟩, rfl, rfl⟩
        obtain ⟨n, en, rfl⟩ := str_at hv4
        obtain ⟨z, ez⟩ := hv r mr n (List.mem_of_getElem? en)
        have hd4 := (Kp.new (M := []) (l := B) (o := .lst ((r.take j).map fun x => V.int (1 + (i : Int) - fOf kvs x))) Kp.refl hB) d _ hd3 (by simp)
        refine ⟨_, rfl, _, rfl, _, rfl, d, _, rfl, by have := DGet.k (k := Sum.inr n) hd4; rw [fOf_at ez] at this; exact this, _, _, rfl, rfl, upd_same, by rw [List.length_map, sizeLine_eq, List.length_take]; omega, ⟨_, rfl⟩, ?_, upd_upd⟩
        rw [take_snoc en, List.map_append]; rfl
      · rintro ys τ H4 ⟨_, rfl, rfl⟩
        have eT : r.take (r.map V.str).length = r := by rw [List.length_map, List.take_length]
        rw [eT]
        have fB : Fre H3 B := hB
        have kB : Kp [] H3 (upd H3 B (.lst (r.map fun x => V.int (1 + (i : Int) - fOf kvs x)))) := Kp.new Kp.refl fB
        have nb : b ≠ B := ne_fre fB h3
        have hB4 : upd H3 B (.lst (r.map fun x => V.int (1 + (i : Int) - fOf kvs x))) B = some (.lst (r.map fun x => V.int (1 + (i : Int) - fOf kvs x))) := upd_same
        generalize upd H3 B (.lst (r.map fun x => V.int (1 + (i : Int) - fOf kvs x))) = H4 at kB hB4 ⊢
        have h4 := kB b _ h3 (by simp)
        have tf := take_flat rs i
        refine ⟨b, B, _, _, rfl, rfl, h4, hB4, by rw [List.length_map, List.length_map, dueL_len, sizeLine_eq]; omega, ⟨_, _, rfl⟩, kp_drop (k3.trans kB) fb (Kp.put Kp.refl (by simp)), ?_⟩
        rw [upd_same, dueL_snoc er, List.map_append, List.map_map]
        rfl
    · rintro σ H2 ⟨⟨o3, o4, rfl⟩, k2, h2⟩
      have eT : rs.take (as.map V.ref).length = rs := by rw [List.length_map, R.len, List.take_length]
      rw [eT] at h2
      refine ⟨_, rfl, b, _, rfl, SqL.of h2, fun z => ?_, fun M hM hA => k M H2 hM hA k2⟩
      have := dueL_len (fOf kvs) rs 1
      rw [z] at this
      rw [← this] at n0
      exact Nat.lt_irrefl _ n0
end
end My
set_option Elab.async false
set_option linter.all false
set_option maxRecDepth 100000
set_option maxHeartbeats 4000000
namespace My
open PySem L2
section
variable {P : Program} {w : World} {K : PySem.W.Frag} {mg : Str → Option Value} {base : Heap}
theorem kit_ib : PySem.W.kitOne K (.type "int") (.type "bool") = some false := by rfl
def spLaw (K : PySem.W.Frag) : Sp := fun vs H Q _ => ∃ (a : Addr) (ns : List Int), vs = [.ref a] ∧ SqL K H a (ns.map V.int) ∧ ns.length ≤ 63 ∧ ∀ H', Q (.bl true) H'
abbrev s_law : Stmt := top 9
theorem sc_law : FnScope ["_law_script", "_law_k", "_law_purse_here", "_law_names_here", "_law_plan_here", "_law_ends_here", "_law_due", "_law_at", "_law_turn", "_law_handed", "_law_found"] ["_law_script"] (defScope s_law) := ⟨rfl, rfl, rfl, by decide +kernel, rfl, by decide +kernel, by decide +kernel⟩
theorem ok_law {f : Addr} {fd : FuncData} (F : Fun K "law" "law" s_law f fd) (T : Txt K mg) (C_cell : Cal P w K mg base "_law_cell" 1 ["_law_script", "_law_k"] (spCell K)) (C_purse : Cal P w K mg base "_law_purse" 1 ["_law_cell_here", "_law_k"] spPurse) (C_take : Cal P w K mg base "_law_take" 1 ["_law_purse_here", "_law_many"] spTake)
    (C_names : Cal P w K mg base "_law_names" 2 ["_law_purse_here", "_law_many"] spLNames) (C_plan : Cal P w K mg base "_law_plan" 2 ["_law_purse_here", "_law_names_here"] spPlan) (C_ends : Cal P w K mg base "_law_ends" 2 ["_law_purse_here", "_law_names_here"] spEnds) (C_lateness : Cal P w K mg base "lateness" 1 ["plan", "ends"] spLate) : FnOk P w K mg base CX0 3 f fd ["_law_script"] (spLaw K) := by
  refine F.ok sc_law (fun vs H Q E h => ?_) (fun cdv A outer s H vs Q E hr h => ?_)
  · obtain ⟨a, ns, rfl, _⟩ := h
    rfl
  · obtain ⟨sc, is, rfl, hS, hlen, k⟩ := h
    have hr1 := hr.mono (j := 1) (by decide)
    have hu := hu_of hr
    have hu9 : (A.deeper (PyProof.Rows.envOfC (Str.ofString "law") (defScope s_law) s.heap.objs.size f cdv)).units + 2 + 8 < cLine := by have := hu2 hr (n := 9); omega
    refine ⟨_, (pss_cons (ps_for PassesOwn.never rfl (pi_range1 rfl T.z_range (pa_cons (pe_callB (call_max2 rfl) (by rfl) T.z_max bo_max (pa_cons pe_int (pa_cons (pe_callB (call_min2 rfl) (by rfl) T.z_min bo_min (pa_cons pe_int (pa_cons (pe_callB call_len_seq (by rfl) T.z_len bo_len (pa_cons (pv 0) pa_nil)) pa_nil))) pa_nil))) pa_nil)) (pg_name (i := 1) sc_law.nd rfl (by walk_at "lc"))
        (pss_cons (ps_set (i := 2) sc_law.nd rfl (by walk_at "lc") (pe_callC C_purse hr1 rfl (pa_cons (pe_callC C_cell hr1 rfl (pa_cons (pv 0) (pa_cons (pv 1) pa_nil))) (pa_cons (pv 1) pa_nil))))
        (pss_cons (ps_set (i := 3) sc_law.nd rfl (by walk_at "lc") (pe_callC C_names hr rfl (pa_cons (pv 2) (pa_cons (pe_op op_add pe_int (pe_callC C_take hr1 rfl (pa_cons (pv 2) (pa_cons pe_int pa_nil)))) pa_nil))))
        (pss_cons (ps_set (i := 4) sc_law.nd rfl (by walk_at "lc") (pe_callC C_plan hr rfl (pa_cons (pv 2) (pa_cons (pv 3) pa_nil))))
        (pss_cons (ps_set (i := 5) sc_law.nd rfl (by walk_at "lc") (pe_callC C_ends hr rfl (pa_cons (pv 2) (pa_cons (pv 3) pa_nil))))
        (pss_cons (ps_set (i := 6) sc_law.nd rfl (by walk_at "lc") (pe_lst pa_nil))
        (pss_cons (ps_for PassesOwn.never rfl (pi_enum rfl T.z_enumerate (pa_cons (pv 4) pa_nil)) (pg_tup rfl (pgs_cons (pg_name (i := 7) sc_law.nd rfl (by walk_at "lc")) (pgs_cons (pg_name (i := 8) sc_law.nd rfl (by walk_at "lc")) pgs_nil)))
          (pss_one (ps_expr (pe_bm PySem.F.plainAttrs_list PySem.F.slot_list_extend PySem.F.type_list_extend mt_extend (pv 6) (pa_cons (pe_comp rfl (blk_mk (sc := defScope s_law) rfl (by decide +kernel)) (Draws.own (x := "_law_name") (Draws.tk (i := 7) rfl (by walk_at "vs") (by walk_at "vk") (by walk_at "vf") (Draws.tk (i := 5) rfl (by walk_at "vs") (by walk_at "vk") (by walk_at "vf") Draws.nil))) (pi_list (pv 8)) (fun C s₀ H₀ ex => (pg_name (i := 0) (show List.Nodup (["_law_name", "_law_at", "_law_ends_here"] : List Str) by decide +kernel) rfl (by walk_at "lc"))) (fun C s₀ H₀ ex => pts_nil) (fun C s₀ H₀ ex => (pe_op op_sub (pe_op op_add (pv 1) pe_int) (pe_dget hu (pv 2) (pv 0) (fun _ _ => rfl))))) pa_nil)))))
        (pss_cons (ps_set (i := 9) sc_law.nd rfl (by walk_at "lc") (pe_tup (pa_cons (pe_comp rfl (blk_mk (sc := defScope s_law) rfl (by decide +kernel)) (Draws.own (x := "_law_turn") Draws.nil) (pi_list (pv 4)) (fun C s₀ H₀ ex => (pg_name (i := 0) (show List.Nodup (["_law_turn"] : List Str) by decide +kernel) rfl (by walk_at "lc"))) (fun C s₀ H₀ ex => pts_nil) (fun C s₀ H₀ ex => (pe_callTy (call_list_ofK (K := K)) (by rfl) T.z_list bo_list (pa_cons (pv 0) pa_nil)))) (pa_cons (pe_callTy call_dict1 (by rfl) T.z_dict bo_dict (pa_cons (pv 5) pa_nil)) pa_nil))))
        (pss_cons (ps_set (i := 10) sc_law.nd rfl (by walk_at "lc") (pe_callC C_lateness hr1 rfl (pa_cons (pe_ix ix_tup (pv 9) pe_int (fun _ _ => rfl)) (pa_cons (pe_ix ix_tup (pv 9) pe_int (fun _ _ => rfl)) pa_nil))))
        (pss_cons (ps_if (PW.pt (pw_or (pt_not (pt_val (pe_callB call_isT (by rfl) T.z_isinstance bo_isinstance (pa_cons (pv 10) (pa_cons (pe_bltn (by rfl) T.z_int bo_int (v := .ty "int") rfl) pa_nil))))) (pw_or (pt_val (pe_callB call_isT (by rfl) T.z_isinstance bo_isinstance (pa_cons (pv 10) (pa_cons (pe_bltn (by rfl) T.z_bool bo_bool (v := .ty "bool") rfl) pa_nil)))) (pw_or1 (pt_cmpR op_ne (pv 10) (pe_callB (call_max1 rfl) (by rfl) T.z_max bo_max (pa_cons (pv 6) pa_nil)) (nomark _))))))
          (pss_one (ps_ret pe_bl))
          pss_nil)
        (pss_one (ps_if (pt_cmpR (op_neT (n := 8) hu9) (pv 9) (pe_tup (pa_cons (pv 4) (pa_cons (pv 5) pa_nil))) (nomark _))
          (pss_one (ps_ret pe_bl))
          pss_nil))))))))))))
      (pss_one (ps_ret pe_bl))), ?_⟩
    refine ⟨_, rfl, _, _, rfl, .inl hS, _, _, rfl, _, _, rfl, _, rfl, ?_, ?_, ?_⟩
    · rw [List.length_map]; split <;> split <;> omega
    · rw [List.length_map]; split <;> split <;> omega
    refine for_range (lo := 0) (fun i σ H2 => (∃ o1 o2 o3 o4 o5 o6 o7 o8 o9 o10 : Option V, σ = [some (.ref sc), o1, o2, o3, o4, o5, o6, o7, o8, o9, o10]) ∧ Kp [] H H2) ⟨⟨_, _, _, _, _, _, _, _, _, _, rfl⟩, Kp.refl⟩ ?_ ?_
    · rintro i σ H2 hi ⟨⟨o1, o2, o3, o4, o5, o6, o7, o8, o9, o10, rfl⟩, k2⟩
      have hi5 : i < 5 := by
        rw [List.length_map] at hi
        split at hi <;> split at hi <;> omega
      refine ⟨_, rfl, _, rfl, sc, is, _, rfl, k2.seq hS, by omega, fun c => ?_⟩
      refine ⟨_, rfl, c, _, rfl, by omega, by omega, fun p H3 fp P3 k3 => ?_⟩
      refine ⟨_, rfl, _, rfl, p, 20, rfl, P3, by decide, by decide, fun d1 H4 a0 a1 P4 K4 => ?_⟩
      refine ⟨_, _, rfl, rfl, p, 1 + d1, rfl, P4, by omega, by omega, fun l ns H5 fl hl nl nnd nok P5 K5 => ?_⟩
      have k5 : Kp [] H2 H5 := kp_drop k3 fp (K4.trans K5)
      have n20 : ns.length ≤ 20 := by omega
      have n1 : 0 < ns.length := by omega
      refine ⟨_, rfl, _, rfl, p, l, ns, rfl, P5, hl, n20, fun L as rs H6 fL fas R6 r30 fl6 sub6 P6 K6 => ?_⟩
      have k6 : Kp [] H2 H6 := kp_drop k5 fp K6
      have npl := pl_ne P5 hl
      have hl6 : Txs H6 l ns := K6 l _ hl (nm1 npl.symm)
      have npL : p ≠ L := by obtain ⟨x, y, e, _⟩ := P5; exact ne_fre fL e
      have npa : ∀ a ∈ as, p ≠ a := fun a h => by obtain ⟨x, y, e, _⟩ := P5; exact ne_fre (fas a h) e
      refine ⟨_, rfl, _, rfl, p, l, ns, rfl, P6, hl6, n20, fun d kvs H7 fd7 hd E7 P7 K7 => ?_⟩
      have k7 : Kp [] H2 H7 := kp_drop k6 fp K7
      have R7 : Pln H7 L as rs := R6.kp K7 (nm1 npL.symm) (fun a h => nm1 (npa a h).symm)
      have has : ∀ r ∈ rs, ∀ x ∈ r, ∃ i, valV kvs (Sum.inr x) = some (.int i) := fun r hr x hx => by
        obtain ⟨z, hz⟩ := E7.has x (sub6 r hr x hx)
        exact ⟨z, val_of E7.nd hz⟩
      refine ⟨(by walk_at "ln"), fun b hb => ?_⟩
      have fb : Fre H7 b := hb
      have kb : Kp [] H7 (upd H7 b (.lst [])) := Kp.new Kp.refl fb
      refine ⟨_, rfl, _, rfl, ⟨_, SqL.of (kb L _ R7.top (by simp))⟩, for_enum (lo := 0) (xs := as.map V.ref) (fun i' σ H8 => (∃ o7 o8, σ = [some (.ref sc), some (.int (0 + (i : Int))), some (.ref p), some (.ref l), some (.ref L), some (.ref d), some (.ref b), o7, o8, o9, o10]) ∧ Kp [] H7 H8 ∧ H8 b = some (.lst ((dueL (fOf kvs) 1 (rs.take i')).map V.int))) ⟨⟨_, _, rfl⟩, kb, upd_same⟩ (fun i' σ H8 _ ⟨_, k8, _⟩ => SqL.of (k8 L _ R7.top (by simp))) ?_ ?_⟩
      · rintro i' v σ H8 t hv' ⟨⟨o7, o8, rfl⟩, k8, h8⟩ ht
        have ft : Fre H8 t := ht
        have hi : i' < as.length := by
          have := (List.getElem?_eq_some_iff.mp hv').1
          rw [List.length_map] at this; exact this
        have ea : as[i']? = some as[i'] := List.getElem?_eq_getElem hi
        have er : rs[i']? = some (rs[i']'(by rw [← R7.len]; exact hi)) := List.getElem?_eq_getElem _
        generalize as[i'] = a at ea
        generalize rs[i']'(by rw [← R7.len]; exact hi) = r at er
        rw [List.getElem?_map, ea] at hv'
        cases hv'
        have ha := R7.row i' a r ea er
        have mr : r ∈ rs := List.mem_of_getElem? er
        have rl : r.length ≤ 20 := Nat.le_trans (flat_le mr) (by omega)
        have kt : Kp [] H8 (upd H8 t (.tup [.int (0 + (i' : Int)), .ref a])) := Kp.new Kp.refl ft
        refine ⟨_, _, rfl, .inl (.inl upd_same), rfl, _, _, rfl, _, _, rfl, rfl, ?_⟩
        have h9 := kt b _ h8 (by simp)
        generalize upd H8 t (.tup [.int (0 + (i' : Int)), .ref a]) = H9 at kt h9 ⊢
        have k9 := k8.trans kt
        have ha9 : Txs H9 a r := k9 a _ ha (by simp)
        have hd9 := k9 d _ hd (by simp)
        refine ⟨_, rfl, .inl ⟨rfl, _, SqL.of h9⟩, _, rfl, _, rfl, ⟨_, SqL.of ha9⟩, fun B hB => comp_list0 (r.map V.str) (fun j ys τ H4 => (∃ o0, τ = [o0, some (.int (0 + (i' : Int))), some (.ref d)]) ∧ ys = ((r.take j).map fun x => V.int (0 + (i' : Int) + 1 - fOf kvs x)) ∧ H4 = upd H9 B (.lst ys))
          ⟨⟨_, rfl⟩, rfl, rfl⟩ (fun j ys τ H4 ⟨_, _, z⟩ => by subst z; exact SqL.of ((Kp.new (M := []) Kp.refl hB) _ _ ha9 (by simp))) ?_ ?_⟩
        · rintro j v ys τ H4 hv4 ⟨⟨o0, rfl⟩, rfl, rfl⟩
          obtain ⟨n, en, rfl⟩ := str_at hv4
          obtain ⟨z, ez⟩ := has r mr n (List.mem_of_getElem? en)
          have hd4 := (Kp.new (M := []) (l := B) (o := .lst ((r.take j).map fun x => V.int (0 + (i' : Int) + 1 - fOf kvs x))) Kp.refl hB) d _ hd9 (by simp)
          refine ⟨_, rfl, _, _, rfl, rfl, _, rfl, _, rfl, d, _, rfl, by have := DGet.k (k := Sum.inr n) hd4; rw [fOf_at ez] at this; exact this, _, _, rfl, rfl, upd_same, by rw [List.length_map, sizeLine_eq, List.length_take]; omega, ⟨_, rfl⟩, ?_, upd_upd⟩
          rw [take_snoc en, List.map_append]; rfl
        · rintro ys τ H4 ⟨_, rfl, rfl⟩
          have eT : r.take (r.map V.str).length = r := by rw [List.length_map, List.take_length]
          rw [eT]
          have fB : Fre H9 B := hB
          have kB : Kp [] H9 (upd H9 B (.lst (r.map fun x => V.int (0 + (i' : Int) + 1 - fOf kvs x)))) := Kp.new Kp.refl fB
          have hB4 : upd H9 B (.lst (r.map fun x => V.int (0 + (i' : Int) + 1 - fOf kvs x))) B = some (.lst (r.map fun x => V.int (0 + (i' : Int) + 1 - fOf kvs x))) := upd_same
          generalize upd H9 B (.lst (r.map fun x => V.int (0 + (i' : Int) + 1 - fOf kvs x))) = H10 at kB hB4 ⊢
          have h10 := kB b _ h9 (by simp)
          have tf := take_flat rs i'
          refine ⟨b, B, _, _, rfl, rfl, h10, hB4, by rw [List.length_map, List.length_map, dueL_len, sizeLine_eq]; omega, ⟨_, _, rfl⟩, kp_drop (k9.trans kB) fb (Kp.put Kp.refl (by simp)), ?_⟩
          rw [upd_same, dueL_snoc er, List.map_append, List.map_map]
          have : (fun x => V.int (0 + (i' : Int) + 1 - fOf kvs x)) = (V.int ∘ fun x => 1 + (i' : Int) - fOf kvs x) := funext fun x => by
            show V.int (0 + (i' : Int) + 1 - fOf kvs x) = V.int (1 + (i' : Int) - fOf kvs x)
            rw [show 0 + (i' : Int) + 1 - fOf kvs x = 1 + (i' : Int) - fOf kvs x by omega]
          rw [this]
      · rintro σ H8 ⟨⟨o7, o8, rfl⟩, k8, h8⟩
        have eT : rs.take (as.map V.ref).length = rs := by rw [List.length_map, R7.len, List.take_length]
        rw [eT] at h8
        have R8 : Pln H8 L as rs := R7.kp k8 (by simp) (fun _ _ => by simp)
        have hd8 := k8 d _ hd (by simp)
        refine ⟨_, rfl, _, rfl, ⟨_, SqL.of R8.top⟩, fun D hD => comp_list0 (as.map V.ref) (fun j ys τ H4 => ∃ bs : List Addr, (∃ o0, τ = [o0]) ∧ bs.length = j ∧ bs.Nodup ∧ ys = bs.map V.ref ∧ H4 D = some (.lst ys) ∧ Kp [] H8 H4 ∧ (∀ x ∈ bs, H4 x ≠ none ∧ x ≠ D) ∧ ∀ (m : Nat) (x : Addr) (r : List Str), bs[m]? = some x → rs[m]? = some r → Txs H4 x r)
          ⟨[], ⟨_, rfl⟩, rfl, List.nodup_nil, rfl, upd_same, Kp.new Kp.refl hD, (fun _ h => nomatch h), fun m x r h _ => by simp at h⟩ (fun j ys τ H4 ⟨_, _, _, _, _, _, k4, _⟩ => SqL.of (k4 L _ R8.top (by simp))) ?_ ?_⟩
        · rintro j v ys τ H4 hv4 ⟨bs, ⟨o0, rfl⟩, lb, nb, rfl, hD4, k4, f4, r4⟩
          have hj : j < as.length := by
            have := (List.getElem?_eq_some_iff.mp hv4).1
            rw [List.length_map] at this; exact this
          have ea : as[j]? = some as[j] := List.getElem?_eq_getElem hj
          have er : rs[j]? = some (rs[j]'(by rw [← R8.len]; exact hj)) := List.getElem?_eq_getElem _
          generalize as[j] = a at ea
          generalize rs[j]'(by rw [← R8.len]; exact hj) = r at er
          rw [List.getElem?_map, ea] at hv4
          cases hv4
          have ha4 : Txs H4 a r := k4 a _ (R8.row j a r ea er) (by simp)
          refine ⟨_, rfl, _, _, rfl, .inl (SqL.of ha4), fun x hx => ?_⟩
          have fx : Fre H4 x := hx
          have nxD : x ≠ D := (ne_fre fx hD4).symm
          refine ⟨by rw [upd_ne nxD.symm]; exact hD4, by rw [List.length_map, sizeLine_eq]; have := R8.len; omega, bs ++ [x], ⟨_, rfl⟩, by simp [lb], ?_, by simp, upd_same, ?_, fun y hy => ?_, fun m y q hm hq => ?_⟩
          · refine List.nodup_append.mpr ⟨nb, by simp, fun u hu v hv e => ?_⟩
            have hv : v = x := by simpa using hv
            exact (f4 u hu).1 (by rw [e, hv]; exact fx)
          · exact kp_drop (k4.trans (Kp.new Kp.refl fx)) hD (Kp.put Kp.refl (by simp))
          · rcases List.mem_append.mp hy with z | z
            · refine ⟨?_, (f4 y z).2⟩
              rw [upd_ne (f4 y z).2, upd_ne (fun e => (f4 y z).1 (by rw [e]; exact fx))]
              exact (f4 y z).1
            · have z : y = x := by simpa using z
              subst z
              refine ⟨?_, nxD⟩
              rw [upd_ne nxD, upd_same]; simp
          · by_cases c : m < j
            · rw [List.getElem?_append_left (by omega)] at hm
              have my := List.mem_of_getElem? hm
              show upd _ D _ y = _
              rw [upd_ne (f4 y my).2, upd_ne (fun e => (f4 y my).1 (by rw [e]; exact fx))]
              exact r4 m y q hm hq
            · have ml := (List.getElem?_eq_some_iff.mp hm).1
              have mj : m = j := by simp [lb] at ml; omega
              subst mj
              rw [List.getElem?_append_right (by omega), lb] at hm
              have hm : x = y := by simpa using hm
              subst hm
              rw [er] at hq
              cases hq
              show upd _ D _ x = _
              rw [upd_ne nxD, upd_same]
        · rintro ys τ H4 ⟨bs, ⟨o0, rfl⟩, lb, nb, rfl, hD4, k4, f4, r4⟩
          rw [List.length_map] at lb
          have R4 : Pln H4 D bs rs := ⟨hD4, by rw [lb]; exact R8.len, nb, r4⟩
          have hd4 := k4 d _ hd8 (by simp)
          refine ⟨_, rfl, d, kvs, rfl, .inl hd4, fun e he => ?_⟩
          have fe : Fre H4 e := he
          have ke : Kp [] H4 (upd H4 e (.dK kvs)) := Kp.new Kp.refl fe
          have he5 : upd H4 e (.dK kvs) e = some (.dK kvs) := upd_same
          generalize upd H4 e (.dK kvs) = H5 at ke he5
          refine ⟨(by walk_at "ln"), fun t ht => ?_⟩
          have ft : Fre H5 t := ht
          have kt : Kp [] H5 (upd H5 t (.tup [.ref D, .ref e])) := Kp.new Kp.refl ft
          have ht6 : upd H5 t (.tup [.ref D, .ref e]) t = some (.tup [.ref D, .ref e]) := upd_same
          generalize upd H5 t (.tup [.ref D, .ref e]) = H6 at kt ht6
          have k46 := ke.trans kt
          have R6' : Pln H6 D bs rs := R4.kp k46 (by simp) (fun _ _ => by simp)
          have he6 := kt e _ he5 (by simp)
          refine ⟨_, rfl, _, _, _, _, rfl, rfl, SqT.of ht6, (by walk_at "ix"), _, rfl, _, _, _, _, rfl, rfl, SqT.of ht6, (by walk_at "ix"), D, e, bs, rs, kvs, rfl, R6', he6, has, by omega, by omega, fun M H7' hM hA k7' => ?_⟩
          have k87 := (k4.trans k46).trans k7'
          refine ⟨_, rfl, _, _, _, _, rfl, TyOf.int M, kit_same, _, rfl, iteF ?_⟩
          refine ⟨_, rfl, _, _, _, _, rfl, TyOf.int M, kit_ib, _, rfl, iteF ?_⟩
          have h8' := k87 b _ h8 (by simp)
          refine ⟨_, rfl, _, rfl, b, _, rfl, SqL.of h8', (fun z => by
            have := dueL_len (fOf kvs) rs 1
            rw [z] at this
            have : rs.flatten.length = 0 := this.symm
            omega), fun M2 hM2 hA2 => ?_⟩
          have eM : M = M2 := Int.le_antisymm (hA2 M hM) (hA M2 hM2)
          subst eM
          refine ⟨rfl, _, rfl, ?_⟩
          refine ite2 (fun c => ?_) (fun c => ?_)
          · exfalso; simp at c
          have R7' : Pln H7' L as rs := R8.kp k87 (by simp) (fun _ _ => by simp)
          have Rc' : Pln H7' D bs rs := R6'.kp k7' (by simp) (fun _ _ => by simp)
          have hd7 := k87 d _ hd8 (by simp)
          have he7 := k7' e _ he6 (by simp)
          have ht7 := k7' t _ ht6 (by simp)
          refine ⟨_, rfl, _, rfl, _, rfl, (by walk_at "ln"), fun t2 hh2 => ?_⟩
          have f2 : Fre H7' t2 := hh2
          have kz : Kp [] H7' (upd H7' t2 (.tup [.ref L, .ref d])) := Kp.new Kp.refl f2
          have hz : upd H7' t2 (.tup [.ref L, .ref d]) t2 = some (.tup [.ref L, .ref d]) := upd_same
          generalize upd H7' t2 (.tup [.ref L, .ref d]) = H8' at kz hz
          have RL := R7'.kp kz (by simp) (fun _ _ => by simp)
          have RD := Rc'.kp kz (by simp) (fun _ _ => by simp)
          have kd : Kp [] H2 H8' := ((k7.trans k8).trans k87).trans kz
          have tk : TxtKeys kvs := fun kv hkv => by
            obtain ⟨x, i, e⟩ := E7.whole kv hkv
            exact ⟨x, by rw [e]⟩
          refine ⟨t, t2, _, _, rfl, rfl, SqT.of (kz t _ ht7 (by simp)), SqT.of hz, rfl, ?_, _, rfl, iteF ⟨⟨_, _, _, _, _, _, _, _, _, _, rfl⟩, k2.trans kd⟩⟩
          intro i x y hx hy
          match i, hx, hy with
          | 0, hx, hy =>
            cases hx
            cases hy
            refine .inl (.lists (n := 7) (SqL.of RD.top) (SqL.of RL.top) (by rw [List.length_map, List.length_map, RD.len, RL.len]) fun j u v hu hv => ?_)
            rw [List.getElem?_map] at hu hv
            obtain ⟨b', eb, rfl⟩ := Option.map_eq_some_iff.mp hu
            obtain ⟨a', ea, rfl⟩ := Option.map_eq_some_iff.mp hv
            have jl : j < rs.length := by rw [← RL.len]; exact (List.getElem?_eq_some_iff.mp ea).1
            have er : rs[j]? = some rs[j] := List.getElem?_eq_getElem jl
            refine .lists (n := 6) (SqL.of (RD.row j b' _ eb er)) (SqL.of (RL.row j a' _ ea er)) rfl fun m u v hu hv => ?_
            obtain ⟨n, _, rfl⟩ := str_at hu
            rw [hu] at hv
            cases hv
            exact .flat rfl
          | 1, hx, hy =>
            cases hx
            cases hy
            refine .inr ⟨e, d, kvs, kvs, rfl, rfl, .inl (kz e _ he7 (by simp)), .inl (kz d _ hd7 (by simp)), tk, tk, rfl, fun kk vv hm => ⟨vv, val_of E7.nd hm, ?_⟩⟩
            obtain ⟨x, i, e⟩ := E7.whole _ hm
            cases e
            exact .flat rfl
          | n + 2, hx, _ => simp at hx
    · rintro σ H2 ⟨⟨o1, o2, o3, o4, o5, o6, o7, o8, o9, o10, rfl⟩, k2⟩
      exact k H2
end
end My
set_option Elab.async false
set_option linter.all false
set_option maxRecDepth 100000
set_option maxHeartbeats 4000000
namespace My
open PySem L2
theorem all_mk {l : PySem.W.OpenLaw} {w : World} {K : PySem.W.Frag} {h : Heap} {mg : Str → Option Value} {fa : Addr} (X : K.In h) (G : h.Ns mainGlobals mg) (hfa : mg "law" = some (.ref fa))
    {f0 : Addr} {od0 an0 : Option Addr} {sl0 : Array (Option Value)} {oc0 kV0 dc0 pm0 cd0 ct0 : Value}
    {f1 : Addr} {od1 an1 : Option Addr} {sl1 : Array (Option Value)} {oc1 kV1 dc1 pm1 cd1 ct1 : Value}
    {f2 : Addr} {od2 an2 : Option Addr} {sl2 : Array (Option Value)} {oc2 kV2 dc2 pm2 cd2 ct2 : Value}
    {f3 : Addr} {od3 an3 : Option Addr} {sl3 : Array (Option Value)} {oc3 kV3 dc3 pm3 cd3 ct3 : Value}
    {f4 : Addr} {od4 an4 : Option Addr} {sl4 : Array (Option Value)} {oc4 kV4 dc4 pm4 cd4 ct4 : Value}
    {f5 : Addr} {od5 an5 : Option Addr} {sl5 : Array (Option Value)} {oc5 kV5 dc5 pm5 cd5 ct5 : Value}
    {f6 : Addr} {od6 an6 : Option Addr} {sl6 : Array (Option Value)} {oc6 kV6 dc6 pm6 cd6 ct6 : Value}
    {f7 : Addr} {od7 an7 : Option Addr} {sl7 : Array (Option Value)} {oc7 kV7 dc7 pm7 cd7 ct7 : Value}
    (a0 : PySem.W.nsIn K mainGlobals "_law_take" = some (some (.ref f0))) (l0 : K.lookup f0 = some ⟨oc0, od0, .func (PySem.W.fnOf "_law_take" "_law_take" (defArgs s_take) (defBody s_take) (defScope s_take) .none kV0 dc0 pm0 an0 cd0 ct0), sl0⟩) (c0 : PySem.W.codeIn K cd0 "_law_take" = true) (k0 : PySem.W.keepIn K (.ref f0) = true)
    (a1 : PySem.W.nsIn K mainGlobals "_law_purse" = some (some (.ref f1))) (l1 : K.lookup f1 = some ⟨oc1, od1, .func (PySem.W.fnOf "_law_purse" "_law_purse" (defArgs s_purse) (defBody s_purse) (defScope s_purse) .none kV1 dc1 pm1 an1 cd1 ct1), sl1⟩) (c1 : PySem.W.codeIn K cd1 "_law_purse" = true) (k1 : PySem.W.keepIn K (.ref f1) = true)
    (a2 : PySem.W.nsIn K mainGlobals "_law_cell" = some (some (.ref f2))) (l2 : K.lookup f2 = some ⟨oc2, od2, .func (PySem.W.fnOf "_law_cell" "_law_cell" (defArgs s_cell) (defBody s_cell) (defScope s_cell) .none kV2 dc2 pm2 an2 cd2 ct2), sl2⟩) (c2 : PySem.W.codeIn K cd2 "_law_cell" = true) (k2 : PySem.W.keepIn K (.ref f2) = true)
    (a3 : PySem.W.nsIn K mainGlobals "_law_names" = some (some (.ref f3))) (l3 : K.lookup f3 = some ⟨oc3, od3, .func (PySem.W.fnOf "_law_names" "_law_names" (defArgs s_names) (defBody s_names) (defScope s_names) .none kV3 dc3 pm3 an3 cd3 ct3), sl3⟩) (c3 : PySem.W.codeIn K cd3 "_law_names" = true) (k3 : PySem.W.keepIn K (.ref f3) = true)
    (a4 : PySem.W.nsIn K mainGlobals "_law_plan" = some (some (.ref f4))) (l4 : K.lookup f4 = some ⟨oc4, od4, .func (PySem.W.fnOf "_law_plan" "_law_plan" (defArgs s_plan) (defBody s_plan) (defScope s_plan) .none kV4 dc4 pm4 an4 cd4 ct4), sl4⟩) (c4 : PySem.W.codeIn K cd4 "_law_plan" = true) (k4 : PySem.W.keepIn K (.ref f4) = true)
    (a5 : PySem.W.nsIn K mainGlobals "_law_ends" = some (some (.ref f5))) (l5 : K.lookup f5 = some ⟨oc5, od5, .func (PySem.W.fnOf "_law_ends" "_law_ends" (defArgs s_ends) (defBody s_ends) (defScope s_ends) .none kV5 dc5 pm5 an5 cd5 ct5), sl5⟩) (c5 : PySem.W.codeIn K cd5 "_law_ends" = true) (k5 : PySem.W.keepIn K (.ref f5) = true)
    (a6 : PySem.W.nsIn K mainGlobals "lateness" = some (some (.ref f6))) (l6 : K.lookup f6 = some ⟨oc6, od6, .func (PySem.W.fnOf "lateness" "lateness" (defArgs s_lateness) (defBody s_lateness) (defScope s_lateness) .none kV6 dc6 pm6 an6 cd6 ct6), sl6⟩) (c6 : PySem.W.codeIn K cd6 "lateness" = true) (k6 : PySem.W.keepIn K (.ref f6) = true)
    (a7 : PySem.W.nsIn K mainGlobals "law" = some (some (.ref f7))) (l7 : K.lookup f7 = some ⟨oc7, od7, .func (PySem.W.fnOf "law" "law" (defArgs s_law) (defBody s_law) (defScope s_law) .none kV7 dc7 pm7 an7 cd7 ct7), sl7⟩) (c7 : PySem.W.codeIn K cd7 "law" = true) (k7 : PySem.W.keepIn K (.ref f7) = true)
    (z_len : PySem.W.nsIn K mainGlobals "len" = some none)
    (z_max : PySem.W.nsIn K mainGlobals "max" = some none)
    (z_range : PySem.W.nsIn K mainGlobals "range" = some none)
    (z_int : PySem.W.nsIn K mainGlobals "int" = some none)
    (z_list : PySem.W.nsIn K mainGlobals "list" = some none)
    (z_min : PySem.W.nsIn K mainGlobals "min" = some none)
    (z_dict : PySem.W.nsIn K mainGlobals "dict" = some none)
    (z_reversed : PySem.W.nsIn K mainGlobals "reversed" = some none)
    (z_enumerate : PySem.W.nsIn K mainGlobals "enumerate" = some none)
    (z_bool : PySem.W.nsIn K mainGlobals "bool" = some none)
    (z_isinstance : PySem.W.nsIn K mainGlobals "isinstance" = some none)
    : ∃ fd : FuncData, (∀ (s : Shared) (v : Value), BindsTo s fd ⟨[v], []⟩ [("_law_script", v)]) ∧ ∀ base : Heap, K.In base → base.Ns mainGlobals mg → FnOk l.prog w K mg base CX0 3 fa fd ["_law_script"] (spLaw K) := by
  have e := hfa.symm.trans (PySem.W.mg_of X G a7)
  cases e
  have T : Txt K mg := { z_len := PySem.W.mg_none_of X G z_len, z_max := PySem.W.mg_none_of X G z_max, z_range := PySem.W.mg_none_of X G z_range, z_int := PySem.W.mg_none_of X G z_int, z_list := PySem.W.mg_none_of X G z_list, z_min := PySem.W.mg_none_of X G z_min, z_dict := PySem.W.mg_none_of X G z_dict, z_reversed := PySem.W.mg_none_of X G z_reversed, z_enumerate := PySem.W.mg_none_of X G z_enumerate, z_bool := PySem.W.mg_none_of X G z_bool, z_isinstance := PySem.W.mg_none_of X G z_isinstance }
  have F0 := fun_mk (st := s_take) l0 c0 k0
  have b0 := F0.binds (ps := ["_law_purse_here", "_law_many"]) fun _ _ _ _ _ _ us hl => match us, hl with | [_, _], _ => rfl
  have F1 := fun_mk (st := s_purse) l1 c1 k1
  have b1 := F1.binds (ps := ["_law_cell_here", "_law_k"]) fun _ _ _ _ _ _ us hl => match us, hl with | [_, _], _ => rfl
  have F2 := fun_mk (st := s_cell) l2 c2 k2
  have b2 := F2.binds (ps := ["_law_script", "_law_k"]) fun _ _ _ _ _ _ us hl => match us, hl with | [_, _], _ => rfl
  have F3 := fun_mk (st := s_names) l3 c3 k3
  have b3 := F3.binds (ps := ["_law_purse_here", "_law_many"]) fun _ _ _ _ _ _ us hl => match us, hl with | [_, _], _ => rfl
  have F4 := fun_mk (st := s_plan) l4 c4 k4
  have b4 := F4.binds (ps := ["_law_purse_here", "_law_names_here"]) fun _ _ _ _ _ _ us hl => match us, hl with | [_, _], _ => rfl
  have F5 := fun_mk (st := s_ends) l5 c5 k5
  have b5 := F5.binds (ps := ["_law_purse_here", "_law_names_here"]) fun _ _ _ _ _ _ us hl => match us, hl with | [_, _], _ => rfl
  have F6 := fun_mk (st := s_lateness) l6 c6 k6
  have b6 := F6.binds (ps := ["plan", "ends"]) fun _ _ _ _ _ _ us hl => match us, hl with | [_, _], _ => rfl
  have F7 := fun_mk (st := s_law) l7 c7 k7
  refine ⟨PySem.W.fnOf "law" "law" (defArgs s_law) (defBody s_law) (defScope s_law) .none kV7 dc7 pm7 an7 cd7 ct7, fun s v => .of_eq rfl, fun base _ _ => ?_⟩
  have C_take : Cal l.prog w K mg base "_law_take" 1 ["_law_purse_here", "_law_many"] spTake := ⟨f0, _, PySem.W.mg_of X G a0, k0, b0, ok_take F0 ⟩
  have C_purse : Cal l.prog w K mg base "_law_purse" 1 ["_law_cell_here", "_law_k"] spPurse := ⟨f1, _, PySem.W.mg_of X G a1, k1, b1, ok_purse F1 T⟩
  have C_cell : Cal l.prog w K mg base "_law_cell" 1 ["_law_script", "_law_k"] (spCell K) := ⟨f2, _, PySem.W.mg_of X G a2, k2, b2, ok_cell F2 T⟩
  have C_lnames : Cal l.prog w K mg base "_law_names" 2 ["_law_purse_here", "_law_many"] spLNames := ⟨f3, _, PySem.W.mg_of X G a3, k3, b3, ok_names F3 T C_take⟩
  have C_plan : Cal l.prog w K mg base "_law_plan" 2 ["_law_purse_here", "_law_names_here"] spPlan := ⟨f4, _, PySem.W.mg_of X G a4, k4, b4, ok_plan F4 T C_take⟩
  have C_ends : Cal l.prog w K mg base "_law_ends" 2 ["_law_purse_here", "_law_names_here"] spEnds := ⟨f5, _, PySem.W.mg_of X G a5, k5, b5, ok_ends F5 T C_take⟩
  have C_late : Cal l.prog w K mg base "lateness" 1 ["plan", "ends"] spLate := ⟨f6, _, PySem.W.mg_of X G a6, k6, b6, ok_lateness F6 T⟩
  exact ok_law F7 T C_cell C_purse C_take C_lnames C_plan C_ends C_late
theorem walk {l : PySem.W.OpenLaw} {q : Program} {loose : List Str} {XP : (Str → Option Value) → Heap → Prop} {YP : World → Heap → Prop} {d : DefRec} {K : Params → PySem.W.Frag} (hn : l.most = some 63) (hdf : d.params.defaults = [])
    (hY : ∀ (w : World) (h : Heap), YP w h → (K w.params).In h)
    (F : ∀ (w : World) (mg : Str → Option Value) (fa : Addr) (h : Heap), (K w.params).In h → h.Ns mainGlobals mg → mg d.name = some (.ref fa) →
      ∃ fd : FuncData, (∀ (s : Shared) (u : Value), BindsTo s fd ⟨[u], []⟩ [("_law_script", u)]) ∧ ∀ base : Heap, (K w.params).In base → base.Ns mainGlobals mg → FnOk l.prog w (K w.params) mg base CX0 3 fa fd ["_law_script"] (spLaw (K w.params))) :
    PySem.W.WalkO q loose XP YP l.row.toRowW d [] (fun f vs => PySem.call f vs) :=
  L2.walk_of (n := 63) (k := 3) (x := "_law_script") (CX := fun _ => CX0) (sp := fun w => spLaw (K w.params)) hn (by decide) hdf ⟨rfl, by decide, by decide⟩ hY F (fun _ _ a ns hl _ hS => ⟨a, ns, rfl, hS, hl, fun _ => rfl⟩) fun _ _ _ _ _ z => z
end My
namespace PySem.W.Fast
def tw5092545376014513368 : Nat := 0
def tw14593972506472682726 : Nat := 0
def tw14506097725820766077 : Nat := 0
def tw11354174409502628801 : Nat := 0
def tw9110949154324388189 : Nat := 0
def tw3432391670857663322 : Nat := 0
end PySem.W.Fast
open PySem PySem.W PyProof.Rows
set_option maxRecDepth 100000 in
set_option maxHeartbeats 0 in
theorem PySem.Challenge.cw_levelbench_k65_lateness_of_plans_holds : PySem.Challenge.rw_levelbench_k65_lateness_of_plans.Holds := by
  w_on; o_law; k_head; (case hw => w_witness2)
  k_fill
  refine My.walk (l := PySem.Challenge.rw_levelbench_k65_lateness_of_plans) rfl rfl (fun w h Y => PySem.W.kIn_of Y) ?F
  case F =>
    intro w mg fa h KX G hmg
    refine' My.all_mk KX G hmg ?a0 ?l0 ?c0 ?k0 ?a1 ?l1 ?c1 ?k1 ?a2 ?l2 ?c2 ?k2 ?a3 ?l3 ?c3 ?k3 ?a4 ?l4 ?c4 ?k4 ?a5 ?l5 ?c5 ?k5 ?a6 ?l6 ?c6 ?k6 ?a7 ?l7 ?c7 ?k7 ?z_len ?z_max ?z_range ?z_int ?z_list ?z_min ?z_dict ?z_reversed ?z_enumerate ?z_bool ?z_isinstance
    (case a0 => k_is)
    (case l0 => k_is)
    (case c0 => k_is)
    (case k0 => k_is)
    (case a1 => k_is)
    (case l1 => k_is)
    (case c1 => k_is)
    (case k1 => k_is)
    (case a2 => k_is)
    (case l2 => k_is)
    (case c2 => k_is)
    (case k2 => k_is)
    (case a3 => k_is)
    (case l3 => k_is)
    (case c3 => k_is)
    (case k3 => k_is)
    (case a4 => k_is)
    (case l4 => k_is)
    (case c4 => k_is)
    (case k4 => k_is)
    (case a5 => k_is)
    (case l5 => k_is)
    (case c5 => k_is)
    (case k5 => k_is)
    (case a6 => k_is)
    (case l6 => k_is)
    (case c6 => k_is)
    (case k6 => k_is)
    (case a7 => k_is)
    (case l7 => k_is)
    (case c7 => k_is)
    (case k7 => k_is)
    (case z_len => k_is)
    (case z_max => k_is)
    (case z_range => k_is)
    (case z_int => k_is)
    (case z_list => k_is)
    (case z_min => k_is)
    (case z_dict => k_is)
    (case z_reversed => k_is)
    (case z_enumerate => k_is)
    (case z_bool => k_is)
    (case z_isinstance => k_is)
