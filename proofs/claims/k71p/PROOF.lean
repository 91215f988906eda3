import PyProof.Rows.All
import Wide.All
import OpenK.AllK
import Wide.FinOn
import Lean
import PyProof.EqAt
import PyProof.EqKinds
import PyProof.TupleCall
import PyProof.StrLawsTight
import PyProof.FitsReplace
import KE.KSortTup
import PyProof.TupleKey
import PyProof.SetKind
import PyProof.IsRules
import PyProof.Rows.SetFrom
import PyProof.CollectWalk
import PyProof.DictUpdate
import PyProof.AutoListH
import PyProof.SeqI3
import PyProof.EnumStmt
import PyProof.EnumMake
import PyProof.Rows.CallKwBuiltin
import PyProof.NeKinds
import PyProof.StationsW
import PyProof.ExcClass3
import PyProof.PassesOwn
import OpenK.KOwn
import PyProof.RulesAs
import PyProof.RulesDel
import KE.KIsAll
import PyProof.ExcArgsOwn
import PyProof.StrLawsIn
import PyProof.Rows.Range3
import PyProof.Rows.FStr
import PyProof.DictItems
import PyProof.AttrMissHeap
import PyProof.ListCopy
import KE.KDictOf
import KE.KDictSum
import PyProof.Rows.SortRev
import PyProof.Rows.IntMath
import KE.KLam
import KE.KSortKey
import KE.KNestM
import PySem.Challenge.RW_levelbench_k71_whole_windows_or_a_crowd
set_option Elab.async false
set_option linter.all false
set_option maxRecDepth 100000
namespace L2
open PySem PySem.Spec PyProof.Rows
abbrev Key := Sum Int Str
def keyIs : Key → Value → Bool
  | .inl k, v => Value.isInt k v
  | .inr x, v => Value.isStrOf x v
def keyH (w : World) : Key → Int
  | .inl k => hashInt k
  | .inr x => hashStr w x
theorem keyIs_shape : ∀ {k : Key} {v : Value}, keyIs k v = true → (∃ i t, k = Sum.inl i ∧ v = Value.int i t) ∨ (∃ x t, k = Sum.inr x ∧ v = Value.str x t)
  | .inl i, v, h => by
    obtain ⟨t, e⟩ := Value.isInt_shape (k := i) (v := v) h
    exact .inl ⟨i, t, rfl, e⟩
  | .inr x, v, h => by
    obtain ⟨t, e⟩ := Value.isStrOf_shape (x := x) (v := v) h
    exact .inr ⟨x, t, rfl, e⟩
theorem keyIs_int (i : Int) (t : Tok) : keyIs (.inl i) (.int i t) = true := by simp [keyIs, Value.isInt]
theorem keyIs_str (x : Str) (t : Tok) : keyIs (.inr x) (.str x t) = true := by simp [keyIs, Value.isStrOf]
theorem key_ll (a b : Int) : decide ((Sum.inl a : Key) = Sum.inl b) = (a == b) := by
  by_cases e : a = b
  · subst e; simp
  · have h : ¬ (Sum.inl a : Key) = Sum.inl b := fun q => e (Sum.inl.inj q)
    rw [decide_eq_false h]
    exact (beq_eq_false_iff_ne.mpr e).symm
theorem key_rr (a b : Str) : decide ((Sum.inr a : Key) = Sum.inr b) = decide (a = b) := by
  by_cases e : a = b
  · subst e; simp
  · have h : ¬ (Sum.inr a : Key) = Sum.inr b := fun q => e (Sum.inr.inj q)
    rw [decide_eq_false h, decide_eq_false e]
theorem key_lr (a : Int) (b : Str) : decide ((Sum.inl a : Key) = Sum.inr b) = false := decide_eq_false (fun q => nomatch q)
theorem key_rl (a : Str) (b : Int) : decide ((Sum.inr a : Key) = Sum.inl b) = false := decide_eq_false (fun q => nomatch q)
def mixKind (prog : Program) (w : World) : PySem.KeyKind prog w Key where
  is := keyIs
  hash := keyH w
  inj := fun v a b ha hb => by
    rcases keyIs_shape ha with ⟨i, t, rfl, rfl⟩ | ⟨x, t, rfl, rfl⟩
    · rcases keyIs_shape hb with ⟨j, u, rfl, e⟩ | ⟨y, u, rfl, e⟩
      · injection e with e1 _; rw [e1]
      · exact nomatch e
    · rcases keyIs_shape hb with ⟨j, u, rfl, e⟩ | ⟨y, u, rfl, e⟩
      · exact nomatch e
      · injection e with e1 _; rw [e1]
  byValue := fun k v h => by
    rcases keyIs_shape h with ⟨i, t, rfl, rfl⟩ | ⟨x, t, rfl, rfl⟩ <;> rfl
  pyHash := fun hv h => by
    rcases keyIs_shape hv with ⟨i, t, rfl, rfl⟩ | ⟨x, t, rfl, rfl⟩
    · exact wpAny_pyHash_int h
    · exact wpAny_pyHash_str h
  eqBool := fun hu hv h => by
    rcases keyIs_shape hu with ⟨i, t, rfl, rfl⟩ | ⟨x, t, rfl, rfl⟩
    · rcases keyIs_shape hv with ⟨j, u, rfl, rfl⟩ | ⟨y, u, rfl, rfl⟩
      · rw [key_ll] at h; exact wpAny_eqBool_int h
      · rw [key_lr] at h; exact SeqAt.EqAt.int_str i t y u _ _ _ _ h
    · rcases keyIs_shape hv with ⟨j, u, rfl, rfl⟩ | ⟨y, u, rfl, rfl⟩
      · rw [key_rl] at h; exact SeqAt.EqAt.str_int x t j u _ _ _ _ h
      · rw [key_rr] at h; exact wpAny_eqBool_str h
  «strs» := fun k x t v h => by
    rcases keyIs_shape h with ⟨i, u, rfl, e⟩ | ⟨y, u, rfl, e⟩
    · exact nomatch e
    · injection e with e1 _
      subst e1
      cases v <;> rfl
theorem mixKind_int (prog : Program) (w : World) (i : Int) (t : Tok) : (mixKind prog w).is (.inl i) (.int i t) = true := keyIs_int i t
theorem mixKind_str (prog : Program) (w : World) (x : Str) (t : Tok) : (mixKind prog w).is (.inr x) (.str x t) = true := keyIs_str x t
end L2
namespace L2
open PySem PySem.Spec PyProof.Rows
inductive V where
  | non | bl (b : Bool) | int (i : Int) | str (x : Str) | byt (b : Array UInt8) | flt (b : UInt64) | ref (a : Addr) | ty (n : String)
  deriving DecidableEq
def RelV : V → Value → Prop
  | .non, u => u = Value.none
  | .bl b, u => u = Value.bool b
  | .int i, u => ∃ t, u = Value.int i t
  | .str x, u => ∃ t, u = Value.str x t
  | .byt b, u => ∃ t, u = Value.bytes b t
  | .flt b, u => ∃ t, u = Value.float b t
  | .ref a, u => u = Value.ref a
  | .ty n, u => u = Value.type n
abbrev Vals : List V → List Value → Prop := Paired RelV
theorem Vals.length {xs : List V} {us : List Value} (r : Vals xs us) : xs.length = us.length := Paired.length r
theorem Vals.get : ∀ {xs : List V} {us : List Value} {i : Nat} {x : V}, Vals xs us → xs[i]? = some x → ∃ u, us[i]? = some u ∧ RelV x u
  | _, _, _, _, .nil, e => by simp at e
  | _, _, 0, _, .cons r _, e => by simp at e; subst e; exact ⟨_, rfl, r⟩
  | _, _, i + 1, x, .cons _ t, e => by
    obtain ⟨u, h1, h2⟩ := Vals.get (i := i) (x := x) t (by simpa using e)
    exact ⟨u, by simpa using h1, h2⟩
theorem Vals.set {x : V} {u : Value} (r : RelV x u) : ∀ {xs : List V} {us : List Value} (i : Nat), Vals xs us → Vals (xs.set i x) (us.set i u)
  | _, _, _, .nil => .nil
  | _, _, 0, .cons _ t => .cons r t
  | _, _, i + 1, .cons q t => .cons q (Vals.set r i t)
theorem Vals.append : ∀ {xs ys : List V} {us ws : List Value}, Vals xs us → Vals ys ws → Vals (xs ++ ys) (us ++ ws)
  | _, _, _, _, .nil, s => s
  | _, _, _, _, .cons r t, s => .cons r (Vals.append t s)
theorem Vals.take : ∀ {xs : List V} {us : List Value} (n : Nat), Vals xs us → Vals (xs.take n) (us.take n)
  | _, _, 0, _ => .nil
  | _, _, _ + 1, .nil => .nil
  | _, _, n + 1, .cons r t => .cons r (Vals.take n t)
theorem Vals.drop : ∀ {xs : List V} {us : List Value} (n : Nat), Vals xs us → Vals (xs.drop n) (us.drop n)
  | _, _, 0, r => r
  | _, _, _ + 1, .nil => .nil
  | _, _, n + 1, .cons _ t => Vals.drop n t
def RelO : Option V → Option Value → Prop
  | some v, some u => RelV v u
  | none, none => True
  | _, _ => False
def KV {κ : Type} : List (κ × V) → List (κ × Value) → Prop := Paired fun (p : κ × V) (q : κ × Value) => p.1 = q.1 ∧ RelV p.2 q.2
def kV : Key → V
  | .inl i => .int i
  | .inr x => .str x
inductive HO where
  | lst (xs : List V)
  | tup (xs : List V)
  | dK (kvs : List (Key × V)) | dT (kvs : List (List Key × V))
  | set (S : Int → Bool) (n : Nat)
  | ins (C dx : Addr) (fs : List (Str × V))
  | own (x : Addr)
  | xd (fs : List (Str × V))
  | met (f x : Addr)
  | rng (lo hi : Int)
  | frz (o : Obj) (u : HO)
  | tbl (ps : Array Value)
  | ext (φ : Heap → Prop)
abbrev Hp := Addr → Option HO
def upd (H : Hp) (a : Addr) (o : HO) : Hp := fun b => if b = a then some o else H b
theorem upd_same {H : Hp} {a : Addr} {o : HO} : upd H a o a = some o := by unfold upd; rw [if_pos rfl]
theorem upd_ne {H : Hp} {a b : Addr} {o : HO} (h : b ≠ a) : upd H a o b = H b := by unfold upd; rw [if_neg h]
theorem upd_upd {H : Hp} {a : Addr} {o u : HO} : upd (upd H a o) a u = upd H a u := by
  funext b; unfold upd; split <;> rfl
theorem ne_of {H : Hp} {a b : Addr} {o u : HO} (h : H a = some o) (h' : H b = some u) (d : o ≠ u) : a ≠ b := by
  intro e; subst e; rw [h] at h'; exact d (Option.some.inj h')
theorem ne_of_none {H : Hp} {a b : Addr} {o : HO} (h : H a = some o) (h' : H b = none) : a ≠ b := by
  intro e; subst e; rw [h] at h'; cases h'
section
variable (P : Program) (w : World)
def ObjOk (H : Hp) (h : Heap) (a : Addr) : HO → Prop
  | .lst xs => xs.length ≤ sizeLine ∧ ∃ (its : List Value) (n : Nat), Vals xs its ∧ h.get? a = some { cls := .type "list", data := .seq its.toArray n }
  | .tup xs => xs.length ≤ sizeLine ∧ ∃ its : List Value, Vals xs its ∧ IsTup h a its.toArray
  | .dK kvs => kvs.length ≤ sizeLine ∧ (a == sysModules) = false ∧ ∃ vs, KV kvs vs ∧ h.DictOf (mixKind P w) a vs
  | .dT kvs => kvs.length ≤ sizeLine ∧ (a == sysModules) = false ∧ ∃ xs : List (List Key × Addr × Value),
      Paired (fun (p : List Key × V) (q : List Key × Addr × Value) => p.1 = q.1 ∧ H q.2.1 = some (.tup (p.1.map kV)) ∧ RelV p.2 q.2.2) kvs xs ∧
      ∃ o es ep, h.get? a = some o ∧ o.ExactDict ∧ o.data = .dict es ep ∧ es.toList = xs.map (entryOfKey (tupleKind (mixKind P w))) ∧ (xs.map (·.1)).Nodup
  | .set S n => h.SetOf (intKind P w) a S n
  | .ins C dx fs => H dx = some (.own a) ∧ fs.length ≤ 1000 ∧ dx ≠ a ∧ h.get? a = some (PySem.W.instObj C dx) ∧
      ∃ mA, h.Ns1 dx mA ∧ (∀ f, RelO (fs.lookup f) (mA f)) ∧ PySem.Within mA (fs.map (·.1))
  | .own _ => ∃ o, h.get? a = some o
  | .xd fs => ∃ mA, h.Ns1 a mA ∧ ∀ f, RelO (fs.lookup f) (mA f)
  | .rng lo hi => ∃ t u v, h.get? a = some { cls := .type "range", data := .fields #[.int lo t, .int hi u, .int 1 v] }
  | .frz o u => h.get? a = some o ∧ ObjOk H h a u
  | .tbl ps => h.get? a = some { cls := .none, data := .fields ps }
  | .met f x => h.get? a = some (PySem.W.methodObj (.ref f) (.ref x))
  | .ext φ => φ h ∧ (∃ o, h.get? a = some o) ∧ ∀ h1 h2 : Heap, φ h1 → (∀ o, h1.get? a = some o → h2.get? a = some o) → φ h2
def HOk (H : Hp) (h : Heap) : Prop := ∀ a o, H a = some o → ObjOk P w H h a o
end
section
variable {P : Program} {w : World} {H H' : Hp} {h h' : Heap} {a : Addr} {o : HO}
theorem ObjOk.lt (x : ObjOk P w H h a o) : a < h.objs.size := by
  cases o with
  | lst xs => obtain ⟨_, _, _, _, e⟩ := x; exact Heap.lt_size e
  | tup xs => obtain ⟨_, _, _, p⟩ := x; exact p.lt
  | dK kvs => obtain ⟨_, _, _, _, o, _, _, e, _⟩ := x; exact Heap.lt_size e
  | dT kvs => obtain ⟨_, _, _, _, o, _, _, e, _⟩ := x; exact Heap.lt_size e
  | set S n => obtain ⟨o, _, _, _, e, _⟩ := x; exact Heap.lt_size e
  | ins C dx fs => obtain ⟨_, _, _, e, _⟩ := x; exact Heap.lt_size e
  | own y => obtain ⟨_, e⟩ := x; exact Heap.lt_size e
  | xd fs => obtain ⟨_, ⟨_, _, _, e, _⟩, _⟩ := x; exact Heap.lt_size e
  | rng lo hi => obtain ⟨_, _, _, e⟩ := x; exact Heap.lt_size e
  | frz ob u => obtain ⟨e, _⟩ := x; exact Heap.lt_size e
  | tbl ps => exact Heap.lt_size (show h.get? a = some _ from x)
  | met f y => exact Heap.lt_size (show h.get? a = some _ from x)
  | ext φ => obtain ⟨_, ⟨_, e⟩, _⟩ := x; exact Heap.lt_size e
theorem Paired.mapP {α β : Type} {F G : α → β → Prop} : ∀ {l₁ : List α} {l₂ : List β}, Paired F l₁ l₂ → (∀ a b, F a b → G a b) → Paired G l₁ l₂
  | _, _, .nil, _ => .nil
  | _, _, .cons r t, f => .cons (f _ _ r) (Paired.mapP t f)
theorem ObjOk.stay (x : ObjOk P w H h a o) (k : ∀ b u, (b = a ∨ H b = some (.own a)) → h.get? b = some u → h'.get? b = some u)
    (ho : ∀ b, H b = some (.own a) → H' b = some (.own a)) (ht : ∀ b xs, H b = some (.tup xs) → H' b = some (.tup xs)) : ObjOk P w H' h' a o := by
  induction o with
  | lst xs => obtain ⟨z, its, n, r, e⟩ := x; exact ⟨z, its, n, r, k _ _ (.inl rfl) e⟩
  | tup xs => obtain ⟨z, its, r, ob, e, c⟩ := x; exact ⟨z, its, r, ob, k _ _ (.inl rfl) e, c⟩
  | dK kvs => obtain ⟨z, y, vs, r, ob, es, ep, e, c⟩ := x; exact ⟨z, y, vs, r, ob, es, ep, k _ _ (.inl rfl) e, c⟩
  | dT kvs =>
    obtain ⟨z, y, xs, r, ob, es, ep, e, c⟩ := x
    exact ⟨z, y, xs, Paired.mapP r fun p q z => ⟨z.1, ht _ _ z.2.1, z.2.2⟩, ob, es, ep, k _ _ (.inl rfl) e, c⟩
  | set S n => obtain ⟨ob, es, ep, t, e, c⟩ := x; exact ⟨ob, es, ep, t, k _ _ (.inl rfl) e, c⟩
  | ins C dx fs =>
    obtain ⟨d, z, ne, e, mA, ⟨od, es, ep, e2, c⟩, r⟩ := x
    exact ⟨ho _ d, z, ne, k _ _ (.inl rfl) e, mA, ⟨od, es, ep, k _ _ (.inr d) e2, c⟩, r⟩
  | own y => obtain ⟨ob, e⟩ := x; exact ⟨ob, k _ _ (.inl rfl) e⟩
  | xd fs => obtain ⟨mA, ⟨od, es, ep, e, c⟩, r⟩ := x; exact ⟨mA, ⟨od, es, ep, k _ _ (.inl rfl) e, c⟩, r⟩
  | rng lo hi => obtain ⟨t, u, v, e⟩ := x; exact ⟨t, u, v, k _ _ (.inl rfl) e⟩
  | frz ob u ih => obtain ⟨e, q⟩ := x; exact ⟨k _ _ (.inl rfl) e, ih q⟩
  | tbl ps =>
    have e : h.get? a = some { cls := .none, data := .fields ps } := x
    show h'.get? a = some { cls := .none, data := .fields ps }
    exact k a _ (.inl rfl) e
  | met f y =>
    have e : h.get? a = some (PySem.W.methodObj (.ref f) (.ref y)) := x
    show h'.get? a = some (PySem.W.methodObj (.ref f) (.ref y))
    exact k a _ (.inl rfl) e
  | ext φ => obtain ⟨p, ⟨o, e⟩, st⟩ := x; exact ⟨st _ _ p fun o q => k _ _ (.inl rfl) q, ⟨o, k _ _ (.inl rfl) e⟩, st⟩
theorem HOk.lt (x : HOk P w H h) (e : H a = some o) : a < h.objs.size := (x a o e).lt
theorem HOk.fresh (x : HOk P w H h) (e : h.objs.size ≤ a) : H a = none := by
  cases q : H a with
  | none => rfl
  | some u => exact absurd (Nat.lt_of_lt_of_le (x.lt q) e) (Nat.lt_irrefl _)
theorem HOk.kept (x : HOk P w H h) (k : ∀ b u, h.get? b = some u → h'.get? b = some u) : HOk P w H h' := fun a o e =>
  (x a o e).stay (fun b u _ q => k b u q) (fun _ q => q) fun _ _ q => q
theorem HOk.laid (x : HOk P w H h) (k : ∀ b u, h.get? b = some u → h'.get? b = some u) (hp : h.objs.size ≤ a) (new : ObjOk P w (upd H a o) h' a o) : HOk P w (upd H a o) h' := fun b u e => by
  have hn := x.fresh hp
  by_cases hb : b = a
  · subst hb; rw [upd_same] at e; cases e; exact new
  · rw [upd_ne hb] at e
    exact (x b u e).stay (fun c v _ q => k c v q) (fun c q => by rw [upd_ne (ne_of_none q hn)]; exact q) fun c xs q => by rw [upd_ne (ne_of_none q hn)]; exact q
end
def Rd (H : Hp) (a : Addr) (u : HO) : Prop := H a = some u ∨ ∃ o, H a = some (.frz o u)
theorem Rd.ok {P : Program} {w : World} {H : Hp} {h : Heap} {a : Addr} {u : HO} (r : Rd H a u) (x : HOk P w H h) : ObjOk P w H h a u := by
  rcases r with r | ⟨o, r⟩
  · exact x a u r
  · obtain ⟨_, q⟩ := x a _ r
    exact q
def Mut : Option HO → Prop
  | some (.lst _) => True
  | some (.dK _) => True
  | some (.dT _) => True
  | some (.set _ _) => True
  | some (.ins _ _ _) => True
  | some (.ext _) => True
  | _ => False
section
variable {P : Program} {w : World} {H : Hp} {h h' : Heap} {x e : Addr} {o' : HO}
theorem HOk.write (ok : HOk P w H h) (mu : Mut (H x)) (he : e = x ∨ H e = some (.own x)) (k : ∀ b u, b ≠ e → h.get? b = some u → h'.get? b = some u) (heo : ∃ u, h'.get? e = some u)
    (new : ObjOk P w (upd H x o') h' x o') : HOk P w (upd H x o') h' := fun b u q => by
  have nown : ∀ c y, H c = some (.own y) → c ≠ x := fun c y r z => by subst z; rw [r] at mu; exact mu
  have ntup : ∀ c xs, H c = some (.tup xs) → c ≠ x := fun c xs r z => by subst z; rw [r] at mu; exact mu
  by_cases hb : b = x
  · subst hb; rw [upd_same] at q; cases q; exact new
  · rw [upd_ne hb] at q
    by_cases hbe : b = e
    · have q' : H b = some (.own x) := by
        rcases he with z | z
        · exact absurd (hbe.trans z) hb
        · rw [hbe]; exact z
      rw [q] at q'; cases q'
      obtain ⟨v, hv⟩ := heo
      exact ⟨v, by rw [hbe]; exact hv⟩
    · refine (ok b u q).stay (fun c v hc r => k c v ?_ r) (fun c r => by rw [upd_ne (nown c b r)]; exact r) fun c xs r => by rw [upd_ne (ntup c xs r)]; exact r
      rcases hc with rfl | hc
      · exact hbe
      · rintro rfl
        rcases he with z | z
        · exact nown c b hc z
        · rw [hc] at z; cases z; exact hb rfl
end
structure Un (fs ex : List Addr) (H H' : Hp) (h h' : Heap) : Prop where
  keep : ∀ b o, h.get? b = some o → H b = none → b ∉ fs → b ∉ ex → h'.get? b = some o
  slot : ∀ b o, h.get? b = some o → H b = none → b ∈ fs → b ∉ ex → ∃ sl, h'.get? b = some { o with slots := sl }
  free : ∀ b o, h.get? b = some o → H b = none → b ∉ ex → H' b = none
  there : ∀ b o, h.get? b = some o → b ∉ ex → ∃ o', h'.get? b = some o'
  tups : ∀ b xs, H b = some (.tup xs) → H' b = some (.tup xs)
  frzs : ∀ b o u, H b = some (.frz o u) → H' b = some (.frz o u)
  tbls : ∀ b ps, H b = some (.tbl ps) → ∃ more, H' b = some (.tbl (ps ++ more))
section
variable {fs fs' ex ex' : List Addr} {H H1 H2 : Hp} {h h1 h2 h' : Heap} {a x e : Addr} {o : HO}
theorem Un.any (u : Un fs ex H H1 h h1) {b : Addr} {ob : Obj} (q : h.get? b = some ob) (n : H b = none) (hx : b ∉ ex) : ∃ sl, h1.get? b = some { ob with slots := sl } := by
  by_cases hb : b ∈ fs
  · exact u.slot b ob q n hb hx
  · exact ⟨ob.slots, u.keep b ob q n hb hx⟩
theorem Un.kept (k : ∀ b u, h.get? b = some u → h'.get? b = some u) : Un fs ex H H h h' :=
  ⟨fun b ob q _ _ _ => k b ob q, fun b ob q _ _ _ => ⟨ob.slots, k b ob q⟩, fun _ _ _ n _ => n, fun b ob q _ => ⟨ob, k b ob q⟩, fun _ _ q => q, fun _ _ _ q => q, fun _ ps q => ⟨#[], by rw [q]; simp⟩⟩
theorem Un.refl : Un fs ex H H h h := Un.kept fun _ _ q => q
theorem Un.laid (k : ∀ b u, h.get? b = some u → h'.get? b = some u) (hp : h.objs.size ≤ a) (hn : H a = none) : Un fs ex H (upd H a o) h h' where
  keep := fun b u q _ _ _ => k b u q
  slot := fun b u q _ _ _ => ⟨u.slots, k b u q⟩
  free := fun b u q n _ => by rw [upd_ne (Nat.ne_of_lt (Nat.lt_of_lt_of_le (Heap.lt_size q) hp))]; exact n
  there := fun b u q _ => ⟨u, k b u q⟩
  tups := fun b xs q => by rw [upd_ne (ne_of_none q hn)]; exact q
  frzs := fun b u xs q => by rw [upd_ne (ne_of_none q hn)]; exact q
  tbls := fun b ps q => ⟨#[], by rw [upd_ne (ne_of_none q hn), q]; simp⟩
theorem Un.write (mu : Mut (H x)) (he : e = x ∨ H e = some (.own x)) (k : ∀ b u, b ≠ e → h.get? b = some u → h'.get? b = some u) (heo : ∃ u, h'.get? e = some u) : Un fs ex H (upd H x o) h h' := by
  have hx : ∀ b, H b = none → b ≠ x := fun b n z => by subst z; rw [n] at mu; exact mu
  have hb : ∀ b, H b = none → b ≠ e := fun b n z => by
    subst z
    rcases he with r | r
    · exact hx b n r
    · rw [n] at r; cases r
  have hm : ∀ b u, H b = some u → ¬ Mut (some u) → b ≠ x := fun b u q nm z => by subst z; rw [q] at mu; exact nm mu
  refine ⟨fun b u q n _ _ => k b u (hb b n) q, fun b u q n _ _ => ⟨u.slots, k b u (hb b n) q⟩, fun b u q n _ => by rw [upd_ne (hx b n)]; exact n, fun b u q _ => ?_,
    fun b xs q => by rw [upd_ne (hm b _ q fun z => z)]; exact q, fun b u xs q => by rw [upd_ne (hm b _ q fun z => z)]; exact q, fun b ps q => ⟨#[], by rw [upd_ne (hm b _ q fun z => z), q]; simp⟩⟩
  by_cases hbe : b = e
  · subst hbe; exact heo
  · exact ⟨u, k b u hbe q⟩
end
def trk (h : Heap) (H : Hp) : List Addr := (List.range h.objs.size).filter fun a => (H a).isSome
def hidT (h : Heap) (H : Hp) : Heap := PySem.W.hideAll h (trk h H)
theorem hidT_size (h : Heap) (H : Hp) : (hidT h H).objs.size = h.objs.size := PySem.W.hideAll_size _ _
theorem hidT_get {h : Heap} {H : Hp} {b : Addr} {o : Obj} (e : h.get? b = some o) (n : H b = none) : (hidT h H).get? b = some o :=
  PySem.W.hideAll_get _ e fun hm => by
    have q : (H b).isSome = true := (List.mem_filter.mp hm).2
    rw [n] at q; simp at q
theorem of_hidT {h : Heap} {H : Hp} {b : Addr} {o : Obj} (e : (hidT h H).get? b = some o) : h.get? b = some o ∧ H b = none := by
  have e' : h.get? b = some o := PySem.W.of_hideAll (trk h H) e
  refine ⟨e', ?_⟩
  cases q : H b with
  | none => rfl
  | some x =>
    have hm : b ∈ trk h H := List.mem_filter.mpr ⟨List.mem_range.mpr (Heap.lt_size e'), by simp [q]⟩
    have z : (hidT h H).get? b = none := PySem.W.hideAll_none (trk h H) hm
    rw [z] at e; cases e
end L2
namespace L2
open PySem PySem.Spec PyProof.Rows
structure Mod (K : PySem.W.Frag) (mg : Str → Option Value) (base : Heap) : Prop where
  kin : K.In base
  glob : base.Ns mainGlobals mg
  blt : ∃ mb, base.Ns builtinsNs mb ∧ ∀ x : Str, x ≠ "__name__" → mb x = bootBuiltins x
  nolimit : base.NoLimit
structure Cx where
  prog : Program
  w : World
  K : PySem.W.Frag
  mg : Str → Option Value
  base : Heap
  A : Around
  N : List Str
  s₀ : Shared
  H₀ : Hp
  env : Env
  outer : List Env
  stack : List Env
  ex : List Addr
  fn : Str → Bool
  calm : Bool
  pn : List (Addr × Obj)
  xe : Value → Shared → Prop
def frs (l : List Env) : List Addr := l.filterMap (·.frame)
abbrev Cx.fs (X : Cx) : List Addr := frs X.outer
def Vis (sc : Scope) (x : Str) : Prop := sc.names.lookup x = some .local ∨ sc.names.lookup x = some .cell ∨ sc.names.lookup x = some .free
def Loc (sc : Scope) (x : Str) : Prop := sc.names.lookup x = some .local ∨ sc.names.lookup x = some .cell
def Look (env : Env) (h : Heap) (m : Str → Option Value) (x : Str) (u : Value) : Prop :=
  (env.kindOf x = some .local ∧ m x = some u) ∨ ((env.kindOf x = some .cell ∨ env.kindOf x = some .free) ∧ ∃ c, env.cells.lookup x = some c ∧ h.IsCell c (some u))
structure Cx.Ok (X : Cx) : Prop where
  mod : Mod X.K X.mg X.base
  kind : X.env.scope.kind = .function
  glob : X.env.globals = mainGlobals
  blt : X.env.builtins = builtinsNs
  above : X.s₀.heap.objs.size ≤ X.env.locals
  inj : ∀ x y c, X.env.cells.lookup x = some c → X.env.cells.lookup y = some c → x = y
  has : ∀ x, (X.env.kindOf x = some .cell ∨ X.env.kindOf x = some .free) → ∃ c, X.env.cells.lookup x = some c
  cab : ∀ x c, X.fn x = true → X.env.cells.lookup x = some c → X.s₀.heap.objs.size ≤ c
  hd : X.calm = true → X.A.handled = none
  frames : X.A.frames = some X.stack
  stk : X.stack = X.outer ∨ (X.stack = X.env :: X.outer ∧ X.env.frame = some X.env.locals)
  exf : ∀ b ∈ X.ex, b ≠ X.env.locals ∧ ∀ x c, X.env.cells.lookup x = some c → c ≠ b
  bs : ∀ b o, X.base.get? b = some o → X.s₀.heap.get? b = some o ∧ X.H₀ b = none
  bsz : X.base.objs.size ≤ X.s₀.heap.objs.size
  noex : ∀ b o, X.base.get? b = some o → b ∉ X.ex
  exfs : ∀ b ∈ X.ex, b ∉ X.fs
  funs : X.s₀.heap.FunFrames X.base X.outer
  frf : ∀ b ∈ X.fs, X.H₀ b = none
structure Inv (X : Cx) (pins : List (Addr × Obj)) (σ : List (Option V)) (H : Hp) (s : Shared) : Prop where
  ok : X.Ok
  os : s.os = X.s₀.os
  bare : AllBare s.gens
  base : Un X.fs X.ex X.H₀ H X.s₀.heap s.heap
  loc : ∃ m, s.heap.Ns X.env.locals m ∧ ∀ (i : Nat) (x : Str) (v : V), X.N[i]? = some x → σ[i]? = some (some v) → Vis X.env.scope x → ∃ u, RelV v u ∧ Look X.env s.heap m x u
  cell : ∀ x c, X.env.cells.lookup x = some c → ∃ v, s.heap.IsCell c v
  free : H X.env.locals = none
  freeC : ∀ x c, X.env.cells.lookup x = some c → H c = none
  pin : ∀ p ∈ X.pn ++ pins, s.heap.get? p.1 = some p.2 ∧ H p.1 = none ∧ p.1 ≠ X.env.locals ∧ p.1 ∉ X.fs ∧ ∀ v, p.2.data ≠ .cell v
  hok : HOk X.prog X.w H s.heap
  len : σ.length = X.N.length
section
variable {X : Cx} {pins : List (Addr × Obj)} {σ : List (Option V)} {H H' : Hp} {s : Shared} {h' : Heap}
theorem Cx.Ok.nofr (ok : X.Ok) {b : Addr} {o : Obj} (e : X.base.get? b = some o) : b ∉ X.fs := fun hb => by
  have := (ok.funs.mem hb).1
  rw [e] at this; cases this
theorem Inv.bs (I : Inv X pins σ H s) : ∀ b o, X.base.get? b = some o → s.heap.get? b = some o ∧ H b = none := fun b o e =>
  ⟨I.base.keep b o (I.ok.bs b o e).1 (I.ok.bs b o e).2 (I.ok.nofr e) (I.ok.noex b o e), I.base.free b o (I.ok.bs b o e).1 (I.ok.bs b o e).2 (I.ok.noex b o e)⟩
theorem Inv.bk (I : Inv X pins σ H s) : ∀ b o, X.base.get? b = some o → s.heap.get? b = some o := fun b o e => (I.bs b o e).1
theorem Inv.mod (I : Inv X pins σ H s) : Mod X.K X.mg X.base := I.ok.mod
theorem Inv.kIn (I : Inv X pins σ H s) : X.K.In s.heap := I.ok.mod.kin.keeps I.bk
theorem Inv.nolimit (I : Inv X pins σ H s) : s.heap.NoLimit := I.ok.mod.nolimit.keeps I.bk
theorem Inv.lt (I : Inv X pins σ H s) : X.env.locals < s.heap.objs.size := let ⟨_, hn, _⟩ := I.loc; hn.lt
theorem Inv.sz (I : Inv X pins σ H s) : X.s₀.heap.objs.size ≤ s.heap.objs.size := Nat.le_trans I.ok.above (Nat.le_of_lt I.lt)
theorem Inv.nofs (I : Inv X pins σ H s) {a : Addr} (h : s.heap.objs.size ≤ a) : a ∉ X.fs := fun hb => by
  obtain ⟨_, o, ho, _⟩ := I.ok.funs.mem hb
  exact absurd (Nat.lt_of_lt_of_le (Heap.lt_size ho) (Nat.le_trans I.sz h)) (Nat.lt_irrefl _)
theorem Inv.cne (I : Inv X pins σ H s) : ∀ x c, X.env.cells.lookup x = some c → c ≠ X.env.locals := fun x c e z => by
  obtain ⟨v, o, ho, hd⟩ := I.cell x c e
  obtain ⟨m, ⟨o', es, ep, ho', hd', _⟩, _⟩ := I.loc
  rw [z, ho'] at ho; cases ho; rw [hd'] at hd; cases hd
theorem Inv.funs (I : Inv X pins σ H s) : s.heap.FunFrames X.base X.outer := by
  have all : ∀ (l : List Env), (∀ b ∈ frs l, b ∈ X.fs) → X.s₀.heap.FunFrames X.base l → s.heap.FunFrames X.base l := by
    intro l
    induction l with
    | nil => intro _ _; trivial
    | cons env r ih =>
      intro hs hl
      obtain ⟨hk, ⟨L, o, hf, hn, ho, hd⟩, hr⟩ := hl
      have hL : L ∈ X.fs := hs L (by unfold frs; rw [List.filterMap_cons, hf]; exact List.mem_cons_self)
      obtain ⟨sl, e⟩ := I.base.slot L o ho (I.ok.frf L hL) hL fun z => I.ok.exfs L z hL
      exact ⟨hk, ⟨L, _, hf, hn, e, hd⟩, ih (fun b hb => hs b (by unfold frs; rw [List.filterMap_cons, hf]; exact List.mem_cons_of_mem _ hb)) hr⟩
  exact all X.outer (fun _ hb => hb) I.ok.funs
theorem Inv.stack (I : Inv X pins σ H s) : s.heap.FunFrames X.base X.stack := by
  rcases I.ok.stk with e | ⟨e, hf⟩
  · rw [e]; exact I.funs
  · rw [e]
    obtain ⟨m, hn, _⟩ := I.loc
    refine .cons (by rw [I.ok.kind]; decide) hf hn ?_ I.funs
    exact Heap.get?_none_of_le (Nat.le_trans I.ok.bsz I.ok.above)
theorem Inv.stkSub (I : Inv X pins σ H s) : ∀ b ∈ frs X.stack, b ∈ X.env.locals :: X.fs := fun b hb => by
  rcases I.ok.stk with e | ⟨e, hf⟩
  · rw [e] at hb; exact List.mem_cons_of_mem _ hb
  · rw [e] at hb
    unfold frs at hb
    rw [List.filterMap_cons, hf] at hb
    exact hb
theorem Inv.stkFree (I : Inv X pins σ H s) : ∀ b ∈ frs X.stack, H b = none := fun b hb => by
  rcases List.mem_cons.mp (I.stkSub b hb) with e | hb
  · rw [e]; exact I.free
  · obtain ⟨_, o, ho, _⟩ := I.ok.funs.mem hb
    exact I.base.free b o ho (I.ok.frf b hb) fun z => I.ok.exfs b z hb
theorem Inv.step {g' : Array GenState} {t' : Nat} {d' : Drawn} {ch : List Addr} (I : Inv X pins σ H s)
    (hch : ∀ b ∈ ch, (b ∈ X.ex ∨ X.s₀.heap.objs.size ≤ b) ∧ b ≠ X.env.locals ∧ (∀ x c, X.env.cells.lookup x = some c → c ≠ b) ∧ ∀ p ∈ X.pn ++ pins, p.1 ≠ b)
    (keep : ∀ b o, b ≠ X.env.locals → b ∉ X.fs → b ∉ ch → s.heap.get? b = some o → H b = none → h'.get? b = some o)
    (slot : ∀ b o, b ≠ X.env.locals → b ∈ X.fs → b ∉ ch → s.heap.get? b = some o → H b = none → ∃ sl, h'.get? b = some { o with slots := sl }) (free : ∀ b o, b ∉ ch → s.heap.get? b = some o → H b = none → H' b = none)
    (there : ∀ b o, b ∉ ch → s.heap.get? b = some o → ∃ o', h'.get? b = some o')
    (tups : ∀ b xs, H b = some (.tup xs) → H' b = some (.tup xs)) (frzs : ∀ b o u, H b = some (.frz o u) → H' b = some (.frz o u)) (tbls : ∀ b ps, H b = some (.tbl ps) → ∃ more, H' b = some (.tbl (ps ++ more)))
    (ns : ∀ m, s.heap.Ns X.env.locals m → h'.Ns X.env.locals m) (hok : HOk X.prog X.w H' h') (hg : AllBare g') :
    Inv X pins σ H' { s with heap := h', gens := g', drawn := d', toks := t' } := by
  have neL : ∀ b o, X.s₀.heap.get? b = some o → b ≠ X.env.locals := fun b o e => Nat.ne_of_lt (Nat.lt_of_lt_of_le (Heap.lt_size e) I.ok.above)
  have neC : ∀ b o, X.s₀.heap.get? b = some o → b ∉ X.ex → b ∉ ch := fun b o e hx hb => by
    rcases (hch b hb).1 with z | z
    · exact hx z
    · exact absurd (Nat.lt_of_lt_of_le (Heap.lt_size e) z) (Nat.lt_irrefl _)
  have cellK : ∀ x c, X.env.cells.lookup x = some c → ∀ v, s.heap.IsCell c v → h'.IsCell c v := fun x c e v ⟨o, ho, hd⟩ => by
    have nch : c ∉ ch := fun z => (hch c z).2.2.1 x c e rfl
    by_cases hc : c ∈ X.fs
    · obtain ⟨sl, q⟩ := slot c o (I.cne x c e) hc nch ho (I.freeC x c e)
      exact ⟨_, q, hd⟩
    · exact ⟨o, keep c o (I.cne x c e) hc nch ho (I.freeC x c e), hd⟩
  refine ⟨I.ok, I.os, hg, ⟨fun b o e n hb hx => ?_, fun b o e n hb hx => ?_, fun b o e n hx => ?_, fun b o e hx => ?_, fun b xs e => tups b xs (I.base.tups b xs e), fun b o xs e => frzs b o xs (I.base.frzs b o xs e), fun b ps e => ?_⟩, ?_, fun x c e => ?_, ?_, fun x c e => ?_, fun p hp => ?_, hok, I.len⟩
  · exact keep b o (neL b o e) hb (neC b o e hx) (I.base.keep b o e n hb hx) (I.base.free b o e n hx)
  · obtain ⟨sl, e1⟩ := I.base.slot b o e n hb hx
    obtain ⟨sl', e2⟩ := slot b _ (neL b o e) hb (neC b o e hx) e1 (I.base.free b o e n hx)
    exact ⟨sl', e2⟩
  · obtain ⟨o', e1⟩ := I.base.there b o e hx
    exact free b o' (neC b o e hx) e1 (I.base.free b o e n hx)
  · obtain ⟨o', e1⟩ := I.base.there b o e hx
    exact there b o' (neC b o e hx) e1
  · obtain ⟨m1, e1⟩ := I.base.tbls b ps e
    obtain ⟨m2, e2⟩ := tbls b _ e1
    exact ⟨m1 ++ m2, by rw [e2, Array.append_assoc]⟩
  · obtain ⟨m, hn, hl⟩ := I.loc
    refine ⟨m, ns m hn, fun i x v e1 e2 e3 => ?_⟩
    obtain ⟨u, r, l⟩ := hl i x v e1 e2 e3
    refine ⟨u, r, ?_⟩
    rcases l with l | ⟨k, c, e, z⟩
    · exact .inl l
    · exact .inr ⟨k, c, e, cellK x c e _ z⟩
  · obtain ⟨v, z⟩ := I.cell x c e
    exact ⟨v, cellK x c e v z⟩
  · obtain ⟨m, ⟨o, _, _, ho, _⟩, _⟩ := I.loc
    exact free _ o (fun z => (hch _ z).2.1 rfl) ho I.free
  · obtain ⟨v, o, ho, hd⟩ := I.cell x c e
    exact free c o (fun z => (hch c z).2.2.1 x c e rfl) ho (I.freeC x c e)
  · obtain ⟨e, n, ne, nf, d⟩ := I.pin p hp
    have nch : p.1 ∉ ch := fun z => (hch p.1 z).2.2.2 p hp rfl
    exact ⟨keep p.1 p.2 ne nf nch e n, free p.1 p.2 nch e n, ne, nf, d⟩
theorem Inv.un {t' : Nat} (I : Inv X pins σ H s) (u : Un X.fs [] H H' s.heap h') (hok : HOk X.prog X.w H' h') : Inv X pins σ H' { s with heap := h', toks := t' } := by
  obtain ⟨m, ⟨o, es, ep, ho, r⟩, _⟩ := id I.loc
  obtain ⟨sl, hL⟩ := u.any ho I.free (by simp)
  exact I.step (g' := s.gens) (d' := s.drawn) (ch := []) (fun _ z => nomatch z) (fun b o _ hb _ e n => u.keep b o e n hb (by simp)) (fun b o _ hb _ e n => u.slot b o e n hb (by simp)) (fun b o _ e n => u.free b o e n (by simp)) (fun b o _ e => u.there b o e (by simp)) u.tups u.frzs u.tbls (fun m' hm => by
    obtain ⟨o', es', ep', ho', r'⟩ := hm
    rw [ho] at ho'; cases ho'
    exact ⟨_, es', ep', hL, r'⟩) hok I.bare
theorem Inv.call {g' : Array GenState} {t' : Nat} {d' : Drawn} {ch : List Addr} (I : Inv X pins σ H s) (u : Un (frs X.stack) ch H H' s.heap h') (hok : HOk X.prog X.w H' h') (hg : AllBare g')
    (hch : ∀ b ∈ ch, (b ∈ X.ex ∨ X.s₀.heap.objs.size ≤ b) ∧ b ≠ X.env.locals ∧ (∀ x c, X.env.cells.lookup x = some c → c ≠ b) ∧ ∀ p ∈ X.pn ++ pins, p.1 ≠ b) :
    Inv X pins σ H' { s with heap := h', gens := g', drawn := d', toks := t' } := by
  obtain ⟨m, ⟨o, es, ep, ho, r⟩, _⟩ := id I.loc
  obtain ⟨sl, hL⟩ := u.any ho I.free fun z => (hch _ z).2.1 rfl
  exact I.step (ch := ch) hch (fun b o hL hb hc e n => u.keep b o e n (fun z => (List.mem_cons.mp (I.stkSub b z)).elim hL hb) hc) (fun b o _ _ hc e n => u.any e n hc) (fun b o hc e n => u.free b o e n hc) (fun b o hc e => u.there b o e hc) u.tups u.frzs u.tbls (fun m' hm => by
    obtain ⟨o', es', ep', ho', r'⟩ := hm
    rw [ho] at ho'; cases ho'
    exact ⟨_, es', ep', hL, r'⟩) hok hg
theorem Inv.turned {t' : Nat} {it : Addr} (I : Inv X pins σ H s) (k : ∀ b o, b ≠ it → s.heap.get? b = some o → h'.get? b = some o) (hn : H it = none) (hL : it ≠ X.env.locals)
    (h1 : it ∈ X.ex ∨ X.s₀.heap.objs.size ≤ it) (h2 : ∀ x c, X.env.cells.lookup x = some c → c ≠ it) (h3 : ∀ p ∈ X.pn ++ pins, p.1 ≠ it) : Inv X pins σ H { s with heap := h', toks := t' } := by
  have nit : ∀ b u, H b = some u → b ≠ it := fun b u e z => by rw [z, hn] at e; cases e
  refine I.step (g' := s.gens) (d' := s.drawn) (ch := [it]) (fun b hb => ?_) (fun b o _ _ hc e _ => k b o (fun z => hc (by simp [z])) e) (fun b o _ _ hc e _ => ⟨o.slots, k b o (fun z => hc (by simp [z])) e⟩) (fun _ _ _ _ n => n)
    (fun b o hc e => ⟨o, k b o (fun z => hc (by simp [z])) e⟩) (fun _ _ e => e) (fun _ _ _ e => e) (fun b ps e => ⟨#[], by rw [e]; simp⟩) (fun m hm => ?_) (fun b u e => ?_) I.bare
  · have e : b = it := by simpa using hb
    subst e
    exact ⟨h1, hL, h2, h3⟩
  · obtain ⟨o, es, ep, ho, r⟩ := hm
    exact ⟨o, es, ep, k _ o (Ne.symm hL) ho, r⟩
  · refine (I.hok b u e).stay (fun c v hc q => k c v ?_ q) (fun _ q => q) fun _ _ q => q
    rcases hc with z | z
    · rw [z]; exact nit b u e
    · exact nit c _ z
theorem Inv.tok (I : Inv X pins σ H s) (t : Nat) : Inv X pins σ H { s with toks := t } := I.un (h' := s.heap) (t' := t) Un.refl I.hok
theorem Inv.kept {t' : Nat} (I : Inv X pins σ H s) (k : ∀ b u, s.heap.get? b = some u → h'.get? b = some u) : Inv X pins σ H { s with heap := h', toks := t' } := I.un (Un.kept k) (I.hok.kept k)
theorem Inv.laid {a : Addr} {o : HO} {t' : Nat} (I : Inv X pins σ H s) (k : ∀ b u, s.heap.get? b = some u → h'.get? b = some u) (hp : s.heap.objs.size ≤ a) (new : ObjOk X.prog X.w (upd H a o) h' a o) :
    Inv X pins σ (upd H a o) { s with heap := h', toks := t' } := I.un (Un.laid k hp (I.hok.fresh hp)) (I.hok.laid k hp new)
theorem Inv.write {x e : Addr} {o : HO} {t' : Nat} (I : Inv X pins σ H s) (mu : Mut (H x)) (he : e = x ∨ H e = some (.own x)) (k : ∀ b u, b ≠ e → s.heap.get? b = some u → h'.get? b = some u) (heo : ∃ u, h'.get? e = some u)
    (new : ObjOk X.prog X.w (upd H x o) h' x o) : Inv X pins σ (upd H x o) { s with heap := h', toks := t' } := I.un (Un.write mu he k heo) (I.hok.write mu he k heo new)
theorem Inv.pins_of {pins' : List (Addr × Obj)} (I : Inv X pins σ H s) (h : ∀ p ∈ pins', s.heap.get? p.1 = some p.2 ∧ H p.1 = none ∧ p.1 ≠ X.env.locals ∧ p.1 ∉ X.fs ∧ ∀ v, p.2.data ≠ .cell v) : Inv X pins' σ H s :=
  ⟨I.ok, I.os, I.bare, I.base, I.loc, I.cell, I.free, I.freeC, fun p hp => (List.mem_append.mp hp).elim (fun z => I.pin p (List.mem_append_left _ z)) (h p), I.hok, I.len⟩
theorem nodup_ix {N : List Str} (hN : N.Nodup) {i j : Nat} {x : Str} (a : N[i]? = some x) (b : N[j]? = some x) : i = j := by
  obtain ⟨h1, e1⟩ := List.getElem?_eq_some_iff.mp a
  obtain ⟨h2, e2⟩ := List.getElem?_eq_some_iff.mp b
  exact (List.getElem_inj hN).mp (e1.trans e2.symm)
theorem store_ok2 {M : Model} {A : Around} {E : Value → Shared → Prop} {i : Nat} {x : Str} {v : V} {u : Value} {Q : Unit → Shared → Prop} (I : Inv X pins σ H s) (hN : X.N.Nodup) (hi : X.N[i]? = some x) (hx : Loc X.env.scope x) (r : RelV v u)
    (h : ∀ s', Inv X pins (σ.set i (some v)) H s' → (∃ a, Heap.SameBut a s.heap s'.heap ∧ (a = X.env.locals ∨ X.env.cells.lookup x = some a)) → Q () s') (hf : X.fn x = true ∨ X.env.scope.names.lookup x = some .local := by first | exact .inl rfl | exact .inr rfl | assumption) : wpAny M A (storeName X.env x u) Q E s := by
  obtain ⟨m, hn, hl⟩ := id I.loc
  have hcls : (X.env.scope.kind == .class || (X.env.scope.kind == .module && X.env.locals != X.env.globals)) = false := by rw [I.ok.kind]; rfl
  have hiσ : i < σ.length := by rw [I.len]; exact (List.getElem?_eq_some_iff.mp hi).1
  have cne := I.cne
  have tracked : ∀ {a : Addr} {h' : Heap}, (∃ o, s.heap.get? a = some o ∧ H a = none) → Heap.SameBut a s.heap h' → HOk X.prog X.w H h' := fun {a h'} ha hs b ob e => by
    obtain ⟨_, _, hfree⟩ := ha
    refine (I.hok b ob e).stay (fun c w' hc q => (hs.2 c ?_).trans q) (fun _ q => q) fun _ _ q => q
    rintro rfl
    rcases hc with rfl | hc
    · rw [hfree] at e; cases e
    · rw [hfree] at hc; cases hc
  rcases hx with hk | hk
  · refine wpAny_storeName_local hk hn (fun h' hn' hs => ?_) hcls
    obtain ⟨oL, _, _, hoL, _⟩ := id hn
    refine h _ ⟨I.ok, I.os, I.bare, ⟨fun b o e n hb hx => ?_, fun b o e n hb hx => ?_, I.base.free, fun b o e hx => ?_, I.base.tups, I.base.frzs, I.base.tbls⟩, ⟨_, hn', fun j y v' e1 e2 e3 => ?_⟩, fun y c e => ?_, I.free, I.freeC, fun p hp => ?_, tracked ⟨oL, hoL, I.free⟩ hs, by simpa using I.len⟩ ⟨_, hs, .inl rfl⟩
    · exact (hs.2 b (Nat.ne_of_lt (Nat.lt_of_lt_of_le (Heap.lt_size e) I.ok.above))).trans (I.base.keep b o e n hb hx)
    · obtain ⟨sl, e1⟩ := I.base.slot b o e n hb hx
      exact ⟨sl, (hs.2 b (Nat.ne_of_lt (Nat.lt_of_lt_of_le (Heap.lt_size e) I.ok.above))).trans e1⟩
    · obtain ⟨o', e1⟩ := I.base.there b o e hx
      exact ⟨o', (hs.2 b (Nat.ne_of_lt (Nat.lt_of_lt_of_le (Heap.lt_size e) I.ok.above))).trans e1⟩
    · by_cases hj : j = i
      · subst hj
        rw [hi] at e1; cases e1
        rw [List.getElem?_set_self hiσ] at e2
        cases e2
        exact ⟨u, r, .inl ⟨hk, by simp⟩⟩
      · rw [List.getElem?_set_ne (Ne.symm hj)] at e2
        obtain ⟨u', r', q⟩ := hl j y v' e1 e2 e3
        refine ⟨u', r', ?_⟩
        rcases q with ⟨k, e⟩ | ⟨k, c, e, z⟩
        · refine .inl ⟨k, ?_⟩
          have : y ≠ x := fun e => hj (nodup_ix hN e1 (e ▸ hi))
          simp [this, e]
        · exact .inr ⟨k, c, e, z.sameBut hs (cne y c e)⟩
    · obtain ⟨w', z⟩ := I.cell y c e
      exact ⟨w', z.sameBut hs (cne y c e)⟩
    · obtain ⟨e, n, ne, nf, d⟩ := I.pin p hp
      exact ⟨(hs.2 p.1 ne).trans e, n, ne, nf, d⟩
  · have hfn : X.fn x = true := by
      rcases hf with z | z
      · exact z
      · rw [z] at hk; cases hk
    obtain ⟨c, hc⟩ := I.ok.has x (.inl hk)
    obtain ⟨w', z⟩ := I.cell x c hc
    refine wpAny_storeName_cell I.ok.kind hk hc z (fun h' hc' hs => ?_)
    obtain ⟨oc, hoc, hocd⟩ := id z
    refine h { s with heap := h' } ⟨I.ok, I.os, I.bare, ⟨fun b o e n hb hx => ?_, fun b o e n hb hx => ?_, I.base.free, fun b o e hx => ?_, I.base.tups, I.base.frzs, I.base.tbls⟩, ⟨m, hn.sameBut hs (Ne.symm (cne x c hc)), fun j y v' e1 e2 e3 => ?_⟩, fun y c' e => ?_, I.free, I.freeC, fun p hp => ?_, tracked ⟨oc, hoc, I.freeC x c hc⟩ hs, by simpa using I.len⟩ ⟨c, hs, .inr hc⟩
    · exact (hs.2 b (Nat.ne_of_lt (Nat.lt_of_lt_of_le (Heap.lt_size e) (I.ok.cab x c hfn hc)))).trans (I.base.keep b o e n hb hx)
    · obtain ⟨sl, e1⟩ := I.base.slot b o e n hb hx
      exact ⟨sl, (hs.2 b (Nat.ne_of_lt (Nat.lt_of_lt_of_le (Heap.lt_size e) (I.ok.cab x c hfn hc)))).trans e1⟩
    · obtain ⟨o', e1⟩ := I.base.there b o e hx
      exact ⟨o', (hs.2 b (Nat.ne_of_lt (Nat.lt_of_lt_of_le (Heap.lt_size e) (I.ok.cab x c hfn hc)))).trans e1⟩
    · by_cases hj : j = i
      · subst hj
        rw [hi] at e1; cases e1
        rw [List.getElem?_set_self hiσ] at e2
        cases e2
        exact ⟨u, r, .inr ⟨.inl hk, c, hc, hc'⟩⟩
      · rw [List.getElem?_set_ne (Ne.symm hj)] at e2
        obtain ⟨u', r', q⟩ := hl j y v' e1 e2 e3
        refine ⟨u', r', ?_⟩
        rcases q with q | ⟨k, c', e, z'⟩
        · exact .inl q
        · refine .inr ⟨k, c', e, z'.sameBut hs ?_⟩
          rintro rfl
          exact hj (nodup_ix hN e1 (I.ok.inj _ _ _ e hc ▸ hi))
    · by_cases hcc : c' = c
      · subst hcc; exact ⟨_, hc'⟩
      · obtain ⟨w2, z2⟩ := I.cell y c' e
        exact ⟨w2, z2.sameBut hs hcc⟩
    · obtain ⟨e, n, ne, nf, d⟩ := I.pin p hp
      refine ⟨(hs.2 p.1 ?_).trans e, n, ne, nf, d⟩
      intro q
      rw [q, hoc] at e
      have q' : oc = p.2 := Option.some.inj e
      exact d w' (by rw [← q']; exact hocd)
theorem store_ok {M : Model} {A : Around} {E : Value → Shared → Prop} {i : Nat} {x : Str} {v : V} {u : Value} {Q : Unit → Shared → Prop} (I : Inv X pins σ H s) (hN : X.N.Nodup) (hi : X.N[i]? = some x) (hx : Loc X.env.scope x) (r : RelV v u)
    (h : ∀ s', Inv X pins (σ.set i (some v)) H s' → Q () s') (hf : X.fn x = true ∨ X.env.scope.names.lookup x = some .local := by first | exact .inl rfl | exact .inr rfl | assumption) : wpAny M A (storeName X.env x u) Q E s :=
  store_ok2 I hN hi hx r (fun s' I' _ => h s' I') hf
theorem Inv.call' {s' : Shared} {ch : List Addr} (I : Inv X pins σ H s) (ho : s'.os = s.os) (u : Un (frs X.stack) ch H H' s.heap s'.heap) (hok : HOk X.prog X.w H' s'.heap) (hg : AllBare s'.gens)
    (hch : ∀ b ∈ ch, (b ∈ X.ex ∨ X.s₀.heap.objs.size ≤ b) ∧ b ≠ X.env.locals ∧ (∀ x c, X.env.cells.lookup x = some c → c ≠ b) ∧ ∀ p ∈ X.pn ++ pins, p.1 ≠ b) : Inv X pins σ H' s' := by
  obtain ⟨h', g', d', t', o'⟩ := s'
  have e : o' = s.os := ho
  subst e
  exact I.call (g' := g') (t' := t') (d' := d') u hok hg hch
end
abbrev XK := Value → Option Addr → Hp → Prop
abbrev St := List (Option V)
abbrev VK := V → Hp → Prop
abbrev TE := St → Hp → VK → Prop
abbrev TT := St → Hp → (Bool → Hp → Prop) → Prop
abbrev TA := St → Hp → (List V → Hp → Prop) → Prop
structure Ends where
  nx : St → Hp → Prop
  rt : VK
  bk : St → Hp → Prop := fun _ _ => False
  ct : St → Hp → Prop := fun _ _ => False
abbrev TS := Ends → St → Hp → Prop
def EP (X : Cx) (pins : List (Addr × Obj)) (σ : St) (Q : VK) (u : Value) (s' : Shared) : Prop := ∃ v H', Inv X pins σ H' s' ∧ RelV v u ∧ Q v H'
def TP (X : Cx) (pins : List (Addr × Obj)) (σ : St) (Q : Bool → Hp → Prop) (b : Bool) (s' : Shared) : Prop := ∃ H', Inv X pins σ H' s' ∧ Q b H'
def AP (X : Cx) (pins : List (Addr × Obj)) (σ : St) (Q : List V → Hp → Prop) (us : List Value) (s' : Shared) : Prop := ∃ vs H', Inv X pins σ H' s' ∧ Vals vs us ∧ Q vs H'
def SP (X : Cx) (pins : List (Addr × Obj)) (D : Ends) (f : Flow) (s' : Shared) : Prop :=
  match f with
  | .next => ∃ σ' H', Inv X pins σ' H' s' ∧ D.nx σ' H'
  | .brk => ∃ σ' H', Inv X pins σ' H' s' ∧ D.bk σ' H'
  | .cont => ∃ σ' H', Inv X pins σ' H' s' ∧ D.ct σ' H'
  | .ret u => ∃ v σ' H', Inv X pins σ' H' s' ∧ RelV v u ∧ D.rt v H'
def PE (X : Cx) (e : Expr) (t : TE) : Prop :=
  ∀ (pins : List (Addr × Obj)) (s : Shared) (σ : St) (H : Hp) (Q : VK), Inv X pins σ H s → t σ H Q → wpAny (model X.prog X.w) X.A (eval e X.env) (EP X pins σ Q) X.xe s
def PT (X : Cx) (e : Expr) (t : TT) : Prop :=
  ∀ (pins : List (Addr × Obj)) (s : Shared) (σ : St) (H : Hp) (Q : Bool → Hp → Prop), Inv X pins σ H s → t σ H Q → wpAny (model X.prog X.w) X.A (isTrue e X.env (eval e X.env)) (TP X pins σ Q) X.xe s
def PW (X : Cx) (e : Expr) (t : TT) : Prop :=
  ∀ (whole : Sem Value) (pins : List (Addr × Obj)) (s : Shared) (σ : St) (H : Hp) (Q : Bool → Hp → Prop), Inv X pins σ H s → t σ H Q → wpAny (model X.prog X.w) X.A (isTrue e X.env whole) (TP X pins σ Q) X.xe s
theorem PW.pt {X : Cx} {e : Expr} {t : TT} (h : PW X e t) : PT X e t := h _
def PA (X : Cx) (es : List Expr) (t : TA) : Prop :=
  ∀ (pos : Pos) (pins : List (Addr × Obj)) (s : Shared) (σ : St) (H : Hp) (Q : List V → Hp → Prop), Inv X pins σ H s → t σ H Q → wpAny (model X.prog X.w) X.A (spliced (backTo pos (starEach es X.env))) (AP X pins σ Q) X.xe s
def PS (X : Cx) (st : Stmt) (t : TS) : Prop :=
  ∀ (pins : List (Addr × Obj)) (s : Shared) (σ : St) (H : Hp) (D : Ends), Inv X pins σ H s → t D σ H → wpAny (model X.prog X.w) X.A (exec st X.env) (SP X pins D) X.xe s
def PSs (X : Cx) (st : List Stmt) (t : TS) : Prop :=
  ∀ (pins : List (Addr × Obj)) (s : Shared) (σ : St) (H : Hp) (D : Ends), Inv X pins σ H s → t D σ H → wpAny (model X.prog X.w) X.A (execs st X.env) (SP X pins D) X.xe s
theorem thn {α : Type} {t : Sem α} {Q Q' : α → Shared → Prop} {M : Model} {A : Around} {E : Value → Shared → Prop} {s : Shared} (h : wpAny M A t Q E s) (hQ : ∀ a s, Q a s → Q' a s) : wpAny M A t Q' E s := wpAny_mono h hQ fun _ _ x => x
end L2
namespace L2
open PySem PySem.Spec PyProof.Rows
section
variable {X : Cx}
def tVar (i : Nat) : TE := fun σ H Q => ∃ v, σ[i]? = some (some v) ∧ Q v H
def tC (v : V) : TE := fun _ H Q => Q v H
theorem pe_var {i : Nat} {x : Str} {pos : Pos} (hN : X.N[i]? = some x) (hv : Vis X.env.scope x) (hd : (x == ("__debug__" : Str)) = false := by decide) (hcd : (x == ("__classdict__" : Str)) = false := by decide) : PE X (.Name x pos) (tVar i) := by
  intro pins s σ H Q I h
  obtain ⟨v, e, h⟩ := h
  obtain ⟨m, hn, hl⟩ := I.loc
  obtain ⟨u, r, l⟩ := hl i x v hN e hv
  have fin : EP X pins σ Q u s := ⟨v, H, I, r, h⟩
  rcases l with ⟨hk, hm⟩ | ⟨hk, c, hc, hcell⟩
  · exact wpAny_Name (wpAny_loadName_local I.ok.kind hk hn hm fin) hd
  · rcases hk with hk | hk
    · exact wpAny_Name (wpAny_loadName_cell I.ok.kind hk hc hcell fin) hd
    · exact wpAny_Name (wpAny_loadName_free I.ok.kind hk hc hcell fin hcd) hd
theorem pe_int {i j pos} : PE X (.Constant (.int i) j pos) (tC (.int i)) := fun _ _ _ H _ I h => wpAny_Constant_int ⟨.int i, H, I.tok _, ⟨_, rfl⟩, h⟩
theorem pe_bl {b j pos} : PE X (.Constant (.bool b) j pos) (tC (.bl b)) := fun _ _ _ H _ I h => Constant_bool ⟨.bl b, H, I, rfl, h⟩
theorem pe_non {j pos} : PE X (.Constant .none j pos) (tC .non) := fun _ _ _ H _ I h => Constant_none ⟨.non, H, I, rfl, h⟩
theorem pe_str {x j pos} : PE X (.Constant (.str x) j pos) (tC (.str x)) := fun _ _ _ H _ I h => Calls.Constant_str ⟨.str x, H, I.tok _, ⟨_, rfl⟩, h⟩
def Gl (X : Cx) (x : Str) : Prop := X.env.kindOf x = some .globalImplicit
theorem ld_glob {E : Value → Shared → Prop} {pins : List (Addr × Obj)} {s : Shared} {σ : St} {H : Hp} {x : Str} {u : Value} {pos : Pos} {Q : Value → Shared → Prop} (I : Inv X pins σ H s) (hg : Gl X x) (hm : X.mg x = some u) (h : Q u s)
    (hd : (x == ("__debug__" : Str)) = false := by decide) : wpAny (model X.prog X.w) X.A (eval (.Name x pos) X.env) Q E s :=
  Calls.Name_function_global I.ok.kind hg (Calls.loadGlobal_global (by rw [I.ok.glob]; exact I.mod.glob.keeps I.bk) hm h) hd
theorem ld_blt {E : Value → Shared → Prop} {pins : List (Addr × Obj)} {s : Shared} {σ : St} {H : Hp} {x : Str} {u : Value} {pos : Pos} {Q : Value → Shared → Prop} (I : Inv X pins σ H s) (hg : Gl X x) (hm : X.mg x = none) (hv : bootBuiltins x = some u) (h : Q u s)
    (hn : x ≠ "__name__" := by decide) (hd : (x == ("__debug__" : Str)) = false := by decide) : wpAny (model X.prog X.w) X.A (eval (.Name x pos) X.env) Q E s := by
  obtain ⟨mb, h1, h2⟩ := I.mod.blt
  exact Calls.Name_function_global I.ok.kind hg (Calls.loadGlobal_builtin (by rw [I.ok.glob]; exact I.mod.glob.keeps I.bk) hm (by rw [I.ok.blt]; exact h1.keeps I.bk) ((h2 x hn).trans hv) h) hd
theorem pe_glob {x : Str} {v : V} {u : Value} {pos : Pos} (hg : Gl X x) (hm : X.mg x = some u) (r : RelV v u) (hd : (x == ("__debug__" : Str)) = false := by decide) : PE X (.Name x pos) (tC v) :=
  fun _ _ _ H _ I h => ld_glob I hg hm ⟨v, H, I, r, h⟩ hd
theorem pe_bltn {x : Str} {v : V} {u : Value} {pos : Pos} (hg : Gl X x) (hm : X.mg x = none) (hv : bootBuiltins x = some u) (r : RelV v u) (hn : x ≠ "__name__" := by decide) (hd : (x == ("__debug__" : Str)) = false := by decide) : PE X (.Name x pos) (tC v) :=
  fun _ _ _ H _ I h => ld_blt I hg hm hv ⟨v, H, I, r, h⟩ hn hd
variable {a b : Expr} {ta tb : TE} {pos : Pos}
def PC (X : Cx) (op : CmpOp) (a b : Expr) (t : TE) : Prop :=
  ∀ (pins : List (Addr × Obj)) (s : Shared) (σ : St) (H : Hp) (Q : VK), Inv X pins σ H s → t σ H Q →
    wpAny (model X.prog X.w) X.A (eval a X.env) (fun v s₁ => wpAny (model X.prog X.w) X.A (eval b X.env) (fun u s₂ => wpAny (model X.prog X.w) X.A (compareOp op v u) (EP X pins σ Q) X.xe s₂) X.xe s₁) X.xe s
def tB (t : TE) : TT := fun σ H Q => t σ H fun x H1 => ∃ c, x = .bl c ∧ Q c H1
theorem pt_cmp {op : CmpOp} {t : TE} (h : PC X op a b t) (h1 : behindInMarks op b = false := by first | exact nobehind _ (by decide) (by decide) | rfl) : PT X (.Compare a [op] [b] pos) (tB t) := by
  intro pins s σ H Q I hw
  refine wpAny_isTrue_Compare1 (thn (h pins s σ H _ I hw) fun v s1 h1 => thn h1 fun u s2 h2 => thn h2 fun c s3 ⟨x, H1, I1, r1, q1⟩ => ?_) h1
  obtain ⟨d, rfl, q⟩ := q1
  cases r1
  exact wpAny_truthy_bool ⟨H1, I1, q⟩
theorem pt_val {e : Expr} {t : TE} (h : PE X e t) (he : ∀ whole, isTrue e X.env whole = (do let v ← whole; standAt e.pos; holding [v] (truthy v)) := by intro _; rfl) : PT X e (tB t) := by
  intro pins s σ H Q I hw
  refine isTrue_plain (thn (h pins s σ H _ I hw) fun v s1 ⟨x, H1, I1, r1, q1⟩ => ?_) (he _)
  obtain ⟨d, rfl, q⟩ := q1
  cases r1
  exact wpAny_truthy_bool ⟨H1, I1, q⟩
variable {tA tB' : TT} {rest : List Expr}
def tAnd (t u : TT) : TT := fun σ H Q => t σ H fun c H1 => if c = true then u σ H1 Q else Q false H1
def tOr (t u : TT) : TT := fun σ H Q => t σ H fun c H1 => if c = true then Q true H1 else u σ H1 Q
def tNot (t : TT) : TT := fun σ H Q => t σ H fun c H1 => Q (!c) H1
theorem pw_and1 (ha : PT X a tA) : PW X (.BoolOp .And [a] pos) tA := by
  intro wh pins s σ H Q I h
  refine isTrue_and (thn (ha pins s σ H Q I h) fun c s1 e => ?_)
  cases c with
  | true => exact isTrue_and_nil e
  | false => exact e
theorem pw_or1 (ha : PT X a tA) : PW X (.BoolOp .Or [a] pos) tA := by
  intro wh pins s σ H Q I h
  refine isTrue_or (thn (ha pins s σ H Q I h) fun c s1 e => ?_)
  cases c with
  | false => exact isTrue_or_nil e
  | true => exact e
theorem pw_and (ha : PT X a tA) (hb : PW X (.BoolOp .And (b :: rest) pos) tB') : PW X (.BoolOp .And (a :: b :: rest) pos) (tAnd tA tB') := by
  intro wh pins s σ H Q I h
  refine isTrue_and (thn (ha pins s σ H _ I h) fun c s1 ⟨H1, I1, q1⟩ => ?_)
  cases c with
  | true => exact hb wh pins s1 σ H1 Q I1 q1
  | false => exact ⟨H1, I1, q1⟩
theorem pw_or (ha : PT X a tA) (hb : PW X (.BoolOp .Or (b :: rest) pos) tB') : PW X (.BoolOp .Or (a :: b :: rest) pos) (tOr tA tB') := by
  intro wh pins s σ H Q I h
  refine isTrue_or (thn (ha pins s σ H _ I h) fun c s1 ⟨H1, I1, q1⟩ => ?_)
  cases c with
  | true => exact ⟨H1, I1, q1⟩
  | false => exact hb wh pins s1 σ H1 Q I1 q1
theorem pt_not (ha : PT X a tA) : PT X (.UnaryOp .Not a pos) (tNot tA) := by
  intro pins s σ H Q I h
  exact isTrue_not (ha pins s σ H (fun c H1 => Q (!c) H1) I h)
def tAndV (ta tb : TE) : TE := fun σ H Q => ta σ H fun x H1 => ∃ c, x = .bl c ∧ if c = true then tb σ H1 Q else Q (.bl false) H1
def tNotV (ta : TE) : TE := fun σ H Q => ta σ H fun x H1 => ∃ c, x = .bl c ∧ Q (.bl (!c)) H1
theorem pe_one {op} {t : TE} (h : PE X a t) : PE X (.BoolOp op [a] pos) t := fun pins s σ H Q I hw => BoolOp_one (h pins s σ H Q I hw)
theorem pe_and (ha : PE X a ta) (hb : PE X (.BoolOp .And (b :: rest) pos) tb) : PE X (.BoolOp .And (a :: b :: rest) pos) (tAndV ta tb) := by
  intro pins s σ H Q I h
  refine BoolOp_and (thn (ha pins s σ H _ I h) fun v s1 ⟨x, H1, I1, r1, q1⟩ => ?_)
  obtain ⟨c, rfl, q1⟩ := q1
  cases r1
  refine wpAny_truthy_bool ?_
  cases c with
  | true => exact hb pins s1 σ H1 Q I1 q1
  | false => exact ⟨.bl false, H1, I1, rfl, q1⟩
theorem pe_not (ha : PE X a ta) : PE X (.UnaryOp .Not a pos) (tNotV ta) := by
  intro pins s σ H Q I h
  refine UnaryOp_ (thn (ha pins s σ H _ I h) fun v s1 ⟨x, H1, I1, r1, q1⟩ => ?_)
  obtain ⟨c, rfl, q1⟩ := q1
  cases r1
  exact not_of (wpAny_truthy_bool ⟨.bl (!c), H1, I1, rfl, q1⟩)
def tIf (t : TT) (ta tb : TE) : TE := fun σ H Q => t σ H fun c H1 => if c = true then ta σ H1 Q else tb σ H1 Q
theorem pe_ifExp {c : Expr} (hc : PT X c tA) (ha : PE X a ta) (hb : PE X b tb) : PE X (.IfExp c a b pos) (tIf tA ta tb) := by
  intro pins s σ H Q I h
  refine wpAny_IfExp (thn (hc pins s σ H _ I h) fun d s1 ⟨H1, I1, q1⟩ => ?_)
  cases d with
  | true => exact ha pins s1 σ H1 Q I1 q1
  | false => exact hb pins s1 σ H1 Q I1 q1
end
end L2
namespace L2
open PySem PySem.Spec PyProof.Rows
def SqL (K : PySem.W.Frag) (H : Hp) (a : Addr) (xs : List V) : Prop :=
  Rd H a (.lst xs) ∨
    ∃ (o : Obj) (its : Array Value) (n : Nat), K.lookup a = some o ∧ o.cls = .type "list" ∧ o.dict = none ∧ o.data = .seq its n ∧ its.size ≤ sizeLine ∧ Vals xs its.toList
def SqT (K : PySem.W.Frag) (H : Hp) (a : Addr) (xs : List V) : Prop :=
  Rd H a (.tup xs) ∨
    ∃ (o : Obj) (its : Array Value) (n : Nat), K.lookup a = some o ∧ o.cls = .type "tuple" ∧ o.data = .seq its n ∧ its.size ≤ sizeLine ∧ Vals xs its.toList
def absV : Value → Option V
  | .none => some .non
  | .bool b => some (.bl b)
  | .int i _ => some (.int i)
  | .str x _ => some (.str x)
  | .bytes b _ => some (.byt b)
  | .float b _ => some (.flt b)
  | .ref a => some (.ref a)
  | .type n => some (.ty n)
  | _ => none
theorem RelV.abs {x : V} {u : Value} (r : RelV x u) : absV u = some x := by
  cases x with
  | non => cases r; rfl
  | bl _ => cases r; rfl
  | int _ => obtain ⟨t, rfl⟩ := r; rfl
  | str _ => obtain ⟨t, rfl⟩ := r; rfl
  | byt _ => obtain ⟨t, rfl⟩ := r; rfl
  | flt _ => obtain ⟨t, rfl⟩ := r; rfl
  | ref _ => cases r; rfl
  | ty _ => cases r; rfl
theorem RelV.inj {x y : V} {u : Value} (r : RelV x u) (q : RelV y u) : x = y := Option.some.inj (r.abs.symm.trans q.abs)
theorem Vals.inj : ∀ {xs ys : List V} {us : List Value}, Vals xs us → Vals ys us → xs = ys
  | _, _, _, .nil, .nil => rfl
  | _, _, _, .cons r t, .cons r' t' => by rw [r.inj r', Vals.inj t t']
section
variable {X : Cx} {pins : List (Addr × Obj)} {σ : St} {H : Hp} {s : Shared} {a : Addr} {xs ys : List V}
theorem SqL.of {K : PySem.W.Frag} (h : H a = some (.lst xs)) : SqL K H a xs := .inl (.inl h)
theorem SqT.of {K : PySem.W.Frag} (h : H a = some (.tup xs)) : SqT K H a xs := .inl (.inl h)
theorem Inv.list (I : Inv X pins σ H s) (h : SqL X.K H a xs) : ∃ its : List Value, Vals xs its ∧ PlainL s.heap a its.toArray ∧ xs.length ≤ sizeLine := by
  rcases h with h | ⟨o, its, n, hk, hc, hd, hs, hz, r⟩
  · obtain ⟨z, its, n, r, e⟩ := h.ok I.hok
    exact ⟨its, r, ⟨_, n, e, rfl, rfl, rfl⟩, z⟩
  · refine ⟨its.toList, r, ⟨o, n, I.kIn a o hk, hc, hd, by simpa using hs⟩, ?_⟩
    have e := r.length
    simp only [Array.length_toList] at e
    omega
theorem Inv.tuple (I : Inv X pins σ H s) (h : SqT X.K H a xs) : ∃ its : List Value, Vals xs its ∧ IsTup s.heap a its.toArray ∧ xs.length ≤ sizeLine := by
  rcases h with h | ⟨o, its, n, hk, hc, hs, hz, r⟩
  · obtain ⟨z, its, r, p⟩ := h.ok I.hok
    exact ⟨its, r, p, z⟩
  · refine ⟨its.toList, r, ⟨o, I.kIn a o hk, hc, n, by simpa using hs⟩, ?_⟩
    have e := r.length
    simp only [Array.length_toList] at e
    omega
theorem Inv.list_inj (I : Inv X pins σ H s) (h : SqL X.K H a xs) (h' : SqL X.K H a ys) : xs = ys := by
  obtain ⟨its, r, ⟨o, n, e, _, _, d⟩, _⟩ := I.list h
  obtain ⟨its', r', ⟨o', n', e', _, _, d'⟩, _⟩ := I.list h'
  rw [e] at e'; cases e'
  rw [d] at d'
  injection d' with d1 _
  have : its = its' := by simpa using congrArg Array.toList d1
  subst this
  exact r.inj r'
theorem Inv.tuple_inj (I : Inv X pins σ H s) (h : SqT X.K H a xs) (h' : SqT X.K H a ys) : xs = ys := by
  obtain ⟨its, r, ⟨o, e, _, n, d⟩, _⟩ := I.tuple h
  obtain ⟨its', r', ⟨o', e', _, n', d'⟩, _⟩ := I.tuple h'
  rw [e] at e'; cases e'
  rw [d] at d'
  injection d' with d1 _
  have : its = its' := by simpa using congrArg Array.toList d1
  subst this
  exact r.inj r'
end
abbrev Cx.wish (X : Cx) (E : Value → Shared → Prop) : Cx := { X with xe := E }
abbrev Cx.nox (X : Cx) : Cx := X.wish fun _ _ => False
theorem Cx.Ok.wish {X : Cx} (ok : X.Ok) (E : Value → Shared → Prop) : (X.wish E).Ok :=
  ⟨ok.mod, ok.kind, ok.glob, ok.blt, ok.above, ok.inj, ok.has, ok.cab, ok.hd, ok.frames, ok.stk, ok.exf, ok.bs, ok.bsz, ok.noex, ok.exfs, ok.funs, ok.frf⟩
theorem Cx.Ok.unwish {X : Cx} {E : Value → Shared → Prop} (ok : (X.wish E).Ok) : X.Ok :=
  ⟨ok.mod, ok.kind, ok.glob, ok.blt, ok.above, ok.inj, ok.has, ok.cab, ok.hd, ok.frames, ok.stk, ok.exf, ok.bs, ok.bsz, ok.noex, ok.exfs, ok.funs, ok.frf⟩
section
variable {X : Cx} {pins : List (Addr × Obj)} {σ : St} {H : Hp} {s : Shared} {E : Value → Shared → Prop}
theorem Inv.wish (I : Inv X pins σ H s) (E : Value → Shared → Prop) : Inv (X.wish E) pins σ H s := ⟨I.ok.wish E, I.os, I.bare, I.base, I.loc, I.cell, I.free, I.freeC, I.pin, I.hok, I.len⟩
theorem Inv.unwish (I : Inv (X.wish E) pins σ H s) : Inv X pins σ H s := ⟨I.ok.unwish, I.os, I.bare, I.base, I.loc, I.cell, I.free, I.freeC, I.pin, I.hok, I.len⟩
theorem SP.unwish {D : Ends} {f : Flow} {s' : Shared} (h : SP (X.wish E) pins D f s') : SP X pins D f s' := by
  cases f with
  | next => obtain ⟨σ', H', I, q⟩ := h; exact ⟨σ', H', I.unwish, q⟩
  | brk => obtain ⟨σ', H', I, q⟩ := h; exact ⟨σ', H', I.unwish, q⟩
  | cont => obtain ⟨σ', H', I, q⟩ := h; exact ⟨σ', H', I.unwish, q⟩
  | ret u => obtain ⟨v, σ', H', I, r, q⟩ := h; exact ⟨v, σ', H', I.unwish, r, q⟩
theorem PSs.nox {st : List Stmt} {t : TS} (h : PSs X.nox st t) : PSs X st t := fun pins s σ H D I hw =>
  wpAny_mono (h pins s σ H D (I.wish _) hw) (fun _ _ q => q.unwish) fun _ _ z => False.elim z
end
section
variable {X : Cx} {st : Stmt} {rest : List Stmt} {t u : TS} {e : Expr} {te : TE} {pos : Pos}
def tNext : TS := fun D σ H => D.nx σ H
def tSeq (t u : TS) : TS := fun D σ H => t { D with nx := u D } σ H
theorem pss_nil : PSs X [] tNext := fun _ _ σ H _ I h => wpAny_execs_nil ⟨σ, H, I, h⟩
theorem pss_cons (h1 : PS X st t) (h2 : PSs X rest u) : PSs X (st :: rest) (tSeq t u) := by
  intro pins s σ H D I h
  refine wpAny_execs_cons (thn (h1 pins s σ H { D with nx := u D } I h) fun f s1 q => ?_)
  cases f with
  | next =>
    obtain ⟨σ', H', I', q⟩ := q
    exact h2 pins s1 σ' H' D I' q
  | ret v => exact q
  | brk => exact q
  | cont => exact q
theorem pss_one (h1 : PS X st t) : PSs X [st] t := by
  intro pins s σ H D I h
  refine wpAny_execs_cons (thn (h1 pins s σ H D I h) fun f s1 q => ?_)
  cases f with
  | next => exact wpAny_execs_nil q
  | ret v => exact q
  | brk => exact q
  | cont => exact q
theorem Inv.quiet {pins : List (Addr × Obj)} {σ : St} {H : Hp} {s : Shared} (I : Inv X pins σ H s) : interactive X.env = false := by simp [interactive, I.ok.kind]
def tDrop (te : TE) : TS := fun D σ H => te σ H fun _ H1 => D.nx σ H1
theorem ps_expr (he : PE X e te) (hs : swapsWith e none pos.line X.env = pure false := by rfl) : PS X (.Expr e pos) (tDrop te) := by
  intro pins s σ H D I h
  exact wpAny_Expr_any (thn (he pins s σ H _ I h) fun v s1 ⟨x, H1, I1, r1, q1⟩ => ⟨σ, H1, I1, q1⟩) I.quiet hs
def tRet (te : TE) : TS := fun D σ H => te σ H D.rt
theorem ps_ret (he : PE X e te) : PS X (.Return (some e) pos) (tRet te) := by
  intro pins s σ H D I h
  exact wpAny_Return_some (thn (he pins s σ H _ I h) fun v s1 ⟨x, H1, I1, r1, q1⟩ => ⟨x, σ, H1, I1, r1, q1⟩)
def tIfS (c : TT) (t u : TS) : TS := fun D σ H => c σ H fun b H1 => if b = true then t D σ H1 else u D σ H1
theorem ps_if {c : Expr} {a b : List Stmt} {tc : TT} (hc : PT X c tc) (ha : PSs X a t) (hb : PSs X b u) : PS X (.If c a b pos) (tIfS tc t u) := by
  intro pins s σ H D I h
  refine wpAny_If (thn (hc pins s σ H _ I h) fun d s1 ⟨H1, I1, q1⟩ => ?_)
  cases d with
  | true => exact ha pins s1 σ H1 D I1 q1
  | false => exact hb pins s1 σ H1 D I1 q1
def tNever : TS := fun _ _ _ => False
theorem ps_never : PS X st tNever := fun _ _ _ _ _ _ h => h.elim
end
abbrev TG := V → St → Hp → (St → Hp → Prop) → Prop
abbrev TGs := List V → St → Hp → (St → Hp → Prop) → Prop
def PG (X : Cx) (target : Expr) (t : TG) : Prop :=
  ∀ (pins : List (Addr × Obj)) (s : Shared) (σ : St) (H : Hp) (v : V) (u : Value) (Q : St → Hp → Prop), Inv X pins σ H s → RelV v u → t v σ H Q →
    wpAny (model X.prog X.w) X.A (assign target X.env u) (fun _ s' => ∃ σ' H', Inv X pins σ' H' s' ∧ Q σ' H') X.xe s
def PGs (X : Cx) (ts : List Expr) (t : TGs) : Prop :=
  ∀ (pins : List (Addr × Obj)) (s : Shared) (σ : St) (H : Hp) (vs : List V) (us : List Value) (Q : St → Hp → Prop), Inv X pins σ H s → Vals vs us → t vs σ H Q →
    wpAny (model X.prog X.w) X.A (assignInOrder ((assignEach ts X.env).map (·.2)) us) (fun _ s' => ∃ σ' H', Inv X pins σ' H' s' ∧ Q σ' H') X.xe s
abbrev TSet := V → V → V → Hp → (Hp → Prop) → Prop
def PSet (X : Cx) (t : TSet) : Prop :=
  ∀ (pins : List (Addr × Obj)) (s : Shared) (σ : St) (H : Hp) (o i v : V) (ov iv u : Value) (Q : Hp → Prop), Inv X pins σ H s → RelV o ov → RelV i iv → RelV v u → t o i v H Q →
    wpAny (model X.prog X.w) X.A (setItem ov iv u) (fun _ s' => ∃ H', Inv X pins σ H' s' ∧ Q H') X.xe s
section
variable {X : Cx} {pos : Pos}
def gName (i : Nat) : TG := fun v σ H Q => Q (σ.set i (some v)) H
theorem pg_name {i : Nat} {x : Str} (hN : X.N.Nodup) (hi : X.N[i]? = some x) (hx : Loc X.env.scope x) (hf : X.fn x = true ∨ X.env.scope.names.lookup x = some .local := by first | exact .inl rfl | exact .inr rfl | assumption) : PG X (.Name x pos) (gName i) := by
  intro pins s σ H v u Q I r h
  exact wpAny_assign_Name (store_ok I hN hi hx r (fun s' I' => ⟨_, H, I', h⟩) hf)
def gNil : TGs := fun vs σ H Q => vs = [] ∧ Q σ H
def gCons (t : TG) (u : TGs) : TGs := fun vs σ H Q => ∃ v r, vs = v :: r ∧ t v σ H fun σ' H' => u r σ' H' Q
theorem pgs_nil : PGs X [] gNil := by
  intro pins s σ H vs us Q I r h
  obtain ⟨e, h⟩ := h
  subst e
  cases r
  exact assignInOrder_nil ⟨σ, H, I, h⟩
theorem pgs_cons {e : Expr} {es : List Expr} {t : TG} {u : TGs} (h1 : PG X e t) (h2 : PGs X es u)
    (hs : (assignEach (e :: es) X.env).map (·.2) = assign e X.env :: (assignEach es X.env).map (·.2) := by rfl) : PGs X (e :: es) (gCons t u) := by
  intro pins s σ H vs us Q I r h
  obtain ⟨v, vr, e1, h⟩ := h
  subst e1
  cases r with
  | cons r rr =>
    rw [hs]
    refine assignInOrder_cons (thn (h1 pins s σ H _ _ _ I r h) fun _ s1 ⟨σ1, H1, I1, q1⟩ => ?_)
    exact h2 pins s1 σ1 H1 _ _ Q I1 rr q1
def gTup (K : PySem.W.Frag) (n : Nat) (t : TGs) : TG := fun v σ H Q => ∃ a xs, v = .ref a ∧ SqT K H a xs ∧ xs.length = n ∧ t xs σ H Q
theorem pg_tup {es : List Expr} {k : Nat} {t : TGs} {n : Nat} (hc : X.calm = true) (h : PGs X es t)
    (hn : (assignEach es X.env).length = n := by rfl) (hst : (assignEach es X.env).findIdx? (·.1) = none := by rfl) : PG X (.Tuple es k pos) (gTup X.K n t) := by
  intro pins s σ H v u Q I r hw
  obtain ⟨a, xs, e1, hq, hl, hw⟩ := hw
  subst e1
  cases r
  obtain ⟨its, rv, ht, hz⟩ := I.tuple hq
  refine assign_Tuple_tuple (I.ok.hd hc) ht (by simp [hn, ← hl, rv.length]) hst fun h' hx => ?_
  have I1 : Inv X pins σ H { s with heap := h' } := I.kept (t' := s.toks) fun b o e => hx b o (Nat.ne_of_lt (Heap.lt_size e)) e
  exact h pins _ σ H xs _ Q I1 (by simpa using rv) hw
def gSub (to ti : TE) (t : TSet) : TG := fun v σ H Q => to σ H fun o H1 => ti σ H1 fun i H2 => t o i v H2 fun H3 => Q σ H3
theorem pg_sub {o i : Expr} {to ti : TE} {t : TSet} (ho : PE X o to) (hi : PE X i ti) (hs : PSet X t)
    (ha : ∀ v, assign (.Subscript o i pos) X.env v = (do
      let ov ← holding [v] (eval o X.env)
      let iv ← holding [v, ov] (eval i X.env)
      standAt pos
      holding [v, ov, iv] (setItem ov iv v)
      release [v, ov, iv] []) := by intro _; rfl) : PG X (.Subscript o i pos) (gSub to ti t) := by
  intro pins s σ H v u Q I r h
  rw [ha]
  refine wpAny_bind (wpAny_holding (thn (ho pins s σ H _ I h) fun ov s1 ⟨x, H1, I1, r1, q1⟩ => ?_))
  refine wpAny_bind (wpAny_holding (thn (hi pins s1 σ H1 _ I1 q1) fun iv s2 ⟨y, H2, I2, r2, q2⟩ => ?_))
  refine wpAny_bind (wpAny_standAt (wpAny_bind (wpAny_holding (thn (hs pins s2 σ H2 x y v ov iv u _ I2 r1 r2 r q2) fun _ s3 ⟨H3, I3, q3⟩ => ?_))))
  exact wpAny_release ⟨σ, H3, I3, q3⟩
def tAsg (te : TE) (g : TG) : TS := fun D σ H => te σ H fun x H1 => g x σ H1 D.nx
theorem ps_asg {tg e : Expr} {te : TE} {g : TG} (he : PE X e te) (hg : PG X tg g) (hs : swapsWithSole [tg] e pos.line X.env = pure false := by rfl) (hw : swappedStores [tg] e X.env = pure none := by rfl)
    (h1 : (assignEach [tg] X.env).map (·.2) = [assign tg X.env] := by rfl) : PS X (.Assign [tg] e pos) (tAsg te g) := by
  intro pins s σ H D I h
  refine wpAny_Assign_stores (thn (he pins s σ H _ I h) fun v s1 ⟨x, H1, I1, r1, q1⟩ => ?_) hs hw
  rw [h1]
  exact thn (hg pins s1 σ H1 x v _ I1 r1 q1) fun _ s2 q => q
theorem ps_set {i : Nat} {x : Str} {e : Expr} {te : TE} {pos' : Pos} (hN : X.N.Nodup) (hi : X.N[i]? = some x) (hx : Loc X.env.scope x) (he : PE X e te) (hs : swapsWith e (some (.Name x pos')) pos.line X.env = pure false := by rfl) (hf : X.fn x = true ∨ X.env.scope.names.lookup x = some .local := by first | exact .inl rfl | exact .inr rfl | assumption) :
    PS X (.Assign [.Name x pos'] e pos) (tAsg te (gName i)) := by
  intro pins s σ H D I h
  refine wpAny_Assign_Name (thn (he pins s σ H _ I h) fun v s1 ⟨y, H1, I1, r1, q1⟩ => ?_) hs
  exact store_ok I1 hN hi hx r1 (fun s2 I2 => ⟨_, H1, I2, q1⟩) hf
end
section
variable {X : Cx} {pos : Pos}
def tWhile (c : TT) (tb : TS) : TS := fun D σ H => ∃ W : Nat → St → Hp → Prop, (∃ m, W m σ H) ∧ ∀ m σ H, W m σ H →
  c σ H fun b H1 => if b = true then ∃ N : St → Hp → Prop, (∀ σ' H', N σ' H' → ∃ m', m' < m ∧ W m' σ' H') ∧ tb { D with nx := N, ct := N, bk := D.nx } σ H1 else D.nx σ H1
theorem ps_while {c : Expr} {body : List Stmt} {tc : TT} {tb : TS} (hp : PassesOwn (model X.prog X.w) X.A X.env X.xe) (hc : PT X c tc) (hb : PSs X body tb) : PS X (.While c body [] pos) (tWhile tc tb) := by
  intro pins s σ H D I h
  obtain ⟨W, ⟨m0, w0⟩, turn⟩ := h
  refine wpAny_While (codeAny_whileLoop (fun n s' => ∃ σ' H', Inv X pins σ' H' s' ∧ W n σ' H') ?_ m0 ⟨σ, H, I, w0⟩)
  rintro n s1 ⟨σ1, H1, I1, w1⟩
  refine wpAny_passesOwn hp (thn (hc pins s1 σ1 H1 _ I1 (turn n σ1 H1 w1)) fun b s2 ⟨H2, I2, q2⟩ => ?_)
  cases b with
  | true =>
    obtain ⟨N, hN, q2⟩ := q2
    rw [if_pos rfl]
    refine wpAny_passesOwn hp (thn (hb pins s2 σ1 H2 _ I2 q2) fun f s3 q3 => ?_)
    cases f with
    | next =>
      obtain ⟨σ3, H3, I3, n3⟩ := q3
      obtain ⟨m', hm, w3⟩ := hN σ3 H3 n3
      exact ⟨m', hm, σ3, H3, I3, w3⟩
    | cont =>
      obtain ⟨σ3, H3, I3, n3⟩ := q3
      obtain ⟨m', hm, w3⟩ := hN σ3 H3 n3
      exact ⟨m', hm, σ3, H3, I3, w3⟩
    | brk => exact q3
    | ret v => exact q3
  | false =>
    rw [if_neg Bool.false_ne_true]
    exact wpAny_execs_nil ⟨σ1, H2, I2, q2⟩
end
structure It where
  go : Nat → Hp → Prop
  yld : Nat → Hp → V → Hp → Prop
  stop : Nat → Hp → Prop
def FpOk (X : Cx) (pins : List (Addr × Obj)) (H : Hp) (b : Addr) : Prop :=
  H b = none ∧ b ≠ X.env.locals ∧ b ∉ X.fs ∧ (b ∈ X.ex ∨ X.s₀.heap.objs.size ≤ b) ∧ (∀ x c, X.env.cells.lookup x = some c → c ≠ b) ∧ ∀ p ∈ X.pn ++ pins, p.1 ≠ b
theorem Inv.fpOk {X : Cx} {pins : List (Addr × Obj)} {σ : St} {H H' : Hp} {s : Shared} {b : Addr} (I : Inv X pins σ H s) (hb : s.heap.objs.size ≤ b) (hn : H' b = none) : FpOk X pins H' b := by
  refine ⟨hn, Nat.ne_of_gt (Nat.lt_of_lt_of_le I.lt hb), I.nofs hb, .inr (Nat.le_trans I.sz hb), fun x c e z => ?_, fun p hp z => ?_⟩
  · obtain ⟨v, q⟩ := I.cell x c e
    exact absurd (Nat.lt_of_lt_of_le q.lt (by rw [z]; exact hb)) (Nat.lt_irrefl _)
  · exact absurd (Nat.lt_of_lt_of_le (Heap.lt_size (I.pin p hp).1) (by rw [z]; exact hb)) (Nat.lt_irrefl _)
structure Turn (P : Program) (w : World) (K : PySem.W.Frag) (tg : Expr) (J : It) (fp : List Addr) (it : Addr) (tn : Nat → Heap → Prop) : Prop where
  mem : it ∈ fp
  obj : ∀ i h, tn i h → ∀ b ∈ fp, ∃ o, h.get? b = some o ∧ ∀ v, o.data ≠ .cell v
  keep : ∀ i h h', tn i h → (∀ b ∈ fp, ∀ o, h.get? b = some o → h'.get? b = some o) → tn i h'
  item : ∀ (X : Cx), X.prog = P → X.w = w → X.K = K → X.calm = true → ∀ (i : Nat) (pins : List (Addr × Obj)) (s : Shared) (σ : St) (H : Hp) (E : Value → Shared → Prop), Inv X pins σ H s → (∀ b ∈ fp, FpOk X pins H b) → tn i s.heap → J.go i H →
    wpAny (model P w) X.A (pyNext (.ref it)) (fun r s1 => ∃ u, r = some u ∧
      wpAny (model P w) X.A (letOwnedTupleGo tg (.ref it) u) (fun _ s2 => ∃ x H', Inv X pins σ H' s2 ∧ RelV x u ∧ J.yld i H x H' ∧ tn (i + 1) s2.heap ∧ ∀ b ∈ fp, H' b = none) E s1) E s
  done : ∀ (X : Cx), X.prog = P → X.w = w → X.K = K → X.calm = true → ∀ (i : Nat) (pins : List (Addr × Obj)) (s : Shared) (σ : St) (H : Hp) (E : Value → Shared → Prop), Inv X pins σ H s → (∀ b ∈ fp, FpOk X pins H b) → tn i s.heap → J.stop i H →
    wpAny (model P w) X.A (pyNext (.ref it)) (fun r s1 => r = none ∧ Inv X pins σ H s1) E s
  self : ∀ (A : Around) (i : Nat) (s : Shared) (Q : Value → Shared → Prop) (E : Value → Shared → Prop), tn i s.heap → Q (.ref it) s → wpAny (model P w) A (pyIter (.ref it)) Q E s
abbrev TI := St → Hp → (It → Hp → Prop) → Prop
def PIE (X : Cx) (pins : List (Addr × Obj)) (σ : St) (tg : Expr) (R : It → Hp → Prop) (itv : Value) (s2 : Shared) : Prop :=
  ∃ (it : Addr) (fp : List Addr) (tn : Nat → Heap → Prop) (J : It) (H' : Hp), itv = .ref it ∧ Inv X pins σ H' s2 ∧ Turn X.prog X.w X.K tg J fp it tn ∧ tn 0 s2.heap ∧ (∀ b ∈ fp, FpOk X pins H' b) ∧ R J H'
def PI (X : Cx) (tg iter : Expr) (wi : TI) : Prop :=
  ∀ (pins : List (Addr × Obj)) (s : Shared) (σ : St) (H : Hp) (R : It → Hp → Prop), Inv X pins σ H s → wi σ H R →
    wpAny (model X.prog X.w) X.A (eval iter X.env) (fun v s1 => wpAny (model X.prog X.w) X.A (pyIter v) (PIE X pins σ tg R) X.xe s1) X.xe s
theorem go_of {M : Model} {A : Around} {E : Value → Shared → Prop} {s : Shared} {tg : Expr} {it : Addr} {u : Value} {o : Obj} {n : String} {vs : Array Value} {Q : Unit → Shared → Prop} (ho : s.heap.get? it = some o) (hc : o.cls = .type n) (hd : o.data = .fields vs)
    (hn : ["enumerate", "zip", "dict_itemiterator", "dict_reverseitemiterator", "odict_iterator", "itertools.zip_longest", "itertools.pairwise"].contains n = false) (hQ : Q () s) : wpAny M A (letOwnedTupleGo tg (.ref it) u) Q E s := by
  unfold letOwnedTupleGo
  cases tg <;> first
    | exact wpAny_pure hQ
    | (cases u <;> first
        | exact wpAny_pure hQ
        | (refine wpAny_bind (wpAny_load ho ?_)
           rw [hc, hd]
           show wpAny M A (if (["enumerate", "zip", "dict_itemiterator", "dict_reverseitemiterator", "odict_iterator", "itertools.zip_longest", "itertools.pairwise"].contains n && vs[0]? == some (rawInt _)) = true then _ else _) Q E s
           rw [if_neg (by intro h; rw [hn, Bool.false_and] at h; cases h)]
           exact wpAny_pure hQ))
def Itl (K : PySem.W.Frag) (a : Addr) : It :=
  ⟨fun i H => ∃ xs x, SqL K H a xs ∧ xs[i]? = some x, fun i H x H' => H' = H ∧ ∀ xs, SqL K H a xs → xs[i]? = some x, fun i H => ∃ xs, SqL K H a xs ∧ xs.length ≤ i⟩
def Itt (K : PySem.W.Frag) (a : Addr) : It :=
  ⟨fun i H => ∃ xs x, SqT K H a xs ∧ xs[i]? = some x, fun i H x H' => H' = H ∧ ∀ xs, SqT K H a xs → xs[i]? = some x, fun i H => ∃ xs, SqT K H a xs ∧ xs.length ≤ i⟩
def Itr (lo : Int) (n : Nat) : It := ⟨fun i _ => i < n, fun i H x H' => H' = H ∧ x = .int (lo + i), fun i _ => n ≤ i⟩
theorem turn_list {P : Program} {w : World} {K : PySem.W.Frag} {tg : Expr} (a it : Addr) : Turn P w K tg (Itl K a) [it] it (fun i h => h.IsListIter it a i) where
  mem := by simp
  obj := fun i h st b hb => by
    have e : b = it := by simpa using hb
    subst e
    obtain ⟨o, e, c, d⟩ := st
    exact ⟨o, e, fun v z => by rw [d] at z; cases z⟩
  keep := fun i h h' st k => st.at fun o e => k it (by simp) o e
  item := by
    intro X hP hw hK hc i pins s σ H E I hf st hg
    subst hP hw hK
    obtain ⟨xs, x, hq, hx⟩ := hg
    obtain ⟨its, rv, p, hz⟩ := I.list hq
    obtain ⟨u, hu, ru⟩ := rv.get hx
    obtain ⟨f0, f1, f2, f3, f4, f5⟩ := hf it (by simp)
    refine wpAny_pyNext_list_item st p.isList (x := u) (by simpa using hu) fun h' st' sb => ?_
    have I1 : Inv X pins σ H { s with heap := h' } := I.turned (t' := s.toks) (fun b o hb e => (sb.2 b hb).trans e) f0 f1 f3 f4 f5
    obtain ⟨o, e, c, d⟩ := id st'
    exact ⟨u, rfl, go_of (s := { s with heap := h' }) e c d (by decide) ⟨x, H, I1, ru, ⟨rfl, fun ys hy => by rw [I.list_inj hy hq]; exact hx⟩, st', fun b hb => (hf b hb).1⟩⟩
  done := by
    intro X hP hw hK hc i pins s σ H E I hf st hg
    subst hP hw hK
    obtain ⟨xs, hq, hx⟩ := hg
    obtain ⟨its, rv, p, hz⟩ := I.list hq
    obtain ⟨f0, f1, f2, f3, f4, f5⟩ := hf it (by simp)
    have hl := rv.length
    exact wpAny_pyNext_list_end (I.ok.hd hc) st p.isList (by simp; omega) fun h' eb => ⟨rfl, I.turned (t' := s.toks) (fun b o hb e => eb b o hb e) f0 f1 f3 f4 f5⟩
  self := fun _ _ _ _ _ st h => wpAny_pyIter_listiter st h
theorem turn_tuple {P : Program} {w : World} {K : PySem.W.Frag} {tg : Expr} (a it : Addr) : Turn P w K tg (Itt K a) [it] it (fun i h => h.IsTupleIter it a i) where
  mem := by simp
  obj := fun i h st b hb => by
    have e : b = it := by simpa using hb
    subst e
    obtain ⟨o, e, c, d⟩ := st
    exact ⟨o, e, fun v z => by rw [d] at z; cases z⟩
  keep := fun i h h' st k => st.at fun o e => k it (by simp) o e
  item := by
    intro X hP hw hK hc i pins s σ H E I hf st hg
    subst hP hw hK
    obtain ⟨xs, x, hq, hx⟩ := hg
    obtain ⟨its, rv, p, hz⟩ := I.tuple hq
    obtain ⟨u, hu, ru⟩ := rv.get hx
    obtain ⟨f0, f1, f2, f3, f4, f5⟩ := hf it (by simp)
    refine wpAny_pyNext_tuple_item st (show s.heap.IsTuple a its.toArray from p) (x := u) (by simpa using hu) fun h' st' sb => ?_
    have I1 : Inv X pins σ H { s with heap := h' } := I.turned (t' := s.toks) (fun b o hb e => (sb.2 b hb).trans e) f0 f1 f3 f4 f5
    obtain ⟨o, e, c, d⟩ := id st'
    exact ⟨u, rfl, go_of (s := { s with heap := h' }) e c d (by decide) ⟨x, H, I1, ru, ⟨rfl, fun ys hy => by rw [I.tuple_inj hy hq]; exact hx⟩, st', fun b hb => (hf b hb).1⟩⟩
  done := by
    intro X hP hw hK hc i pins s σ H E I hf st hg
    subst hP hw hK
    obtain ⟨xs, hq, hx⟩ := hg
    obtain ⟨its, rv, p, hz⟩ := I.tuple hq
    obtain ⟨f0, f1, f2, f3, f4, f5⟩ := hf it (by simp)
    have hl := rv.length
    exact wpAny_pyNext_tuple_end (I.ok.hd hc) st (show s.heap.IsTuple a its.toArray from p) (by simp; omega) fun h' eb => ⟨rfl, I.turned (t' := s.toks) (fun b o hb e => eb b o hb e) f0 f1 f3 f4 f5⟩
  self := fun _ _ _ _ _ st h => wpAny_pyIter_tupleiter st h
theorem turn_range {P : Program} {w : World} {K : PySem.W.Frag} {tg : Expr} (it : Addr) (lo : Int) (n : Nat) : Turn P w K tg (Itr lo n) [it] it (fun i h => IsRangeIter h it (lo + (i : Nat) * 1) ((n : Int) - (i : Nat)) 1) where
  mem := by simp
  obj := fun i h st b hb => by
    have e : b = it := by simpa using hb
    subst e
    exact ⟨_, st, fun v z => by
      have z' : Data.fields _ = Data.cell v := z
      cases z'⟩
  keep := fun i h h' st k => k it (by simp) _ st
  item := by
    intro X hP hw hK hc i pins s σ H E I hf st hg
    subst hP hw hK
    obtain ⟨f0, f1, f2, f3, f4, f5⟩ := hf it (by simp)
    have W := Walks.range (prog := X.prog) (w := X.w) (I.ok.hd hc) it lo 1 n
    refine W.item i s _ _ hg st fun v h' tk hv st' kk => ?_
    obtain ⟨t, rfl⟩ := hv
    have I1 : Inv X pins σ H { s with heap := h', toks := tk } := I.turned (fun b o hb e => kk b o (by simpa using hb) e) f0 f1 f3 f4 f5
    refine ⟨_, rfl, go_of (s := { s with heap := h', toks := tk }) (n := "range_iterator") st' rfl rfl (by decide) ⟨.int (lo + i), H, I1, ⟨t, ?_⟩, ⟨rfl, rfl⟩, st', fun b hb => (hf b hb).1⟩⟩
    rw [Int.mul_one]
  done := by
    intro X hP hw hK hc i pins s σ H E I hf st hg
    subst hP hw hK
    obtain ⟨f0, f1, f2, f3, f4, f5⟩ := hf it (by simp)
    exact wpAny_pyNext_range_end (I.ok.hd hc) st (by have : n ≤ i := hg; omega) fun h' eb => ⟨rfl, I.turned (t' := s.toks) (fun b o hb e => eb b o hb e) f0 f1 f3 f4 f5⟩
  self := fun _ _ _ _ _ st h => wpAny_pyIter_rangeiter st h
end L2
namespace L2
open PySem PySem.Spec PyProof.Rows
section
variable {X : Cx} {tg : Expr}
def iList (K : PySem.W.Frag) (tl : TE) : TI := fun σ H R => tl σ H fun x H1 => ∃ a, x = .ref a ∧ (∃ xs, SqL K H1 a xs) ∧ R (Itl K a) H1
def iTup (K : PySem.W.Frag) (tl : TE) : TI := fun σ H R => tl σ H fun x H1 => ∃ a, x = .ref a ∧ (∃ xs, SqT K H1 a xs) ∧ R (Itt K a) H1
theorem pi_list {l : Expr} {tl : TE} (hl : PE X l tl) : PI X tg l (iList X.K tl) := by
  intro pins s σ H R I h
  refine thn (hl pins s σ H _ I h) fun v s1 ⟨x, H1, I1, r1, q1⟩ => ?_
  obtain ⟨a, e, ⟨xs, hq⟩, q⟩ := q1
  subst e
  cases r1
  obtain ⟨its, rv, p, hz⟩ := I1.list hq
  refine wpAny_pyIter_list p.isList ?_
  refine ⟨s1.heap.objs.size, [s1.heap.objs.size], _, _, H1, rfl, I1.kept (t' := s1.toks) fun b o e => Heap.get?_push_of_some _ e, turn_list a _, ⟨_, Heap.get?_push_size _ rfl, rfl, rfl⟩, fun b hb => ?_, q⟩
  have e : b = s1.heap.objs.size := by simpa using hb
  subst e
  exact I1.fpOk (Nat.le_refl _) (I1.hok.fresh (Nat.le_refl _))
theorem pi_tup {l : Expr} {tl : TE} (hl : PE X l tl) : PI X tg l (iTup X.K tl) := by
  intro pins s σ H R I h
  refine thn (hl pins s σ H _ I h) fun v s1 ⟨x, H1, I1, r1, q1⟩ => ?_
  obtain ⟨a, e, ⟨xs, hq⟩, q⟩ := q1
  subst e
  cases r1
  obtain ⟨its, rv, p, hz⟩ := I1.tuple hq
  refine wpAny_pyIter_tuple (show s1.heap.IsTuple a its.toArray from p) ?_
  refine ⟨s1.heap.objs.size, [s1.heap.objs.size], _, _, H1, rfl, I1.kept (t' := s1.toks) fun b o e => Heap.get?_push_of_some _ e, turn_tuple a _, ⟨_, Heap.get?_push_size _ rfl, rfl, rfl⟩, fun b hb => ?_, q⟩
  have e : b = s1.heap.objs.size := by simpa using hb
  subst e
  exact I1.fpOk (Nat.le_refl _) (I1.hok.fresh (Nat.le_refl _))
theorem range_it {pins : List (Addr × Obj)} {σ : St} {H : Hp} {s : Shared} {R : It → Hp → Prop} {E : Value → Shared → Prop} {lo hi : Int} {t u v : Tok} {tk : Nat} (I : Inv X pins σ H s) (h1 : -(2 ^ 62) ≤ lo) (h2 : lo < 2 ^ 62) (h3 : -(2 ^ 62) ≤ hi) (h4 : hi < 2 ^ 62)
    (q : R (Itr lo (hi - lo).toNat) H) : wpAny (model X.prog X.w) X.A (pyIter (.ref s.heap.objs.size)) (PIE X pins σ tg R) E { s with heap := s.heap.push { cls := .type "range", data := .fields #[.int lo t, .int hi u, .int 1 v] }, toks := tk } := by
  refine wpAny_pyIter_range (IsRange.new ..) (small_one h1 h2 h3 h4) ?_
  have I1 : Inv X pins σ H { s with heap := s.heap.push { cls := .type "range", data := .fields #[.int lo t, .int hi u, .int 1 v] }, toks := tk } := I.kept fun b o e => Heap.get?_push_of_some _ e
  refine ⟨(s.heap.push { cls := .type "range", data := .fields #[.int lo t, .int hi u, .int 1 v] }).objs.size, [(s.heap.push { cls := .type "range", data := .fields #[.int lo t, .int hi u, .int 1 v] }).objs.size], _, _, H, rfl,
    I1.kept (t' := tk) fun b o e => Heap.get?_push_of_some _ e, turn_range _ lo (hi - lo).toNat, ?_, fun b hb => ?_, q⟩
  · have e1 : lo + ((0 : Nat) : Int) * 1 = lo := by simp
    have e2 : (((hi - lo).toNat : Nat) : Int) - ((0 : Nat) : Int) = Builtin.Range.rangeSize lo hi 1 := by rw [rangeSize_one]; split <;> omega
    show IsRangeIter _ _ (lo + ((0 : Nat) : Int) * 1) ((((hi - lo).toNat : Nat) : Int) - ((0 : Nat) : Int)) 1
    rw [e1, e2]
    exact Heap.get?_push_size _ rfl
  · have e : b = (s.heap.push { cls := .type "range", data := .fields #[.int lo t, .int hi u, .int 1 v] }).objs.size := by simpa using hb
    subst e
    exact I1.fpOk (Nat.le_refl _) (I1.hok.fresh (Nat.le_refl _))
def iRng1 (ta : TA) : TI := fun σ H R => ta σ H fun vs H1 => ∃ j : Int, vs = [.int j] ∧ -(2 ^ 62) ≤ j ∧ j < 2 ^ 62 ∧ R (Itr 0 j.toNat) H1
theorem pi_range1 {a : Expr} {ta : TA} {p pos : Pos} (hg : Gl X "range") (hm : X.mg "range" = none) (ha : PA X [a] ta) (hs : starEach [a] X.env = [(false, eval a X.env)] := by rfl) : PI X tg (.Call (.Name "range" p) [a] [] pos) (iRng1 ta) := by
  intro pins s σ H R I h
  refine Call_ (ld_blt I hg hm boot_range (PyProof.Rows.callWith_type1 (thn (ha pos pins s σ H _ I h) fun us s1 ⟨vs, H1, I1, r1, q1⟩ => ?_) hs rfl))
  obtain ⟨j, e, q1, q2, q⟩ := q1
  subst e
  cases r1 with
  | cons r rr =>
    cases rr
    obtain ⟨t, rfl⟩ := r
    exact call_range_1 (range_it I1 (by omega) (by omega) q1 q2 (by simpa using q))
def tFor (wi : TI) (g : TG) (tb : TS) : TS := fun D σ H => wi σ H fun J H1 => ∃ W : Nat → Nat → St → Hp → Prop, (∃ m, W 0 m σ H1) ∧ ∀ i m σ H, W i m σ H →
  (J.stop i H ∧ D.nx σ H) ∨ (J.go i H ∧ ∃ N : St → Hp → Prop, (∀ σ' H', N σ' H' → ∃ m', m' < m ∧ W (i + 1) m' σ' H') ∧ ∀ x H', J.yld i H x H' → g x σ H' fun σ2 H2 => tb { D with nx := N, ct := N, bk := D.nx } σ2 H2)
def pinsAt (fp : List Addr) (h : Heap) : List (Addr × Obj) := fp.filterMap fun b => (h.get? b).map fun o => (b, o)
theorem mem_pinsAt {fp : List Addr} {h : Heap} {b : Addr} {o : Obj} (hb : b ∈ fp) (e : h.get? b = some o) : (b, o) ∈ pinsAt fp h := List.mem_filterMap.mpr ⟨b, hb, by rw [e]; rfl⟩
theorem of_pinsAt {fp : List Addr} {h : Heap} {p : Addr × Obj} (hp : p ∈ pinsAt fp h) : p.1 ∈ fp ∧ h.get? p.1 = some p.2 := by
  obtain ⟨b, hb, e⟩ := List.mem_filterMap.mp hp
  cases q : h.get? b with
  | none => rw [q] at e; cases e
  | some o =>
    rw [q] at e
    have e' : (b, o) = p := Option.some.inj e
    subst e'
    exact ⟨hb, q⟩
theorem Inv.pinned {pins : List (Addr × Obj)} {σ : St} {H : Hp} {s : Shared} {fp : List Addr} (I : Inv X pins σ H s) (hf : ∀ b ∈ fp, FpOk X pins H b) (ho : ∀ b ∈ fp, ∃ o, s.heap.get? b = some o ∧ ∀ v, o.data ≠ .cell v) : Inv X (pins ++ pinsAt fp s.heap) σ H s :=
  I.pins_of fun p hp => (List.mem_append.mp hp).elim (fun z => I.pin p (List.mem_append_right _ z)) fun z => by
    obtain ⟨hb, e⟩ := of_pinsAt z
    obtain ⟨f0, f1, f2, _⟩ := hf p.1 hb
    obtain ⟨o, e', d⟩ := ho p.1 hb
    rw [e] at e'; cases e'
    exact ⟨e, f0, f1, f2, d⟩
theorem Inv.unpinned {pins pl : List (Addr × Obj)} {σ : St} {H : Hp} {s : Shared} (I : Inv X (pins ++ pl) σ H s) : Inv X pins σ H s := I.pins_of fun p hp => I.pin p (List.mem_append_right _ (List.mem_append_left _ hp))
theorem ps_for {iter : Expr} {body : List Stmt} {wi : TI} {g : TG} {tb : TS} {pos : Pos} (hp : PassesOwn (model X.prog X.w) X.A X.env X.xe) (hc : X.calm = true) (hi : PI X tg iter wi) (hg : PG X tg g) (hb : PSs X body tb)
    (hs : ∀ x, foldedSetIterable iter X.env x = pure x := by intro _; rfl) : PS X (.For tg iter body [] pos) (tFor wi g tb) := by
  intro pins s σ H D I h
  refine wpAny_For (thn (hi pins s σ H _ I h) fun v s1 h1 => thn h1 fun itv s2 h2 => ?_) hs
  obtain ⟨it, fp, tn, J, H2, e, I2, T, st2, f2, W, ⟨m0, w0⟩, turn⟩ := h2
  subst e
  have stat : ∀ {H' : Hp}, (∀ b ∈ fp, H' b = none) → ∀ b ∈ fp, FpOk X pins H' b := fun hn b hb => ⟨hn b hb, (f2 b hb).2⟩
  refine codeAny_forLoop_any (fun n s' => ∃ i σ' H', Inv X pins σ' H' s' ∧ tn i s'.heap ∧ (∀ b ∈ fp, H' b = none) ∧ W i n σ' H') ?_ m0 ⟨0, σ, H2, I2, st2, fun b hb => (f2 b hb).1, w0⟩
  rintro n s3 ⟨i, σ3, H3, I3, st3, fr3, w3⟩
  rcases turn i n σ3 H3 w3 with ⟨stop, qn⟩ | ⟨go, N, hN, step⟩
  · refine wpAny_passesOwn hp (thn (T.done X rfl rfl rfl hc i pins s3 σ3 H3 X.xe I3 (stat fr3) st3 stop) fun r s4 ⟨hr, I4⟩ => ?_)
    subst hr
    exact wpAny_execs_nil ⟨σ3, H3, I4, qn⟩
  · refine wpAny_passesOwn hp (thn (T.item X rfl rfl rfl hc i pins s3 σ3 H3 X.xe I3 (stat fr3) st3 go) fun r s4 ⟨u, hr, h4⟩ => ?_)
    subst hr
    refine wpAny_passesOwn hp (thn h4 fun _ s5 ⟨x, H5, I5, r5, y5, st5, fr5⟩ => ?_)
    have I5' := I5.pinned (stat fr5) (T.obj _ _ st5)
    refine wpAny_passesOwn hp (thn (hg _ s5 σ3 H5 x u _ I5' r5 (step x H5 y5)) fun _ s6 ⟨σ6, H6, I6, q6⟩ => ?_)
    refine wpAny_passesOwn hp (thn (hb _ s6 σ6 H6 _ I6 q6) fun f s7 q7 => ?_)
    have again : ∀ {σ7 : St} {H7 : Hp}, Inv X (pins ++ pinsAt fp s5.heap) σ7 H7 s7 → N σ7 H7 → ∃ m, m < n ∧ ∃ i σ' H', Inv X pins σ' H' s7 ∧ tn i s7.heap ∧ (∀ b ∈ fp, H' b = none) ∧ W i m σ' H' := fun {σ7 H7} I7 n7 => by
      obtain ⟨m', hm, w7⟩ := hN σ7 H7 n7
      refine ⟨m', hm, i + 1, σ7, H7, I7.unpinned, T.keep _ _ _ st5 fun b hb o e => (I7.pin (b, o) (List.mem_append_right _ (List.mem_append_right _ (mem_pinsAt hb e)))).1, fun b hb => ?_, w7⟩
      obtain ⟨o, e, d⟩ := T.obj _ _ st5 b hb
      exact (I7.pin (b, o) (List.mem_append_right _ (List.mem_append_right _ (mem_pinsAt hb e)))).2.1
    cases f with
    | next => obtain ⟨σ7, H7, I7, n7⟩ := q7; exact again I7 n7
    | cont => obtain ⟨σ7, H7, I7, n7⟩ := q7; exact again I7 n7
    | brk => obtain ⟨σ7, H7, I7, q7⟩ := q7; exact ⟨σ7, H7, I7.unpinned, q7⟩
    | ret v => obtain ⟨x7, σ7, H7, I7, r7, q7⟩ := q7; exact ⟨x7, σ7, H7, I7.unpinned, r7, q7⟩
end
theorem for_list {K : PySem.W.Frag} {a : Addr} {xs : List V} {g : TG} {tb : TS} {D : Ends} {σ : St} {H : Hp} (Pv : Nat → St → Hp → Prop) (h0 : Pv 0 σ H) (hl : ∀ i σ H, i ≤ xs.length → Pv i σ H → SqL K H a xs)
    (hs : ∀ i x σ H, xs[i]? = some x → Pv i σ H → g x σ H fun σ2 H2 => tb { D with nx := Pv (i + 1), ct := Pv (i + 1), bk := D.nx } σ2 H2) (hd : ∀ σ H, Pv xs.length σ H → D.nx σ H) :
    ∃ W : Nat → Nat → St → Hp → Prop, (∃ m, W 0 m σ H) ∧ ∀ i m σ H, W i m σ H →
      ((Itl K a).stop i H ∧ D.nx σ H) ∨ ((Itl K a).go i H ∧ ∃ N : St → Hp → Prop, (∀ σ' H', N σ' H' → ∃ m', m' < m ∧ W (i + 1) m' σ' H') ∧ ∀ x H', (Itl K a).yld i H x H' → g x σ H' fun σ2 H2 => tb { D with nx := N, ct := N, bk := D.nx } σ2 H2) := by
  refine ⟨fun i m σ H => m = xs.length - i ∧ i ≤ xs.length ∧ Pv i σ H, ⟨xs.length, by simp, Nat.zero_le _, h0⟩, ?_⟩
  rintro i m σ H ⟨rfl, hi, p⟩
  have q := hl i σ H hi p
  by_cases hlt : i < xs.length
  · refine .inr ⟨⟨xs, xs[i], q, by simp [hlt]⟩, Pv (i + 1), fun σ' H' p' => ⟨xs.length - (i + 1), by omega, rfl, hlt, p'⟩, fun x H' y => ?_⟩
    obtain ⟨e, y⟩ := y
    subst e
    exact hs i x σ _ (y xs q) p
  · have e : i = xs.length := by omega
    subst e
    exact .inl ⟨⟨xs, q, Nat.le_refl _⟩, hd σ H p⟩
theorem for_range {lo : Int} {n : Nat} {g : TG} {tb : TS} {D : Ends} {σ : St} {H : Hp} (Pv : Nat → St → Hp → Prop) (h0 : Pv 0 σ H)
    (hs : ∀ i σ H, i < n → Pv i σ H → g (.int (lo + i)) σ H fun σ2 H2 => tb { D with nx := Pv (i + 1), ct := Pv (i + 1), bk := D.nx } σ2 H2) (hd : ∀ σ H, Pv n σ H → D.nx σ H) :
    ∃ W : Nat → Nat → St → Hp → Prop, (∃ m, W 0 m σ H) ∧ ∀ i m σ H, W i m σ H →
      ((Itr lo n).stop i H ∧ D.nx σ H) ∨ ((Itr lo n).go i H ∧ ∃ N : St → Hp → Prop, (∀ σ' H', N σ' H' → ∃ m', m' < m ∧ W (i + 1) m' σ' H') ∧ ∀ x H', (Itr lo n).yld i H x H' → g x σ H' fun σ2 H2 => tb { D with nx := N, ct := N, bk := D.nx } σ2 H2) := by
  refine ⟨fun i m σ H => m = n - i ∧ i ≤ n ∧ Pv i σ H, ⟨n, by simp, Nat.zero_le _, h0⟩, ?_⟩
  rintro i m σ H ⟨rfl, hi, p⟩
  by_cases hlt : i < n
  · refine .inr ⟨hlt, Pv (i + 1), fun σ' H' p' => ⟨n - (i + 1), by omega, rfl, hlt, p'⟩, fun x H' y => ?_⟩
    obtain ⟨e, y⟩ := y
    subst e y
    exact hs i σ _ hlt p
  · have e : i = n := by omega
    subst e
    exact .inl ⟨Nat.le_refl _, hd σ H p⟩
theorem while_by {c : TT} {tb : TS} {D : Ends} {σ : St} {H : Hp} (Pv : St → Hp → Prop) (μ : St → Hp → Nat) (h0 : Pv σ H)
    (hs : ∀ σ H, Pv σ H → c σ H fun b H1 => if b = true then tb { D with nx := fun σ' H' => Pv σ' H' ∧ μ σ' H' < μ σ H, ct := fun σ' H' => Pv σ' H' ∧ μ σ' H' < μ σ H, bk := D.nx } σ H1 else D.nx σ H1)
    (mono : ∀ σ H Q Q', (∀ b H1, Q b H1 → Q' b H1) → c σ H Q → c σ H Q') : tWhile c tb D σ H := by
  refine ⟨fun m σ H => m = μ σ H ∧ Pv σ H, ⟨_, rfl, h0⟩, ?_⟩
  rintro m σ H ⟨rfl, p⟩
  refine mono σ H _ _ (fun b H1 q => ?_) (hs σ H p)
  cases b with
  | true => exact ⟨_, fun σ' H' ⟨p', l⟩ => ⟨_, l, rfl, p'⟩, q⟩
  | false => exact q
end L2
namespace L2
open PySem PySem.Spec PyProof.Rows
abbrev R2 := V → V → Hp → VK → Prop
def OpR (X : Cx) (f : Value → Value → Sem Value) (r : R2) : Prop :=
  ∀ (pins : List (Addr × Obj)) (s : Shared) (σ : St) (H : Hp) (x y : V) (v u : Value) (Q : VK), Inv X pins σ H s → RelV x v → RelV y u → r x y H Q →
    wpAny (model X.prog X.w) X.A (f v u) (EP X pins σ Q) X.xe s
def UnR (X : Cx) (f : Value → Sem Value) (r : V → Hp → VK → Prop) : Prop :=
  ∀ (pins : List (Addr × Obj)) (s : Shared) (σ : St) (H : Hp) (x : V) (v : Value) (Q : VK), Inv X pins σ H s → RelV x v → r x H Q →
    wpAny (model X.prog X.w) X.A (f v) (EP X pins σ Q) X.xe s
def CallR (X : Cx) (f : Value) (r : List V → Hp → VK → Prop) : Prop :=
  ∀ (pins : List (Addr × Obj)) (s : Shared) (σ : St) (H : Hp) (xs : List V) (us : List Value) (Q : VK), Inv X pins σ H s → Vals xs us → r xs H Q →
    wpAny (model X.prog X.w) X.A (call f us) (EP X pins σ Q) X.xe s
def TruR (X : Cx) (r : V → Hp → (Bool → Hp → Prop) → Prop) : Prop :=
  ∀ (pins : List (Addr × Obj)) (s : Shared) (σ : St) (H : Hp) (x : V) (v : Value) (Q : Bool → Hp → Prop), Inv X pins σ H s → RelV x v → r x H Q →
    wpAny (model X.prog X.w) X.A (truthy v) (TP X pins σ Q) X.xe s
def tOp (r : R2) (ta tb : TE) : TE := fun σ H Q => ta σ H fun x H1 => tb σ H1 fun y H2 => r x y H2 Q
def tUn (r : V → Hp → VK → Prop) (ta : TE) : TE := fun σ H Q => ta σ H fun x H1 => r x H1 Q
def rI (C : Int → Int → Prop) (g : Int → Int → V) : R2 := fun x y H Q => ∃ i j, x = .int i ∧ y = .int j ∧ C i j ∧ Q (g i j) H
def rI0 (g : Int → Int → V) : R2 := fun x y H Q => ∃ i j, x = .int i ∧ y = .int j ∧ Q (g i j) H
def rU (g : Int → V) : V → Hp → VK → Prop := fun x H Q => ∃ i, x = .int i ∧ Q (g i) H
section
variable {X : Cx} {a b c : Expr} {ta tb tc : TE} {pos : Pos}
theorem binT (ha : PE X a ta) (hb : PE X b tb) {pins : List (Addr × Obj)} {s : Shared} {σ : St} {H : Hp} {R : V → V → Hp → Prop} (I : Inv X pins σ H s)
    (h : ta σ H fun x H1 => tb σ H1 fun y H2 => R x y H2) {Q : Value → Shared → Prop} {f : Value → Value → Sem Value}
    (hf : ∀ v u s2 x y H2, Inv X pins σ H2 s2 → RelV x v → RelV y u → R x y H2 → wpAny (model X.prog X.w) X.A (f v u) Q X.xe s2) :
    wpAny (model X.prog X.w) X.A (eval a X.env) (fun v s₁ => wpAny (model X.prog X.w) X.A (eval b X.env) (fun u s₂ => wpAny (model X.prog X.w) X.A (f v u) Q X.xe s₂) X.xe s₁) X.xe s := by
  refine thn (ha pins s σ H _ I h) fun v s1 ⟨x, H1, I1, r1, q1⟩ => ?_
  refine thn (hb pins s1 σ H1 _ I1 q1) fun u s2 ⟨y, H2, I2, r2, q2⟩ => ?_
  exact hf v u s2 x y H2 I2 r1 r2 q2
theorem pe_op {op : Operator} {r : R2} (ho : OpR X (binaryOp op) r) (ha : PE X a ta) (hb : PE X b tb) : PE X (.BinOp a op b pos) (tOp r ta tb) := by
  intro pins s σ H Q I h
  exact wpAny_BinOp (binT ha hb I h fun v u s2 x y H2 I2 rx ry q => ho pins s2 σ H2 x y v u Q I2 rx ry q)
theorem pe_un {op : UnaryOp} {r : V → Hp → VK → Prop} (ho : UnR X (unaryOp op) r) (ha : PE X a ta) : PE X (.UnaryOp op a pos) (tUn r ta) := by
  intro pins s σ H Q I h
  exact UnaryOp_ (thn (ha pins s σ H _ I h) fun v s1 ⟨x, H1, I1, r1, q1⟩ => ho pins s1 σ H1 x v Q I1 r1 q1)
theorem opI {f : Value → Value → Sem Value} {C : Int → Int → Prop} {g : Int → Int → Int}
    (rule : ∀ (i j : Int) (t u : Tok) (s : Shared) (Q : Value → Shared → Prop) (E : Value → Shared → Prop), C i j → Q (.int (g i j) s.toks) { s with toks := s.toks + 1 } → wpAny (model X.prog X.w) X.A (f (.int i t) (.int j u)) Q E s) :
    OpR X f (rI C fun i j => .int (g i j)) := by
  intro pins s σ H x y v u Q I rx ry h
  obtain ⟨i, j, rfl, rfl, hc, q⟩ := h
  obtain ⟨t, rfl⟩ := rx
  obtain ⟨t', rfl⟩ := ry
  exact rule i j t t' s _ _ hc ⟨.int (g i j), H, I.tok _, ⟨_, rfl⟩, q⟩
theorem opI0 {f : Value → Value → Sem Value} {g : Int → Int → Int}
    (rule : ∀ (i j : Int) (t u : Tok) (s : Shared) (Q : Value → Shared → Prop) (E : Value → Shared → Prop), Q (.int (g i j) s.toks) { s with toks := s.toks + 1 } → wpAny (model X.prog X.w) X.A (f (.int i t) (.int j u)) Q E s) :
    OpR X f (rI0 fun i j => .int (g i j)) := by
  intro pins s σ H x y v u Q I rx ry h
  obtain ⟨i, j, rfl, rfl, q⟩ := h
  obtain ⟨t, rfl⟩ := rx
  obtain ⟨t', rfl⟩ := ry
  exact rule i j t t' s _ _ ⟨.int (g i j), H, I.tok _, ⟨_, rfl⟩, q⟩
theorem opB0 {f : Value → Value → Sem Value} {g : Int → Int → Bool}
    (rule : ∀ (i j : Int) (t u : Tok) (s : Shared) (Q : Value → Shared → Prop) (E : Value → Shared → Prop), Q (.bool (g i j)) s → wpAny (model X.prog X.w) X.A (f (.int i t) (.int j u)) Q E s) :
    OpR X f (rI0 fun i j => .bl (g i j)) := by
  intro pins s σ H x y v u Q I rx ry h
  obtain ⟨i, j, rfl, rfl, q⟩ := h
  obtain ⟨t, rfl⟩ := rx
  obtain ⟨t', rfl⟩ := ry
  exact rule i j t t' s _ _ ⟨.bl (g i j), H, I, rfl, q⟩
def CDiv (i j : Int) : Prop := 0 < j ∧ j < 1073741824
def CPow (i j : Int) : Prop := 0 ≤ j ∧ j ≤ 1000000 ∧ i.natAbs < 2 ^ 64
def CMul (i j : Int) : Prop := (-(2 ^ 64) < i ∧ i < 2 ^ 64) ∨ (-(2 ^ 64) < j ∧ j < 2 ^ 64)
theorem CMul.ok {i j : Int} (h : CMul i j) : IntMulOk i j := by
  rcases h with ⟨h1, h2⟩ | ⟨h1, h2⟩
  · exact .of_left (intBits_le_64 h1 h2)
  · exact .of_right (intBits_le_64 h1 h2)
theorem op_add : OpR X (binaryOp .Add) (rI0 fun i j => .int (i + j)) := opI0 fun _ _ _ _ _ _ _ q => add_int q
theorem op_sub : OpR X (binaryOp .Sub) (rI0 fun i j => .int (i - j)) := opI0 fun _ _ _ _ _ _ _ q => sub_int q
theorem op_mul : OpR X (binaryOp .Mult) (rI CMul fun i j => .int (i * j)) := opI fun _ _ _ _ _ _ _ hc q => mul_int q hc.ok
theorem op_fdiv : OpR X (binaryOp .FloorDiv) (rI CDiv fun i j => .int (i / j)) := opI fun i j _ _ _ _ _ hc q => by
  have h1 : (0 : Int) < j := hc.1
  have h2 : j < 1073741824 := hc.2
  exact floordiv_int (by omega) (by rw [Int.fdiv_eq_ediv_of_nonneg i (by omega)]; exact q) (.inl (PyProof.noPylong_small (by omega)))
theorem op_mod : OpR X (binaryOp .Mod) (rI (fun _ j => 0 < j) fun i j => .int (i % j)) := opI fun i j _ _ _ _ _ hc q => by
  have h1 : (0 : Int) < j := hc
  exact mod_int' (by omega) (by rw [Int.fmod_eq_emod_of_nonneg i (by omega)]; exact q)
theorem op_pow : OpR X (binaryOp .Pow) (rI CPow fun i j => .int (i ^ j.toNat)) := opI fun _ _ _ _ _ _ _ hc q => pow_int_small hc.1 hc.2.1 hc.2.2 q
theorem unI {f : Value → Sem Value} {g : Int → Int}
    (rule : ∀ (i : Int) (t : Tok) (s : Shared) (Q : Value → Shared → Prop) (E : Value → Shared → Prop), Q (.int (g i) s.toks) { s with toks := s.toks + 1 } → wpAny (model X.prog X.w) X.A (f (.int i t)) Q E s) :
    UnR X f (rU fun i => .int (g i)) := by
  intro pins s σ H x v Q I rx h
  obtain ⟨i, rfl, q⟩ := h
  obtain ⟨t, rfl⟩ := rx
  exact rule i t s _ _ ⟨.int (g i), H, I.tok _, ⟨_, rfl⟩, q⟩
theorem un_neg : UnR X (unaryOp .USub) (rU fun i => .int (-i)) := unI fun _ _ _ _ _ q => neg_int q
end
def scal : V → V → Bool
  | .non, .non => true | .non, .int _ => true | .int _, .non => true | .non, .bl _ => true | .bl _, .non => true | .non, .str _ => true | .str _, .non => true
  | .int _, .int _ => true | .bl _, .bl _ => true | .str _, .str _ => true | .byt _, .byt _ => true
  | .int _, .str _ => true | .str _, .int _ => true | .bl _, .str _ => true | .str _, .bl _ => true
  | _, _ => false
def rEq : R2 := fun x y H Q => scal x y = true ∧ Q (.bl (decide (x = y))) H
def rNe : R2 := fun x y H Q => scal x y = true ∧ Q (.bl (!decide (x = y))) H
theorem dec_int {i j : Int} : decide (V.int i = V.int j) = (i == j) := by
  rw [Bool.eq_iff_iff]
  simp
theorem dec_bl {i j : Bool} : decide (V.bl i = V.bl j) = (i == j) := by
  rw [Bool.eq_iff_iff]
  simp
theorem dec_str {i j : Str} : decide (V.str i = V.str j) = (i == j) := by
  rw [Bool.eq_iff_iff]
  simp
theorem dec_byt {i j : Array UInt8} : decide (V.byt i = V.byt j) = (i.toList == j.toList) := by
  rw [Bool.eq_iff_iff]
  cases i
  cases j
  simp
section
variable {X : Cx} {a b c : Expr} {ta tb tc : TE} {pos : Pos}
theorem fin_bl {pins : List (Addr × Obj)} {σ : St} {H : Hp} {s : Shared} {Q : VK} {k k' : Bool} (I : Inv X pins σ H s) (q : Q (.bl k) H) (e : k = k') : EP X pins σ Q (.bool k') s := by
  subst e
  exact ⟨.bl k, H, I, rfl, q⟩
theorem op_eq : OpR X (compareOp .Eq) rEq := by
  intro pins s σ H x y v u Q I rx ry h
  obtain ⟨hs, q⟩ := h
  cases x with
  | non =>
    cases rx
    cases y with
    | non => cases ry; exact PySem.EqNone.eq_none_none (fin_bl I q (by simp))
    | bl j => cases ry; exact PySem.EqNone.eq_none_bool (fin_bl I q (by simp))
    | int j => obtain ⟨t', rfl⟩ := ry; exact PySem.EqNone.eq_none_int (fin_bl I q (by simp))
    | str j => obtain ⟨t', rfl⟩ := ry; exact PySem.EqNone.eq_none_str (fin_bl I q (by simp))
    | _ => exact absurd (show false = true from hs) Bool.false_ne_true
  | bl i =>
    cases rx
    cases y with
    | non => cases ry; exact PySem.EqNone.eq_bool_none (fin_bl I q (by simp))
    | bl j => cases ry; exact eq_bool (fin_bl I q dec_bl)
    | str j => obtain ⟨t', rfl⟩ := ry; exact PySem.EqMixed.eq_bool_str (fin_bl I q (by simp))
    | _ => exact absurd (show false = true from hs) Bool.false_ne_true
  | int i =>
    obtain ⟨t, rfl⟩ := rx
    cases y with
    | non => cases ry; exact PySem.EqNone.eq_int_none (fin_bl I q (by simp))
    | int j => obtain ⟨t', rfl⟩ := ry; exact eq_int (fin_bl I q dec_int)
    | str j => obtain ⟨t', rfl⟩ := ry; exact PySem.EqMixed.eq_int_str (fin_bl I q (by simp))
    | _ => exact absurd (show false = true from hs) Bool.false_ne_true
  | str i =>
    obtain ⟨t, rfl⟩ := rx
    cases y with
    | non => cases ry; exact PySem.EqNone.eq_str_none (fin_bl I q (by simp))
    | bl j => cases ry; exact PySem.EqMixed.eq_str_bool (fin_bl I q (by simp))
    | int j => obtain ⟨t', rfl⟩ := ry; exact PySem.EqMixed.eq_str_int (fin_bl I q (by simp))
    | str j => obtain ⟨t', rfl⟩ := ry; exact eq_str (fin_bl I q dec_str)
    | _ => exact absurd (show false = true from hs) Bool.false_ne_true
  | byt i =>
    obtain ⟨t, rfl⟩ := rx
    cases y with
    | byt j => obtain ⟨t', rfl⟩ := ry; exact PySem.W.eq_bytes (fin_bl I q dec_byt)
    | _ => exact absurd (show false = true from hs) Bool.false_ne_true
  | _ => cases y <;> exact absurd (show false = true from hs) Bool.false_ne_true
theorem op_ne : OpR X (compareOp .NotEq) rNe := by
  intro pins s σ H x y v u Q I rx ry h
  obtain ⟨hs, q⟩ := h
  cases x with
  | non =>
    cases rx
    cases y with
    | non => cases ry; exact PySem.EqNone.ne_none_none (fin_bl I q (by simp))
    | bl j => cases ry; exact PySem.EqNone.ne_none_bool (fin_bl I q (by simp))
    | int j => obtain ⟨t', rfl⟩ := ry; exact PySem.EqNone.ne_none_int (fin_bl I q (by simp))
    | str j => obtain ⟨t', rfl⟩ := ry; exact PySem.EqNone.ne_none_str (fin_bl I q (by simp))
    | _ => exact absurd (show false = true from hs) Bool.false_ne_true
  | bl i =>
    cases rx
    cases y with
    | non => cases ry; exact PySem.EqNone.ne_bool_none (fin_bl I q (by simp))
    | bl j => cases ry; exact ne_bool (fin_bl I q (congrArg not dec_bl))
    | str j => obtain ⟨t', rfl⟩ := ry; exact PySem.EqMixed.ne_bool_str (fin_bl I q (by simp))
    | _ => exact absurd (show false = true from hs) Bool.false_ne_true
  | int i =>
    obtain ⟨t, rfl⟩ := rx
    cases y with
    | non => cases ry; exact PySem.EqNone.ne_int_none (fin_bl I q (by simp))
    | int j => obtain ⟨t', rfl⟩ := ry; exact ne_int (fin_bl I q (congrArg not dec_int))
    | str j => obtain ⟨t', rfl⟩ := ry; exact PySem.EqMixed.ne_int_str (fin_bl I q (by simp))
    | _ => exact absurd (show false = true from hs) Bool.false_ne_true
  | str i =>
    obtain ⟨t, rfl⟩ := rx
    cases y with
    | non => cases ry; exact PySem.EqNone.ne_str_none (fin_bl I q (by simp))
    | bl j => cases ry; exact PySem.EqMixed.ne_str_bool (fin_bl I q (by simp))
    | int j => obtain ⟨t', rfl⟩ := ry; exact PySem.EqMixed.ne_str_int (fin_bl I q (by simp))
    | str j => obtain ⟨t', rfl⟩ := ry; exact ne_str (fin_bl I q (congrArg not dec_str))
    | _ => exact absurd (show false = true from hs) Bool.false_ne_true
  | byt i =>
    obtain ⟨t, rfl⟩ := rx
    cases y with
    | byt j => obtain ⟨t', rfl⟩ := ry; exact PySem.W.ne_bytes (fin_bl I q (congrArg not dec_byt))
    | _ => exact absurd (show false = true from hs) Bool.false_ne_true
  | _ => cases y <;> exact absurd (show false = true from hs) Bool.false_ne_true
theorem op_lt : OpR X (compareOp .Lt) (rI0 fun i j => .bl (decide (i < j))) := opB0 fun _ _ _ _ _ _ _ q => lt_int q
theorem op_le : OpR X (compareOp .LtE) (rI0 fun i j => .bl (decide (i ≤ j))) := opB0 fun _ _ _ _ _ _ _ q => le_int q
theorem op_gt : OpR X (compareOp .Gt) (rI0 fun i j => .bl (decide (j < i))) := opB0 fun _ _ _ _ _ _ _ q => gt_int q
theorem op_notN : OpR X (compareOp .IsNot) (fun x y H Q => y = .non ∧ Q (.bl (!decide (x = .non))) H) := by
  intro pins s σ H x y v u Q I rx ry h
  obtain ⟨rfl, q⟩ := h
  cases ry
  refine isnot_none_gen (fin_bl I q ?_)
  cases x <;> first
    | (cases rx; rfl)
    | (obtain ⟨t, rfl⟩ := rx; rfl)
theorem nomark (b : Expr) {op : CmpOp} (h : op ≠ .In := by decide) (h2 : op ≠ .NotIn := by decide) : behindInMarks op b = false := by
  have e1 : (op == CmpOp.In) = false := by cases op <;> first | rfl | exact absurd rfl h
  have e2 : (op == CmpOp.NotIn) = false := by cases op <;> first | rfl | exact absurd rfl h2
  cases b <;> simp [behindInMarks, e1, e2]
theorem pe_cmpR {op : CmpOp} {r : R2} (ho : OpR X (compareOp op) r) (ha : PE X a ta) (hb : PE X b tb) (hm : behindInMarks op b = false) : PE X (.Compare a [op] [b] pos) (tOp r ta tb) := by
  intro pins s σ H Q I h
  exact wpAny_Compare1 (binT ha hb I h fun v u s2 x y H2 I2 rx ry q => ho pins s2 σ H2 x y v u Q I2 rx ry q) hm
def tTest (t : TE) : TT := fun σ H Q => t σ H fun x H' => ∃ k, x = .bl k ∧ Q k H'
theorem pt_cmpR {op : CmpOp} {r : R2} (ho : OpR X (compareOp op) r) (ha : PE X a ta) (hb : PE X b tb) (hm : behindInMarks op b = false) : PT X (.Compare a [op] [b] pos) (tTest (tOp r ta tb)) := by
  intro pins s σ H Q I h
  refine wpAny_isTrue_Compare1 (thn (ha pins s σ H _ I h) fun v s1 ⟨x, H1, I1, r1, q1⟩ => thn (hb pins s1 σ H1 _ I1 q1) fun u s2 ⟨y, H2, I2, r2, q2⟩ =>
    thn (ho pins s2 σ H2 x y v u _ I2 r1 r2 q2) fun c s3 ⟨z, H3, I3, r3, k, e, q3⟩ => ?_) hm
  subst e
  cases r3
  exact wpAny_truthy_bool ⟨H3, I3, q3⟩
def tChain (r r' : R2) (ta tb tc : TE) : TE := fun σ H Q => ta σ H fun x H1 => tb σ H1 fun y H2 => r x y H2 fun z H3 => ∃ k, z = .bl k ∧
  (if k = true then tc σ H3 fun w' H4 => r' y w' H4 Q else Q (.bl false) H3)
theorem pe_chain {op op' : CmpOp} {r r' : R2} (ho : OpR X (compareOp op) r) (ho' : OpR X (compareOp op') r') (ha : PE X a ta) (hb : PE X b tb) (hc : PE X c tc)
    (hm : lastMarks [op, op'] [b, c] = false := by with_unfolding_all rfl) : PE X (.Compare a [op, op'] [b, c] pos) (tChain r r' ta tb tc) := by
  intro pins s σ H Q I h
  refine Compare_chain (thn (ha pins s σ H _ I h) fun v s1 ⟨x, H1, I1, r1, q1⟩ => chain_link (thn (hb pins s1 σ H1 _ I1 q1) fun u s2 ⟨y, H2, I2, r2, q2⟩ =>
    thn (ho pins s2 σ H2 x y v u _ I2 r1 r2 q2) fun d s3 ⟨z, H3, I3, r3, k, e, q3⟩ => ?_)) hm
  subst e
  cases r3
  refine wpAny_truthy_bool ?_
  cases k with
  | false => exact ite_ff ⟨.bl false, H3, I3, rfl, q3⟩
  | true => exact ite_tt (chain_last (thn (hc pins s3 σ H3 _ I3 q3) fun w' s4 ⟨z', H4, I4, r4, q4⟩ => ho' pins s4 σ H4 y z' u w' Q I4 r2 r4 q4))
theorem pt_chain {op op' : CmpOp} {r r' : R2} (ho : OpR X (compareOp op) r) (ho' : OpR X (compareOp op') r') (ha : PE X a ta) (hb : PE X b tb) (hc : PE X c tc)
    (hm : lastMarks [op, op'] [b, c] = false := by with_unfolding_all rfl) : PT X (.Compare a [op, op'] [b, c] pos) (tTest (tChain r r' ta tb tc)) := by
  intro pins s σ H Q I h
  refine isTrue_chain (thn (ha pins s σ H _ I h) fun v s1 ⟨x, H1, I1, r1, q1⟩ => test_link (thn (hb pins s1 σ H1 _ I1 q1) fun u s2 ⟨y, H2, I2, r2, q2⟩ =>
    thn (ho pins s2 σ H2 x y v u _ I2 r1 r2 q2) fun d s3 ⟨z, H3, I3, r3, k, e, q3⟩ => ?_)) hm
  subst e
  cases r3
  refine wpAny_truthy_bool ?_
  cases k with
  | false =>
    obtain ⟨k', e', q'⟩ := q3
    cases e'
    exact ite_ff ⟨H3, I3, q'⟩
  | true =>
    refine ite_tt (test_last (thn (hc pins s3 σ H3 _ I3 q3) fun w' s4 ⟨z', H4, I4, r4, q4⟩ => thn (ho' pins s4 σ H4 y z' u w' _ I4 r2 r4 q4) fun d' s5 ⟨z2, H5, I5, r5, k2, e2, q5⟩ => ?_))
    subst e2
    cases r5
    exact wpAny_truthy_bool ⟨H5, I5, q5⟩
def TruV (K : PySem.W.Frag) (x : V) (H : Hp) (k : Bool) : Prop :=
  match x with
  | .non => k = false
  | .bl b => k = b
  | .int i => k = (i != 0)
  | .str y => y.length ≤ sizeLine ∧ k = ((y.length : Int) != 0)
  | .byt y => y.size ≤ sizeLine ∧ k = ((y.size : Int) != 0)
  | .ref p => (∃ xs, SqL K H p xs ∧ k = !xs.isEmpty) ∨ (∃ xs, SqT K H p xs ∧ k = !xs.isEmpty) ∨ ∃ kvs, H p = some (.dK kvs) ∧ k = !kvs.isEmpty
  | _ => False
theorem isEmpty_kv {κ : Type} {kvs : List (κ × V)} {vs : List (κ × Value)} (r : KV kvs vs) : (!vs.isEmpty) = !kvs.isEmpty := by
  cases r <;> rfl
theorem isEmpty_of {xs : List V} {its : List Value} (r : Vals xs its) : (!its.toArray.isEmpty) = !xs.isEmpty := by
  cases r <;> simp
theorem line63 : (sizeLine : Nat) < 2 ^ 63 := by rw [sizeLine_eq]; decide
theorem tru_ok : TruR X (fun x H Q => ∃ k, TruV X.K x H k ∧ Q k H) := by
  intro pins s σ H x v Q I rx h
  obtain ⟨k, e, q⟩ := h
  have hl := line63
  have hs : sizeLine = 16777216 := sizeLine_eq
  cases x with
  | non =>
    cases rx
    have e' : k = false := e
    subst e'
    exact truthy_none ⟨H, I, q⟩
  | bl b =>
    cases rx
    have e' : k = b := e
    subst e'
    exact wpAny_truthy_bool ⟨H, I, q⟩
  | int i =>
    obtain ⟨t, rfl⟩ := rx
    have e' : k = (i != 0) := e
    subst e'
    exact PySem.P.truthy_int ⟨H, I, q⟩
  | str y =>
    obtain ⟨t, rfl⟩ := rx
    obtain ⟨hy, e'⟩ : y.length ≤ sizeLine ∧ k = ((y.length : Int) != 0) := e
    subst e'
    exact PySem.P.truthy_str (by omega) ⟨H, I.tok _, q⟩
  | byt y =>
    obtain ⟨t, rfl⟩ := rx
    obtain ⟨hy, e'⟩ : y.size ≤ sizeLine ∧ k = ((y.size : Int) != 0) := e
    subst e'
    exact PySem.W.truthy_bytes (by omega) ⟨H, I.tok _, q⟩
  | ref p =>
    cases rx
    have e' : (∃ xs, SqL X.K H p xs ∧ k = !xs.isEmpty) ∨ (∃ xs, SqT X.K H p xs ∧ k = !xs.isEmpty) ∨ ∃ kvs, H p = some (.dK kvs) ∧ k = !kvs.isEmpty := e
    rcases e' with ⟨xs, hx, e'⟩ | ⟨xs, hx, e'⟩ | ⟨kvs, hx, e'⟩
    · subst e'
      obtain ⟨its, r, pl, hz⟩ := I.list hx
      have hlen := r.length
      exact wpAny_truthy_list pl.isList (by simp only [List.size_toArray]; omega) ⟨H, I.tok _, by rw [isEmpty_of r]; exact q⟩
    · subst e'
      obtain ⟨its, r, pl, hz⟩ := I.tuple hx
      have hlen := r.length
      exact truthy_tuple pl (by simp only [List.size_toArray]; omega) ⟨H, I.tok _, by rw [isEmpty_of r]; exact q⟩
    · subst e'
      obtain ⟨hz, hS, vs, r, m⟩ : kvs.length ≤ sizeLine ∧ (p == sysModules) = false ∧ ∃ vs, KV kvs vs ∧ s.heap.DictOf (mixKind X.prog X.w) p vs := I.hok p _ hx
      have hlen : kvs.length = vs.length := Paired.length r
      exact wpAny_truthy_dict hS m (by omega) ⟨H, I.tok _, by rw [isEmpty_kv r]; exact q⟩
  | _ => exact (show False from e).elim
theorem pt_truth (ha : PE X a ta) (he : ∀ whole, isTrue a X.env whole = (do let v ← whole; standAt a.pos; holding [v] (truthy v))) :
    PT X a (fun σ H Q => ta σ H fun x H' => ∃ k, TruV X.K x H' k ∧ Q k H') := by
  intro pins s σ H Q I h
  exact isTrue_plain (thn (ha pins s σ H _ I h) fun v s1 ⟨x, H1, I1, r1, q1⟩ => tru_ok pins s1 σ H1 x v Q I1 r1 q1) (he _)
theorem op_add_str : OpR X (binaryOp .Add) (fun x y H Q => ∃ i j, x = .str i ∧ y = .str j ∧ i.length + j.length ≤ sizeLine ∧ Q (.str (i ++ j)) H) := by
  intro pins s σ H x y v u Q I rx ry h
  obtain ⟨i, j, rfl, rfl, hz, q⟩ := h
  obtain ⟨t, rfl⟩ := rx
  obtain ⟨t', rfl⟩ := ry
  exact add_str (fun t' tk => ⟨.str (i ++ j), H, I.tok _, ⟨_, rfl⟩, q⟩) hz
theorem vals1 {x : V} {us : List Value} (r : Vals [x] us) : ∃ u, us = [u] ∧ RelV x u := by
  cases r with
  | cons r1 r2 => cases r2; exact ⟨_, rfl, r1⟩
theorem vals2 {x y : V} {us : List Value} (r : Vals [x, y] us) : ∃ u w', us = [u, w'] ∧ RelV x u ∧ RelV y w' := by
  cases r with
  | cons r1 r2 =>
    cases r2 with
    | cons r3 r4 => cases r4; exact ⟨_, _, rfl, r1, r3⟩
theorem call_max2 (hc : X.calm = true) : CallR X (.builtin "max") (fun xs H Q => ∃ i j, xs = [.int i, .int j] ∧ Q (.int (if j > i then j else i)) H) := by
  intro pins s σ H xs us Q I r h
  obtain ⟨i, j, rfl, q⟩ := h
  obtain ⟨u, w', rfl, ⟨t, rfl⟩, ⟨t', rfl⟩⟩ := vals2 r
  refine max_two_ints (I.ok.hd hc) fun h' tk k => ⟨_, H, I.kept k, ?_, q⟩
  by_cases hj : j > i
  · rw [if_pos hj, if_pos hj]; exact ⟨_, rfl⟩
  · rw [if_neg hj, if_neg hj]; exact ⟨_, rfl⟩
theorem call_min2 (hc : X.calm = true) : CallR X (.builtin "min") (fun xs H Q => ∃ i j, xs = [.int i, .int j] ∧ Q (.int (if j < i then j else i)) H) := by
  intro pins s σ H xs us Q I r h
  obtain ⟨i, j, rfl, q⟩ := h
  obtain ⟨u, w', rfl, ⟨t, rfl⟩, ⟨t', rfl⟩⟩ := vals2 r
  refine min_two_ints (I.ok.hd hc) fun h' tk k => ⟨_, H, I.kept k, ?_, q⟩
  by_cases hj : j < i
  · rw [if_pos hj, if_pos hj]; exact ⟨_, rfl⟩
  · rw [if_neg hj, if_neg hj]; exact ⟨_, rfl⟩
end
end L2
namespace L2
open PySem PySem.Spec PyProof.Rows
structure ObjM (h : Heap) (x dx C : Addr) (mA : Str → Option Value) : Prop where
  obj : h.get? x = some (PySem.W.instObj C dx)
  ns : h.Ns1 dx mA
  ne : dx ≠ x
theorem lookIn_ns {h : Heap} {dx : Addr} {mA : Str → Option Value} (n : h.Ns1 dx mA) : ∃ od, h.get? dx = some od ∧ ∀ name, PySem.W.lookIn name od = some (mA name) := by
  obtain ⟨o, es, ep, ho, hd, hk, _, hm⟩ := n
  refine ⟨o, ho, fun name => ?_⟩
  have e := hm name
  unfold nsFind findBy at e
  rw [← Array.find?_toList] at e
  unfold PySem.W.lookIn
  rw [hd]
  dsimp only
  split
  · rename_i y q
    rw [q] at e
    exact congrArg some e
  · rename_i q
    rw [q] at e
    have a : es.toList.any (·.refKey) = false := by
      rw [List.any_eq_false]
      intro y hy
      obtain ⟨z, t, hkey⟩ := hk y (Array.mem_toList_iff.mp hy)
      simp [DictEntry.refKey, hkey]
    have a' : ¬ es.toList.any (·.refKey) = true := by rw [a]; exact Bool.false_ne_true
    rw [if_neg a']
    exact congrArg some e
theorem ObjM.look {h : Heap} {x dx C : Addr} {mA : Str → Option Value} (I : ObjM h x dx C mA) : ∃ od, PySem.W.InstAt h x (PySem.W.instObj C dx) C (some od) ∧ ∀ name, PySem.W.lookIn name od = some (mA name) :=
  let ⟨od, ho, hl⟩ := lookIn_ns I.ns
  ⟨od, ⟨I.obj, rfl, rfl, ho⟩, hl⟩
section
variable {prog : Program} {w : World} {A : Around} {E : Value → Shared → Prop} {s : Shared} {K : PySem.W.Frag} {x dx C f : Addr} {mA : Str → Option Value} {name : Str} {v : Value}
end
theorem RelO.some_of {v : V} {o : Option Value} (r : RelO (some v) o) : ∃ u, o = some u ∧ RelV v u := by
  cases o with
  | none => exact (show False from r).elim
  | some u => exact ⟨u, rfl, r⟩
section
variable {P : Program} {w : World} {H H' : Hp} {h h' : Heap} {a C dx : Addr} {fs fs' : List (Str × V)}
theorem ins_get (hok : HOk P w H h) (e : H a = some (.ins C dx fs)) : ∃ mA, ObjM h a dx C mA ∧ (∀ f, RelO (fs.lookup f) (mA f)) ∧ PySem.Within mA (fs.map (·.1)) ∧ fs.length ≤ 1000 ∧ H dx = some (.own a) := by
  obtain ⟨d, z, ne, ob, mA, n, r, q⟩ := (show ObjOk P w H h a (.ins C dx fs) from hok a _ e)
  exact ⟨mA, ⟨ob, n, ne⟩, r, q, z, d⟩
end
structure Cls (K : PySem.W.Frag) (C : Addr) : Prop where
  pg : PySem.W.plainGet K C Str.empty = true
  hd : PySem.W.hasDictIn K C = true
  po : PySem.W.plainOver K C = true
  sa : PySem.W.findIn K (.ref C) "__setattr__" = some (some (.builtin "object.__setattr__"))
theorem Cls.get {K : PySem.W.Frag} {C : Addr} (c : Cls K C) (f : Str) : PySem.W.plainGet K C f = true := c.pg
section
variable {X : Cx} {pins : List (Addr × Obj)} {σ : St} {H : Hp} {s : Shared} {a C dx : Addr} {fs : List (Str × V)} {f : Str} {v : V} {A : Around} {E : Value → Shared → Prop}
end
section
variable {X : Cx} {o e value : Expr} {f : Str} {pos pos' tpos : Pos} {ta tv : TE}
end
section
variable {X : Cx} {pins : List (Addr × Obj)} {σ : St} {H : Hp} {s : Shared} {A : Around} {E : Value → Shared → Prop} {Q : Value → Shared → Prop} {c : Value} {b : Bool}
inductive TyOf (K : PySem.W.Frag) (H : Hp) : V → Value → Prop where
  | non : TyOf K H .non (.type "NoneType")
  | bl (x : Bool) : TyOf K H (.bl x) (.type "bool")
  | int (i : Int) : TyOf K H (.int i) (.type "int")
  | str (x : Str) : TyOf K H (.str x) (.type "str")
  | flt (x : UInt64) : TyOf K H (.flt x) (.type "float")
  | lst {a : Addr} {xs : List V} (e : H a = some (.lst xs)) : TyOf K H (.ref a) (.type "list")
  | frz {a : Addr} {o : Obj} {xs : List V} (e : H a = some (.frz o (.lst xs))) : TyOf K H (.ref a) (.type "list")
  | tup {a : Addr} {xs : List V} (e : H a = some (.tup xs)) : TyOf K H (.ref a) (.type "tuple")
  | dK {a : Addr} {kvs : List (Key × V)} (e : H a = some (.dK kvs)) : TyOf K H (.ref a) (.type "dict")
  | dT {a : Addr} {kvs : List (List Key × V)} (e : H a = some (.dT kvs)) : TyOf K H (.ref a) (.type "dict")
  | ins {a C dx : Addr} {fs : List (Str × V)} (e : H a = some (.ins C dx fs)) (cl : Cls K C) (ha : PySem.W.findIn K (.ref C) "__class__" = some (some (.builtin "object.__class__")))
      (hn : PySem.W.specialIn K (.builtin "object.__class__") "__get__" = some (some (.builtin "getset_descriptor.__get__"))) (htk : PySem.W.takesIn K (.builtin "object.__class__") = some true)
      (hm : PySem.W.mroIn K C (.type "object") = some true) : TyOf K H (.ref a) (.ref C)
theorem isinst_ok {x : V} {u t : Value} (I : Inv X pins σ H s) (rx : RelV x u) (ty : TyOf X.K H x t) (e : PySem.W.kitOne X.K t c = some b) (h : ∀ tk, Q (.bool b) { s with toks := tk }) :
    wpAny (model X.prog X.w) A (call (.builtin "isinstance") [u, c]) Q E s := by
  cases ty with
  | non => cases (show u = Value.none from rx); exact PySem.W.kia_one PySem.W.kitx_none I.kIn True.intro e (fun z => nomatch z) h
  | bl y => cases (show u = Value.bool y from rx); exact PySem.W.kia_one PySem.W.kitx_bool I.kIn True.intro e (fun z => nomatch z) h
  | int i => obtain ⟨t, q⟩ := (show ∃ t, u = Value.int i t from rx); cases q; exact PySem.W.kia_one PySem.W.kitx_int I.kIn True.intro e (fun z => nomatch z) h
  | str y => obtain ⟨t, q⟩ := (show ∃ t, u = Value.str y t from rx); cases q; exact PySem.W.kia_one PySem.W.kitx_str I.kIn True.intro e (fun z => nomatch z) h
  | flt y => obtain ⟨t, q⟩ := (show ∃ t, u = Value.float y t from rx); cases q; exact PySem.W.kia_one PySem.W.kitx_float I.kIn True.intro e (fun z => nomatch z) h
  | @lst a xs ea =>
    cases (show u = Value.ref a from rx)
    obtain ⟨_, _, n, _, h1⟩ := (show ObjOk X.prog X.w H s.heap a (.lst xs) from I.hok a _ ea)
    exact PySem.W.kia_one PySem.W.kitx_list I.kIn ⟨_, h1, rfl⟩ e (fun z => nomatch z) h
  | @frz a ob xs ea =>
    cases (show u = Value.ref a from rx)
    obtain ⟨_, _, _, n, _, h1⟩ := (show ObjOk X.prog X.w H s.heap a (.frz ob (.lst xs)) from I.hok a _ ea)
    exact PySem.W.kia_one PySem.W.kitx_list I.kIn ⟨_, h1, rfl⟩ e (fun z => nomatch z) h
  | @tup a xs ea =>
    cases (show u = Value.ref a from rx)
    obtain ⟨_, _, _, p⟩ := (show ObjOk X.prog X.w H s.heap a (.tup xs) from I.hok a _ ea)
    obtain ⟨o, h1, h2, _⟩ := p
    exact PySem.W.kia_one PySem.W.kitx_tuple I.kIn ⟨o, h1, h2⟩ e (fun z => nomatch z) h
  | @dK a kvs ea =>
    cases (show u = Value.ref a from rx)
    obtain ⟨_, _, vs, _, p⟩ := (show ObjOk X.prog X.w H s.heap a (.dK kvs) from I.hok a _ ea)
    obtain ⟨o, es, ep, h1, h2, _⟩ := p
    exact PySem.W.kia_one PySem.W.kitx_dict I.kIn ⟨o, h1, h2.1⟩ e (fun z => nomatch z) h
  | @dT a kvs ea =>
    cases (show u = Value.ref a from rx)
    obtain ⟨_, _, xs, _, o, es, ep, h1, h2, _⟩ := (show ObjOk X.prog X.w H s.heap a (.dT kvs) from I.hok a _ ea)
    exact PySem.W.kia_one PySem.W.kitx_dict I.kIn ⟨o, h1, h2.1⟩ e (fun z => nomatch z) h
  | @ins a C dx fs ea cl ha hn htk hm =>
    cases (show u = Value.ref a from rx)
    obtain ⟨mA, O, _⟩ := ins_get I.hok ea
    obtain ⟨od, J, _⟩ := O.look
    exact PySem.W.kia_one (PySem.W.kitx_own (cl.get _) cl.hd ha hn htk hm) I.kIn J e (fun z => nomatch z) h
end
end L2
namespace L2
open PySem PySem.Spec PyProof.Rows
structure Room (k : Nat) (A : Around) : Prop where
  hd : A.handled = none
  dp : A.depth + 3 * k + 5 < recursionLimit
  un : A.units + 16 * k + 200 < cLine
theorem Room.mono {j k : Nat} {A : Around} (r : Room k A) (h : j ≤ k) : Room j A := ⟨r.hd, by have := r.dp; omega, by have := r.un; omega⟩
theorem Room.deeper {k : Nat} {A : Around} (r : Room (k + 1) A) (env : Env) : Room k (A.deeper env) :=
  ⟨r.hd, by have := r.dp; show A.depth + 1 + 3 * k + 5 < _; omega, by have := r.un; show A.units + 3 + 16 * k + 200 < _; omega⟩
theorem Room.in1 {k : Nat} {A : Around} (r : Room (k + 1) A) : Room k A.in1 :=
  ⟨r.hd, by have := r.dp; show A.depth + 3 * k + 5 < _; omega, by have := r.un; show A.units + 1 + 16 * k + 200 < _; omega⟩
theorem Room.depth {k : Nat} {A : Around} (r : Room k A) : A.depth < recursionLimit := by have := r.dp; omega
theorem Room.units {k : Nat} {A : Around} (r : Room k A) : A.units + 64 < cLine := by have := r.un; omega
def tNil : TA := fun _ H Q => Q [] H
def tCons (ta : TE) (tr : TA) : TA := fun σ H Q => ta σ H fun x H1 => tr σ H1 fun xs H2 => Q (x :: xs) H2
section
variable {X : Cx} {e : Expr} {es : List Expr} {te : TE} {t : TA} {pos : Pos}
theorem pa_nil : PA X [] tNil := fun _ _ _ _ H Q I h => Calls.spliced_nil ⟨[], H, I, .nil, h⟩
theorem pa_cons (ha : PE X e te) (hr : PA X es t) (hs : starEach (e :: es) X.env = (false, eval e X.env) :: starEach es X.env := by rfl) : PA X (e :: es) (tCons te t) := by
  intro pos pins s σ H Q I h
  rw [hs]
  show wpAny _ _ (spliced ((false, eval e X.env) :: backTo pos (starEach es X.env))) _ _ s
  refine Calls.spliced_cons (thn (ha pins s σ H _ I h) fun u s1 ⟨x, H1, I1, r1, q1⟩ => ?_)
  exact thn (hr pos pins s1 σ H1 _ I1 q1) fun us s2 ⟨xs, H2, I2, r2, q2⟩ => ⟨x :: xs, H2, I2, .cons r1 r2, q2⟩
def tTup (t : TA) : TE := fun σ H Q => t σ H fun xs H1 => xs.length ≤ sizeLine ∧ ∀ p, H1 p = none → Q (.ref p) (upd H1 p (.tup xs))
def tLst (t : TA) : TE := fun σ H Q => t σ H fun xs H1 => xs.length ≤ sizeLine ∧ ∀ p, H1 p = none → Q (.ref p) (upd H1 p (.lst xs))
theorem pe_tup {x1} (h : PA X es t) : PE X (.Tuple es x1 pos) (tTup t) := by
  intro pins s σ H Q I hq
  refine wpAny_Tuple_spliced (thn (h pos pins s σ H _ I hq) fun us s1 ⟨xs, H1, I1, r, z, q⟩ => ⟨by rw [← r.length]; exact z, ?_⟩)
  have hf : H1 s1.heap.objs.size = none := I1.hok.fresh (Nat.le_refl _)
  refine ⟨.ref s1.heap.objs.size, upd H1 s1.heap.objs.size (.tup xs), I1.laid (t' := s1.toks) (fun b u e => Heap.get?_push_of_some _ e) (Nat.le_refl _) ?_, rfl, q _ hf⟩
  exact ⟨z, us, r, ⟨_, Heap.get?_push_size _ rfl, rfl, _, rfl⟩⟩
theorem pe_lst (h : PA X es t) : PE X (.List es pos) (tLst t) := by
  intro pins s σ H Q I hq
  refine wpAny_List_spliced (thn (h pos pins s σ H _ I hq) fun us s1 ⟨xs, H1, I1, r, z, q⟩ => ⟨by rw [← r.length]; exact z, ?_⟩)
  have hf : H1 s1.heap.objs.size = none := I1.hok.fresh (Nat.le_refl _)
  refine ⟨.ref s1.heap.objs.size, upd H1 s1.heap.objs.size (.lst xs), I1.laid (t' := s1.toks) (fun b u e => Heap.get?_push_of_some _ e) (Nat.le_refl _) ?_, rfl, q _ hf⟩
  exact ⟨z, us, 0, r, Heap.get?_push_size _ rfl⟩
end
abbrev Sp := List V → Hp → VK → XK → Prop
abbrev CXT := List Env → Hp → Shared → XK → Value → Shared → Prop
structure Env0 (P : Program) (w : World) (K : PySem.W.Frag) (mg : Str → Option Value) (base : Heap) (A : Around) (outer : List Env) (s : Shared) (H : Hp) : Prop where
  frames : A.frames = some outer
  mod : Mod K mg base
  bs : ∀ b o, base.get? b = some o → s.heap.get? b = some o ∧ H b = none
  bsz : base.objs.size ≤ s.heap.objs.size
  funs : s.heap.FunFrames base outer
  frf : ∀ b ∈ frs outer, H b = none
  hok : HOk P w H s.heap
  bare : AllBare s.gens
def CE (outer : List Env) (P : Program) (w : World) (H : Hp) (s : Shared) (Q : VK) (u : Value) (s' : Shared) : Prop :=
  ∃ v H', s'.os = s.os ∧ AllBare s'.gens ∧ Un (frs outer) [] H H' s.heap s'.heap ∧ HOk P w H' s'.heap ∧ RelV v u ∧ Q v H'
def CR (CX : CXT) (outer : List Env) (P : Program) (w : World) (H : Hp) (s : Shared) (Q : VK) (E : XK) (r : Result) (s' : Shared) : Prop :=
  match r with
  | .ok (.ret u) => CE outer P w H s Q u s'
  | .ok _ => False
  | .error e => CX outer H s E e s'
structure FnOk (P : Program) (w : World) (K : PySem.W.Frag) (mg : Str → Option Value) (base : Heap) (CX : CXT) (k : Nat) (f : Addr) (fd : FuncData) (ps : List Str) (sp : Sp) : Prop where
  len : ∀ vs H Q E, sp vs H Q E → vs.length = ps.length
  run : ∀ (A : Around) (outer : List Env) (s : Shared) (H : Hp) (args : Args) (us : List Value) (vs : List V) (Q : VK) (E : XK), Room k A → Env0 P w K mg base A outer s H → BindsTo s fd args (ps.zip us) → Vals vs us → sp vs H Q E →
    codeAny (model P w) A (.call (.ref f) args) (CR CX outer P w H s Q E) s
section
variable {X : Cx} {pins : List (Addr × Obj)} {σ : St} {H : Hp} {s s' : Shared}
theorem Inv.env0 (I : Inv X pins σ H s) : Env0 X.prog X.w X.K X.mg X.base X.A X.stack s H :=
  ⟨I.ok.frames, I.ok.mod, I.bs, Nat.le_trans I.ok.bsz I.sz, I.stack, I.stkFree, I.hok, I.bare⟩
theorem Inv.after {Q : VK} {u : Value} (I : Inv X pins σ H s) (h : CE X.stack X.prog X.w H s Q u s') : EP X pins σ Q u s' := by
  obtain ⟨v, H', os, bare, un, hok, r, q⟩ := h
  obtain ⟨hh, g, d, t, os'⟩ := s'
  obtain rfl : os' = s.os := os
  exact ⟨v, H', I.call (h' := hh) (g' := g) (d' := d) (t' := t) (ch := []) un hok bare (fun b z => absurd z (by simp)), r, q⟩
end
def tCall (sp : Sp) (dvs : List V) (E : XK) (t : TA) : TE := fun σ H Q => t σ H fun vs H1 => sp (vs ++ dvs) H1 Q E
def Binds (K : PySem.W.Frag) (fd : FuncData) (ps : List Str) (ds : List Value) : Prop :=
  ∀ (s : Shared) (us : List Value), K.In s.heap → (us ++ ds).length = ps.length → BindsTo s fd ⟨us, []⟩ (ps.zip (us ++ ds))
theorem Binds.all {K : PySem.W.Frag} {fd : FuncData} {ps : List Str} (h : ∀ us : List Value, us.length = ps.length → bindArgs fd ⟨us, []⟩ = pure (ps.zip us)) : Binds K fd ps [] := fun s us _ hl => by
  rw [List.append_nil] at hl ⊢
  exact .of_eq (h us hl)
def Passes (CX : CXT) (X : Cx) (E : XK) : Prop := ∀ (pins : List (Addr × Obj)) (σ : St) (H : Hp) (s : Shared) (e : Value) (s' : Shared), Inv X pins σ H s → CX X.stack H s E e s' → X.xe e s'
section
variable {X : Cx} {CX : CXT} {k : Nat} {f C : Addr} {fd : FuncData} {ps : List Str} {sp : Sp} {dvs : List V} {ds : List Value} {E : XK} {x m : Str} {p pos apos : Pos} {e o : Expr} {es : List Expr} {ta : TE} {t : TA}
theorem run_fn {pins : List (Addr × Obj)} {σ : St} {H : Hp} {s : Shared} {Q : VK} {us : List Value} {vs : List V} (F : FnOk X.prog X.w X.K X.mg X.base CX k f fd ps sp) (hr : Room k X.A) (hb : Binds X.K fd ps ds) (hd : Vals dvs ds) (hx : Passes CX X E)
    (I : Inv X pins σ H s) (r : Vals vs us) (h : sp (vs ++ dvs) H Q E) : wpAny (model X.prog X.w) X.A (call (.ref f) us) (EP X pins σ Q) X.xe s := by
  have r2 : Vals (vs ++ dvs) (us ++ ds) := r.append hd
  have hl : (us ++ ds).length = ps.length := by rw [← r2.length]; exact F.len _ _ _ _ h
  refine wpAny_call (codeAny_mono (F.run X.A X.stack s H ⟨us, []⟩ (us ++ ds) (vs ++ dvs) Q E hr I.env0 (hb s us I.kIn hl) r2 h) fun r s' hq => ?_)
  cases r with
  | error e => exact hx pins σ H s e s' I hq
  | ok fl =>
    cases fl with
    | ret u => exact I.after hq
    | next => exact False.elim hq
    | brk => exact False.elim hq
    | cont => exact False.elim hq
theorem pe_call (F : FnOk X.prog X.w X.K X.mg X.base CX k f fd ps sp) (hr : Room k X.A) (hg : Gl X x) (hm : X.mg x = some (.ref f)) (hk : PySem.W.keepIn X.K (.ref f) = true) (hb : Binds X.K fd ps ds) (hd : Vals dvs ds) (hx : Passes CX X E)
    (ha : PA X (e :: es) t) (hdb : (x == ("__debug__" : Str)) = false := by decide) (he : starEach (e :: es) X.env = (false, eval e X.env) :: starEach es X.env := by rfl) (hpl : (backTo pos (starEach es X.env)).any (·.1) = false := by rfl) :
    PE X (.Call (.Name x p) (e :: es) [] pos) (tCall sp dvs E t) := by
  intro pins s σ H Q I h
  refine wpAny_Call_Name_kw (ld_glob I hg hm ?_ hdb)
  refine PySem.W.callWith_K (h₀ := X.base) I.ok.mod.kin hk (thn (ha pos pins s σ H _ I h) fun us s1 ⟨vs, H1, I1, r, q⟩ => ⟨I1.kIn, ?_⟩) he hpl
  exact run_fn F hr hb hd hx I1 r q
end
section
variable {X : Cx} {CX : CXT} {k : Nat} {f C : Addr} {fd : FuncData} {ps ks : List Str} {sp : Sp} {E : XK} {x m : Str} {p pos apos kpos : Pos} {e o : Expr} {es : List Expr} {kws : List Keyword} {te ta : TE} {t tk : TA} {nm : Option Str}
variable {g : List Value → List Value → List Value} {gV : List V → List V → List V}
end
structure FnScope (N P : List Str) (sc : Scope) : Prop where
  kind : sc.kind = .function
  co : sc.isCoroutine = false
  gen : sc.isGenerator = false
  nd : N.Nodup
  pre : N.take P.length = P
  par : ∀ x ∈ P, sc.names.lookup x = some .local ∨ sc.names.lookup x = some .cell
  nofree : ∀ y ∈ sc.names, y.2 ≠ .free
theorem bindL_out {kindOf : Str → Option NameKind} {x : Str} : ∀ {binds : List (Str × Value)} {m : Str → Option Value}, (∀ v, (x, v) ∉ binds) → bindL kindOf binds m x = m x
  | [], _, _ => rfl
  | (n, v) :: r, m, h => by
    unfold bindL
    rw [bindL_out fun w hw => h w (List.mem_cons_of_mem _ hw)]
    split
    · have : x ≠ n := by rintro rfl; exact h v List.mem_cons_self
      simp [this]
    · rfl
theorem bindC_out {kindOf : Str → Option NameKind} {x : Str} : ∀ {binds : List (Str × Value)} {m : Str → Option Value}, (∀ v, (x, v) ∉ binds) → bindC kindOf binds m x = m x
  | [], _, _ => rfl
  | (n, v) :: r, m, h => by
    unfold bindC
    rw [bindC_out fun w hw => h w (List.mem_cons_of_mem _ hw)]
    split
    · rfl
    · have : x ≠ n := by rintro rfl; exact h v List.mem_cons_self
      simp [this]
theorem bindL_get {kindOf : Str → Option NameKind} {x : Str} {v : Value} : ∀ {P : List Str} {vs : List Value} {i : Nat} {m : Str → Option Value}, P.Nodup → P[i]? = some x → vs[i]? = some v → kindOf x = some .local →
    bindL kindOf (P.zip vs) m x = some v
  | [], _, _, _, _, h, _, _ => by simp at h
  | _ :: _, [], _, _, _, _, h, _ => by simp at h
  | p :: P, w :: vs, 0, m, nd, h1, h2, hk => by
    simp at h1 h2; subst h1; subst h2
    show bindL kindOf ((p, w) :: P.zip vs) m p = _
    unfold bindL
    rw [bindL_out fun v hv => (List.nodup_cons.mp nd).1 (List.of_mem_zip hv).1, if_pos hk]
    simp
  | p :: P, w :: vs, i + 1, m, nd, h1, h2, hk => by
    show bindL kindOf ((p, w) :: P.zip vs) m x = _
    unfold bindL
    exact bindL_get (i := i) (List.nodup_cons.mp nd).2 (by simpa using h1) (by simpa using h2) hk
theorem bindC_get {kindOf : Str → Option NameKind} {x : Str} {v : Value} : ∀ {P : List Str} {vs : List Value} {i : Nat} {m : Str → Option Value}, P.Nodup → P[i]? = some x → vs[i]? = some v → kindOf x ≠ some .local →
    bindC kindOf (P.zip vs) m x = some v
  | [], _, _, _, _, h, _, _ => by simp at h
  | _ :: _, [], _, _, _, _, h, _ => by simp at h
  | p :: P, w :: vs, 0, m, nd, h1, h2, hk => by
    simp at h1 h2; subst h1; subst h2
    show bindC kindOf ((p, w) :: P.zip vs) m p = _
    unfold bindC
    rw [bindC_out fun v hv => (List.nodup_cons.mp nd).1 (List.of_mem_zip hv).1, if_neg hk]
    simp
  | p :: P, w :: vs, i + 1, m, nd, h1, h2, hk => by
    show bindC kindOf ((p, w) :: P.zip vs) m x = _
    unfold bindC
    exact bindC_get (i := i) (List.nodup_cons.mp nd).2 (by simpa using h1) (by simpa using h2) hk
def start (N : List Str) (vs : List V) : St := vs.map some ++ List.replicate (N.length - vs.length) none
def cxOf (CX : CXT) (P : Program) (w : World) (K : PySem.W.Frag) (mg : Str → Option Value) (base : Heap) (N : List Str) (qual : Str) (scope : Scope) (f : Addr) (cd : Value) (A : Around) (outer : List Env) (s : Shared) (H : Hp) (E : XK) : Cx where
  prog := P
  w := w
  K := K
  mg := mg
  base := base
  A := A.deeper (envOfC qual scope s.heap.objs.size f cd)
  N := N
  s₀ := s
  H₀ := H
  env := envOfC qual scope s.heap.objs.size f cd
  outer := outer
  stack := envOfC qual scope s.heap.objs.size f cd :: outer
  ex := []
  calm := true
  fn := fun _ => true
  pn := []
  xe := fun e s' => wpAny (model P w) (A.deeper (envOfC qual scope s.heap.objs.size f cd)) (leaving (envOfC qual scope s.heap.objs.size f cd) e) (fun _ s'' => CX outer H s E e s'') (fun e' s'' => CX outer H s E e' s'') s'
theorem cell_has {sc : Scope} {n : Nat} {x : Str} (h : sc.names.lookup x = some .cell) : ∃ c, (cellsFrom n sc.names []).lookup x = some c := by
  have q := PySem.W.cellsFrom_some sc.names n [] (.inl h)
  exact Option.isSome_iff_exists.mp q
theorem inv_start {CX : CXT} {P : Program} {w : World} {K : PySem.W.Frag} {mg : Str → Option Value} {base : Heap} {N ps : List Str} {qual : Str} {scope : Scope} {f : Addr} {cd : Value} {A : Around} {outer : List Env} {s s1 : Shared} {H : Hp} {E : XK} {us : List Value} {vs : List V}
    (S : FnScope N ps scope) (hd : A.handled = none) (e0 : Env0 P w K mg base A outer s H) (hl : vs.length = ps.length) (r : Vals vs us)
    (x : InCallC s s.heap.objs.size (bindL (envOfC qual scope s.heap.objs.size f cd).kindOf (ps.zip us) fun _ => none) (cellsFrom (s.heap.objs.size + 1) scope.names []) (bindC (envOfC qual scope s.heap.objs.size f cd).kindOf (ps.zip us) fun _ => none) s1) :
    Inv (cxOf CX P w K mg base N qual scope f cd A outer s H E) [] (start N vs) H s1 := by
  have hpl : ps.length ≤ N.length := by have := congrArg List.length S.pre; rw [List.length_take] at this; omega
  obtain ⟨h1, tk, rfl, hk⟩ := x.done
  have noA : ∀ b : Addr, b ∉ (cxOf CX P w K mg base N qual scope f cd A outer s H E).ex := fun b z => absurd (show b ∈ ([] : List Addr) from z) (by simp)
  refine ⟨⟨e0.mod, S.kind, rfl, rfl, Nat.le_refl _, fun y z c h1 h2 => ?_, fun y hy => ?_, fun y c _ h => ?_, fun _ => hd, Around.frames_deeper e0.frames, .inr ⟨rfl, rfl⟩, fun b z => absurd z (noA b), e0.bs, e0.bsz, fun b _ _ => noA b, fun b z => absurd z (noA b), e0.funs, e0.frf⟩,
    rfl, e0.bare, Un.kept hk, ⟨_, x.toInCall.ns, fun i y v h1 h2 h3 => ?_⟩, fun y c h => ⟨_, x.cell y c h⟩, e0.hok.fresh (Nat.le_refl _), fun y c h => ?_, fun p hp => absurd (show p ∈ ([] : List (Addr × Obj)) from hp) (by simp), e0.hok.kept hk, ?_⟩
  · exact name_of_addr x.apart (PySem.mem_of_lookup h1) (PySem.mem_of_lookup h2)
  · have hy : scope.names.lookup y = some .cell ∨ scope.names.lookup y = some .free := hy
    rcases hy with hy | hy
    · exact cell_has hy
    · exact absurd rfl (S.nofree _ (PySem.mem_of_lookup hy))
  · exact Nat.le_of_lt (x.above y c (PySem.mem_of_lookup h))
  · have hi : i < vs.length := by
      unfold start at h2
      by_cases hi : i < vs.length
      · exact hi
      · rw [List.getElem?_append_right (by simpa using hi)] at h2
        rw [List.getElem?_replicate] at h2
        split at h2 <;> cases h2
    have ha : vs[i]? = some v := by
      unfold start at h2
      rw [List.getElem?_append_left (by simpa using hi), List.getElem?_map] at h2
      cases e : vs[i]? with
      | none => rw [e] at h2; cases h2
      | some a => rw [e] at h2; cases h2; rfl
    obtain ⟨u, hu, rv⟩ := r.get ha
    have hp : ps[i]? = some y := by
      rw [← S.pre, List.getElem?_take_of_lt (by omega)]; exact h1
    have ndP : ps.Nodup := by rw [← S.pre]; exact S.nd.sublist (List.take_sublist _ _)
    refine ⟨u, rv, ?_⟩
    rcases S.par y (List.mem_of_getElem? hp) with k | k
    · exact .inl ⟨k, bindL_get ndP hp hu k⟩
    · obtain ⟨c, e⟩ := cell_has (n := s.heap.objs.size + 1) k
      refine .inr ⟨.inl k, c, e, ?_⟩
      have q := x.cell y c e
      rw [bindC_get ndP hp hu (by show scope.names.lookup y ≠ _; rw [k]; decide)] at q
      exact q
  · exact e0.hok.fresh (Nat.le_of_lt (x.above y c (PySem.mem_of_lookup h)))
  · unfold start
    show _ = N.length
    rw [List.length_append, List.length_map, List.length_replicate]
    omega
theorem fn_of {CX : CXT} {P : Program} {w : World} {K : PySem.W.Frag} {mg : Str → Option Value} {base : Heap} {k : Nat} {f : Addr} {name qual : Str} {params : Arguments} {body : List Stmt} {scope : Scope} {dV kV doc pm cdv ct oc : Value} {an od : Option Addr}
    {osl : Array (Option Value)} {N ps : List Str} {sp : Sp} (lk : K.lookup f = some ⟨oc, od, .func (PySem.W.fnOf name qual params body scope dV kV doc pm an cdv ct), osl⟩) (hcd : PySem.W.codeIn K cdv qual = true) (S : FnScope N ps scope)
    (len : ∀ vs H Q E, sp vs H Q E → vs.length = ps.length)
    (hbody : ∀ (A : Around) (outer : List Env) (s : Shared) (H : Hp) (vs : List V) (Q : VK) (E : XK), Room k (A.deeper (envOfC qual scope s.heap.objs.size f cdv)) → sp vs H Q E →
      ∃ t, PSs (cxOf CX P w K mg base N qual scope f cdv A outer s H E) body t ∧ t { nx := fun _ H' => Q .non H', rt := Q } (start N vs) H) :
    FnOk P w K mg base CX (k + 1) f (PySem.W.fnOf name qual params body scope dV kV doc pm an cdv ct) ps sp := by
  refine ⟨len, fun A outer s H args us vs Q E hr e0 hb r hsp => ?_⟩
  have hl := len _ _ _ _ hsp
  have KX : K.In s.heap := e0.mod.kin.keeps fun b o e => (e0.bs b o e).1
  have lim : s.heap.NoLimit := e0.mod.nolimit.keeps fun b o e => (e0.bs b o e).1
  have hkind : ∀ y ∈ ps.zip us, scope.names.lookup y.1 = some .local ∨ (scope.names.lookup y.1 = some .cell ∧ ((cellsFrom (s.heap.objs.size + 1) scope.names []).lookup y.1).isSome = true) := fun ⟨n, v⟩ hy => by
    rcases S.par n (List.of_mem_zip hy).1 with q | q
    · exact .inl q
    · exact .inr ⟨q, PySem.W.cellsFrom_some _ _ _ (.inl q)⟩
  refine codeAny_call_function hr.depth (KX _ _ lk) rfl S.co S.gen rfl (PySem.W.codeRec_of KX hcd) (hb _ _ _ _ ?_)
  refine wpAny_newFunctionEnv_cells S.kind hkind fun env he s1 x => ?_
  subst he
  refine ⟨lim.keeps x.toInCall.keep, codeAny_func ?_⟩
  obtain ⟨t, ht, hq⟩ := hbody A outer s H vs Q E (hr.deeper _) hsp
  have I : Inv (cxOf CX P w K mg base N qual scope f cdv A outer s H E) [] (start N vs) H s1 := inv_start S hr.hd e0 hl r x
  refine wpAny_mono (ht [] s1 (start N vs) H _ I hq) (fun fl s' hs => ?_) fun e s' hs => hs
  have fin : ∀ {σ' : St} {H' : Hp} {v : V} {u : Value}, Inv (cxOf CX P w K mg base N qual scope f cdv A outer s H E) [] σ' H' s' → RelV v u → Q v H' → CE outer P w H s Q u s' :=
    fun {σ' H' v u} J rv q => ⟨v, H', J.os, J.bare, J.base, J.hok, rv, q⟩
  cases fl with
  | ret u =>
    obtain ⟨v, σ', H', J, rv, q⟩ := hs
    exact fin J rv q
  | next =>
    obtain ⟨σ', H', J, q⟩ := hs
    exact fin (v := V.non) (u := Value.none) J rfl q
  | brk =>
    obtain ⟨_, _, _, q⟩ := hs
    exact False.elim q
  | cont =>
    obtain ⟨_, _, _, q⟩ := hs
    exact False.elim q
end L2
namespace L2
open PySem PySem.Spec PyProof.Rows
section
variable {X : Cx} {x : Str} {p pos : Pos} {e : Expr} {es : List Expr} {t : TA} {id T : String} {r : List V → Hp → VK → Prop}
def tCB (r : List V → Hp → VK → Prop) (t : TA) : TE := fun σ H Q => t σ H fun vs H1 => r vs H1 Q
theorem pe_callB (hc : CallR X (.builtin id) r) (hg : Gl X x) (hm : X.mg x = none) (hv : bootBuiltins x = some (.builtin id)) (ha : PA X (e :: es) t) (hn : x ≠ "__name__" := by decide) (hdb : (x == ("__debug__" : Str)) = false := by decide)
    (he : starEach (e :: es) X.env = (false, eval e X.env) :: starEach es X.env := by rfl) (hpl : (backTo pos (starEach es X.env)).any (·.1) = false := by rfl) : PE X (.Call (.Name x p) (e :: es) [] pos) (tCB r t) := by
  intro pins s σ H Q I h
  refine wpAny_Call_Name_kw (ld_blt I hg hm hv ?_ hn hdb)
  exact PyProof.Rows.callWith_builtin1 (thn (ha pos pins s σ H _ I h) fun us s1 ⟨vs, H1, I1, r1, q1⟩ => hc pins s1 σ H1 vs us Q I1 r1 q1) he hpl
theorem pe_callTy (hc : CallR X (.type T) r) (hg : Gl X x) (hm : X.mg x = none) (hv : bootBuiltins x = some (.type T)) (ha : PA X (e :: es) t) (hn : x ≠ "__name__" := by decide) (hdb : (x == ("__debug__" : Str)) = false := by decide)
    (he : starEach (e :: es) X.env = (false, eval e X.env) :: starEach es X.env := by rfl) (hpl : (backTo pos (starEach es X.env)).any (·.1) = false := by rfl) : PE X (.Call (.Name x p) (e :: es) [] pos) (tCB r t) := by
  intro pins s σ H Q I h
  refine wpAny_Call_Name_kw (ld_blt I hg hm hv ?_ hn hdb)
  exact PyProof.Rows.callWith_type1 (thn (ha pos pins s σ H _ I h) fun us s1 ⟨vs, H1, I1, r1, q1⟩ => hc pins s1 σ H1 vs us Q I1 r1 q1) he hpl
end
end L2
namespace HT
open PySem PyProof.Rows
section
open PySem.SeqAt
open PySem.AutoSeq1 (wpAny_loadPart')
open PySem.MeetsSeq PySem.MeetsSeq2 PySem.MeetsSeq3
end
section
variable {prog : Program} {w : World} {A : Around} {E : Value → Shared → Prop} {s : Shared}
def sIx (n d : Nat) : Option Int → Nat
  | none => d
  | some v => if v < 0 then (v + (n : Int)).toNat else min v.toNat n
theorem sIx_none (n d : Nat) : sIx n d none = d := rfl
theorem sIx_nat (n d k : Nat) : sIx n d (some (k : Int)) = min k n := by
  show (if (k : Int) < 0 then ((k : Int) + (n : Int)).toNat else min (k : Int).toNat n) = min k n
  rw [if_neg (by omega), Int.toNat_natCast]
end
end HT
namespace L2
open PySem PySem.Spec PyProof.Rows
abbrev TO := St → Hp → (Option Int → Hp → Prop) → Prop
def PO (X : Cx) (e : Option Expr) (t : TO) : Prop :=
  ∀ (pins : List (Addr × Obj)) (s : Shared) (σ : St) (H : Hp) (Q : Option Int → Hp → Prop), Inv X pins σ H s → t σ H Q →
    wpAny (model X.prog X.w) X.A (evalPart e X.env) (fun u s' => ∃ o H', Inv X pins σ H' s' ∧ IsPart u o ∧ Q o H') X.xe s
def tNoPart : TO := fun _ H Q => Q none H
def tPart (t : TE) : TO := fun σ H Q => t σ H fun x H1 => ∃ i, x = .int i ∧ Q (some i) H1
section
variable {X : Cx} {e : Expr} {te : TE} {lo hi : Option Expr} {tl th : TO} {pos p2 : Pos}
theorem po_none : PO X none tNoPart := by
  intro pins s σ H Q I h
  rw [evalPart_none]
  exact wpAny_pure ⟨none, H, I, .none, h⟩
theorem po_some (h : PE X e te) : PO X (some e) (tPart te) := by
  intro pins s σ H Q I hw
  rw [evalPart_some]
  refine thn (h pins s σ H _ I hw) fun u s1 ⟨x, H1, I1, r1, q1⟩ => ?_
  obtain ⟨i, rfl, q⟩ := q1
  obtain ⟨t, rfl⟩ := r1
  exact ⟨some i, H1, I1, .int i t, q⟩
def SlR (X : Cx) (r : V → Option Int → Option Int → Hp → VK → Prop) : Prop :=
  ∀ (pins : List (Addr × Obj)) (s : Shared) (σ : St) (H : Hp) (x : V) (v vl vu : Value) (lo hi : Option Int) (sl : Addr) (Q : VK), Inv X pins σ H s → RelV x v → s.heap.IsSliceOf sl vl vu .none → IsPart vl lo → IsPart vu hi → r x lo hi H Q →
    ∃ T id, typeLookup (.type T) "__getitem__" = pure (some (.builtin id)) ∧ s.TypeIs v T ∧ wpAny (model X.prog X.w) X.A (getItem v (.ref sl)) (EP X pins σ Q) X.xe s
def tSl (r : V → Option Int → Option Int → Hp → VK → Prop) (te : TE) (tl th : TO) : TE := fun σ H Q => te σ H fun x H1 => tl σ H1 fun l H2 => th σ H2 fun u H3 => r x l u H3 Q
theorem pe_slice {r : V → Option Int → Option Int → Hp → VK → Prop} (hr : SlR X r) (he : PE X e te) (hl : PO X lo tl) (hu : PO X hi th) : PE X (.Subscript e (.Slice lo hi none p2) pos) (tSl r te tl th) := by
  intro pins s σ H Q I h
  refine Subscript_ (thn (he pins s σ H _ I h) fun v s1 ⟨x, H1, I1, r1, q1⟩ => ?_)
  refine wpAny_Slice (thn (hl pins s1 σ H1 _ I1 q1) fun vl s2 ⟨l, H2, I2, pl, q2⟩ => thn (hu pins s2 σ H2 _ I2 q2) fun vu s3 ⟨u, H3, I3, pu, q3⟩ => ?_)
  rw [evalPart_none]
  refine wpAny_pure ?_
  have I4 : Inv X pins σ H3 { s3 with heap := s3.heap.push { cls := .type "slice", data := .fields #[vl, vu, .none] } } := I3.kept (t' := s3.toks) fun b ob q => Heap.get?_push_of_some _ q
  obtain ⟨T, id, hT, ht, hg⟩ := hr pins { s3 with heap := s3.heap.push { cls := .type "slice", data := .fields #[vl, vu, .none] } } σ H3 x v vl vu l u s3.heap.objs.size Q I4 r1 (Heap.IsSliceOf.new ..) pl pu q3
  show wpAny (model X.prog X.w) X.A (subscriptTail e (.Slice lo hi none p2) v (.ref s3.heap.objs.size)) (EP X pins σ Q) X.xe { s3 with heap := s3.heap.push { cls := .type "slice", data := .fields #[vl, vu, .none] } }
  exact tail_any (ops := [.ref s3.heap.objs.size, v]) ht hT hg (by with_unfolding_all rfl)
def cutV (xs : List V) (lo hi : Option Int) : List V := (xs.drop (HT.sIx xs.length 0 lo)).take (HT.sIx xs.length xs.length hi - HT.sIx xs.length 0 lo)
theorem cutV_length (xs : List V) (lo hi : Option Int) : (cutV xs lo hi).length ≤ xs.length := by
  unfold cutV
  rw [List.length_take, List.length_drop]
  omega
end
end L2
namespace L2
open PySem PySem.Spec PyProof.Rows
def ixN (n : Nat) (i : Int) : Option Nat := if 0 ≤ i then (if i < n then some i.toNat else none) else if -(n : Int) ≤ i then some (i + n).toNat else none
def atI {α : Type} (xs : List α) (i : Int) : Option α := (ixN xs.length i).bind fun j => xs[j]?
theorem ixN_seq {n : Nat} {i : Int} {j : Nat} (h : ixN n i = some j) : seqIndex? i n = some j ∧ j < n ∧ -(n : Int) ≤ i ∧ i < n := by
  unfold ixN at h
  by_cases h0 : 0 ≤ i
  · rw [if_pos h0] at h
    by_cases h1 : i < n
    · rw [if_pos h1] at h
      have e : i.toNat = j := Option.some.inj h
      exact ⟨by rw [seqIndex_of h0 h1, e], by omega, by omega, h1⟩
    · rw [if_neg h1] at h; cases h
  · rw [if_neg h0] at h
    by_cases h1 : -(n : Int) ≤ i
    · rw [if_pos h1] at h
      have e : (i + n).toNat = j := Option.some.inj h
      exact ⟨by rw [seqIndex_neg (by omega) h1, e], by omega, h1, by omega⟩
    · rw [if_neg h1] at h; cases h
theorem atI_get {α : Type} {xs : List α} {i : Int} {v : α} (h : atI xs i = some v) : ∃ j, seqIndex? i xs.length = some j ∧ xs[j]? = some v ∧ j < xs.length ∧ -(xs.length : Int) ≤ i ∧ i < xs.length := by
  unfold atI at h
  cases e : ixN xs.length i with
  | none => rw [e] at h; cases h
  | some j =>
    rw [e] at h
    obtain ⟨h1, h2, h3, h4⟩ := ixN_seq e
    exact ⟨j, h1, h, h2, h3, h4⟩
theorem atI_last {α : Type} (xs : List α) (v : α) : atI (xs ++ [v]) (-1) = some v := by
  have hl : (xs ++ [v]).length = xs.length + 1 := by simp
  have e : ixN (xs ++ [v]).length (-1) = some xs.length := by
    unfold ixN
    rw [hl, if_neg (by decide), if_pos (by omega)]
    congr 1
    omega
  unfold atI
  rw [e]
  show (xs ++ [v])[xs.length]? = some v
  simp
def PlainIx (b : Expr) : Prop := ∀ o i, subscripted b false o i = operate [o, i] (getItem o i)
def IxR (X : Cx) (r : R2) : Prop :=
  ∀ (value slice : Expr) (pins : List (Addr × Obj)) (s : Shared) (σ : St) (H : Hp) (x y : V) (v u : Value) (Q : VK), Inv X pins σ H s → RelV x v → RelV y u → r x y H Q →
    subscripted slice false v u = operate [v, u] (getItem v u) → wpAny (model X.prog X.w) X.A (subscriptTail value slice v u) (EP X pins σ Q) X.xe s
def MtR (X : Cx) (id : String) (r : V → List V → Hp → VK → Prop) : Prop :=
  ∀ (pins : List (Addr × Obj)) (s : Shared) (σ : St) (H : Hp) (x : V) (xs : List V) (v : Value) (us : List Value) (Q : VK), Inv X pins σ H s → RelV x v → Vals xs us → r x xs H Q →
    wpAny (model X.prog X.w) X.A (call (.builtin id) (v :: us)) (EP X pins σ Q) X.xe s
section
variable {X : Cx} {a b : Expr} {ta tb : TE} {pos : Pos}
theorem pe_ix {r : R2} (hr : IxR X r) (ha : PE X a ta) (hb : PE X b tb) (hs : PlainIx b) : PE X (.Subscript a b pos) (tOp r ta tb) := by
  intro pins s σ H Q I h
  exact Subscript_ (binT ha hb I h fun v u s2 x y H2 I2 rx ry q => hr a b pins s2 σ H2 x y v u Q I2 rx ry q (hs _ _))
def rIxL (K : PySem.W.Frag) : R2 := fun x y H Q => ∃ p xs i v, x = .ref p ∧ y = .int i ∧ SqL K H p xs ∧ atI xs i = some v ∧ Q v H
def rIxT (K : PySem.W.Frag) : R2 := fun x y H Q => ∃ p xs i v, x = .ref p ∧ y = .int i ∧ SqT K H p xs ∧ atI xs i = some v ∧ Q v H
def rIxS : R2 := fun x y H Q => ∃ z i c, x = .str z ∧ y = .int i ∧ z.length ≤ sizeLine ∧ atI z.cps.toList i = some c ∧ Q (.str ⟨#[c]⟩) H
theorem ix_list : IxR X (rIxL X.K) := by
  intro value slice pins s σ H x y v u Q I rx ry h hs
  obtain ⟨p, xs, i, z, rfl, rfl, hq, he, q⟩ := h
  cases rx
  obtain ⟨t, rfl⟩ := ry
  obtain ⟨its, r, pl, hz⟩ := I.list hq
  obtain ⟨j, h1, h2, h3, h4, h5⟩ := atI_get he
  obtain ⟨w, ew, rw'⟩ := r.get h2
  have hl := r.length
  have hn := line63
  have fin : EP X pins σ Q w s := ⟨z, H, I, rw', q⟩
  by_cases h0 : 0 ≤ i
  · have hj : i.toNat = j := by
      rw [seqIndex_of h0 h5] at h1
      exact Option.some.inj h1
    exact item_listR pl.isList h0 (by omega) (by rw [hj]; simpa using ew) fin hs
  · have hj : (i + (its.toArray.size : Int)).toNat = j := by
      rw [seqIndex_neg (by omega) h4] at h1
      rw [List.size_toArray, ← hl]
      exact Option.some.inj h1
    exact subscriptTail_builtinR (x := w) pl.isList.typeIs slot_list_getitem.lookup
      (wpAny_getItem_list_neg (Q := fun r s' => r = w ∧ EP X pins σ Q r s') pl.isList (by omega) (by rw [List.size_toArray] <;> omega) (by omega) (by rw [hj]; simpa using ew) ⟨rfl, fin⟩) hs
theorem ix_tup : IxR X (rIxT X.K) := by
  intro value slice pins s σ H x y v u Q I rx ry h hs
  obtain ⟨p, xs, i, z, rfl, rfl, hq, he, q⟩ := h
  cases rx
  obtain ⟨t, rfl⟩ := ry
  obtain ⟨its, r, pl, hz⟩ := I.tuple hq
  obtain ⟨j, h1, h2, h3, h4, h5⟩ := atI_get he
  obtain ⟨w, ew, rw'⟩ := r.get h2
  have hl := r.length
  have hn := line63
  have fin : EP X pins σ Q w s := ⟨z, H, I, rw', q⟩
  exact subscriptTail_builtinR (x := w) pl.typeIs slot_tuple_getitem.lookup
    (getItem_tuple (j := j) (Q := fun r s' => r = w ∧ EP X pins σ Q r s') pl (by omega) (by omega) (by rw [List.size_toArray, ← hl]; exact h1) (by simpa using ew) ⟨rfl, fin⟩) hs
theorem ix_str : IxR X rIxS := by
  intro value slice pins s σ H x y v u Q I rx ry h hs
  obtain ⟨z, i, c, rfl, rfl, hz, he, q⟩ := h
  obtain ⟨t, rfl⟩ := rx
  obtain ⟨t', rfl⟩ := ry
  obtain ⟨j, h1, h2, h3, h4, h5⟩ := atI_get he
  have hl : z.cps.toList.length = z.length := by simp [Str.length]
  rw [hl] at h1 h4 h5
  have hn := line63
  exact tail_any (typeIs_str s z t) slot_str_getitem.lookup (getItem_str (c := c) (by
    have e1 : decide (i < -(2 ^ 63 : Int)) = false := decide_eq_false (by omega)
    have e2 : decide (i ≥ 2 ^ 63) = false := decide_eq_false (by omega)
    rw [e1, e2, Bool.or_false]) (by rw [h1]; simpa using h2) ⟨.str ⟨#[c]⟩, H, I.tok _, ⟨_, rfl⟩, q⟩) hs
theorem mapSeq_set (its : List Value) (n j : Nat) (u : Value) : Obj.mapSeq (·.setIfInBounds j u) { cls := .type "list", data := .seq its.toArray n } = { cls := .type "list", data := .seq (its.set j u).toArray n } := by
  simp [Obj.mapSeq]
theorem Inv.lst {pins : List (Addr × Obj)} {σ : St} {H : Hp} {s : Shared} {p : Addr} {xs : List V} (I : Inv X pins σ H s) (h : H p = some (.lst xs)) :
    ∃ (its : List Value) (n : Nat), Vals xs its ∧ s.heap.get? p = some { cls := .type "list", data := .seq its.toArray n } ∧ xs.length ≤ sizeLine := by
  obtain ⟨z, its, n, r, e⟩ := I.hok p _ h
  exact ⟨its, n, r, e, z⟩
theorem Inv.lstUpd {pins : List (Addr × Obj)} {σ : St} {H : Hp} {s : Shared} {p : Addr} {xs ys : List V} {its its' : List Value} {n n' : Nat} {f : Obj → Obj} (I : Inv X pins σ H s) (h : H p = some (.lst xs))
    (ho : s.heap.get? p = some { cls := .type "list", data := .seq its.toArray n }) (hf : f { cls := .type "list", data := .seq its.toArray n } = { cls := .type "list", data := .seq its'.toArray n' }) (r : Vals ys its') (hz : ys.length ≤ sizeLine) (t : Nat) :
    Inv X pins σ (upd H p (.lst ys)) { s with heap := s.heap.update p f, toks := t } := by
  have e : (s.heap.update p f).get? p = some { cls := .type "list", data := .seq its'.toArray n' } := by
    rw [Heap.get?_update_self f ho (by rw [hf] <;> rfl), hf]
  refine I.write (x := p) (e := p) (by rw [h]; trivial) (.inl rfl) (fun b u hb q => (Heap.get?_update_other _ _ (Ne.symm hb)).trans q) ⟨_, e⟩ ?_
  exact ⟨hz, its', n', r, e⟩
def rSetL : V → V → V → Hp → (Hp → Prop) → Prop := fun o i v H Q => ∃ p xs k j, o = .ref p ∧ i = .int k ∧ H p = some (.lst xs) ∧ ixN xs.length k = some j ∧ Q (upd H p (.lst (xs.set j v)))
theorem set_list : PSet X rSetL := by
  intro pins s σ H o i v ov iv u Q I ro ri rv h
  obtain ⟨p, xs, k, j, rfl, rfl, hp, hj, q⟩ := h
  cases ro
  obtain ⟨t, rfl⟩ := ri
  obtain ⟨its, n, r, ho, hz⟩ := I.lst hp
  obtain ⟨h1, h2, h3, h4⟩ := ixN_seq hj
  have hl := r.length
  have hn := line63
  have I' : Inv X pins σ (upd H p (.lst (xs.set j v))) { s with heap := s.heap.update p (Obj.mapSeq (·.setIfInBounds j u)) } :=
    I.lstUpd hp ho (mapSeq_set its n j u) (r.set rv j) (by rw [List.length_set]; exact hz) s.toks
  by_cases h0 : 0 ≤ k
  · have hk : k.toNat = j := by
      rw [seqIndex_of h0 h4] at h1
      exact Option.some.inj h1
    exact PySem.W.ki_setAt ho h0 (by omega) (by rw [List.size_toArray, ← hl]; exact h4) (by rw [hk]; exact ⟨_, I', q⟩)
  · have hk : (k + (its.toArray.size : Int)).toNat = j := by
      rw [seqIndex_neg (by omega) h3] at h1
      rw [List.size_toArray, ← hl]
      exact Option.some.inj h1
    exact PySem.W.ki_setBack ho (by omega) (by rw [List.size_toArray, ← hl]; exact h3) (by omega) (by rw [hk]; exact ⟨_, I', q⟩)
theorem slice_bounds (lo hi : Option Int) (n : Nat) : (sliceBounds lo hi none n).1 = ((HT.sIx n 0 lo : Nat) : Int) ∧ (sliceBounds lo hi none n).2.1 = ((HT.sIx n n hi : Nat) : Int) ∧ (sliceBounds lo hi none n).2.2 = 1 := by
  refine ⟨?_, ?_, rfl⟩
  · cases lo with
    | none => simp [sliceBounds, HT.sIx]
    | some i =>
      simp only [sliceBounds, HT.sIx, Option.getD_none, show (1 : Int) > 0 by decide, if_true]
      by_cases h : i < 0
      · simp only [h, if_true] <;> omega
      · simp only [h, if_false] <;> omega
  · cases hi with
    | none => simp [sliceBounds, HT.sIx]
    | some i =>
      simp only [sliceBounds, HT.sIx, Option.getD_none, show (1 : Int) > 0 by decide, if_true]
      by_cases h : i < 0
      · simp only [h, if_true] <;> omega
      · simp only [h, if_false] <;> omega
theorem slicePick_cut (its : List Value) (lo hi : Option Int) : slicePick its.toArray lo hi none = ((its.drop (HT.sIx its.length 0 lo)).take (HT.sIx its.length its.length hi - HT.sIx its.length 0 lo)).toArray := by
  obtain ⟨h1, h2, h3⟩ := slice_bounds lo hi its.toArray.size
  unfold slicePick
  rw [h1, h2, h3]
  simp only [sliceRange_one, pick_run, List.size_toArray] <;> rfl
def rSlL (K : PySem.W.Frag) : V → Option Int → Option Int → Hp → VK → Prop := fun x lo hi H Q => ∃ a xs, x = .ref a ∧ SqL K H a xs ∧ ∀ p, H p = none → Q (.ref p) (upd H p (.lst (cutV xs lo hi)))
theorem sl_list : SlR X (rSlL X.K) := by
  intro pins s σ H x v vl vu lo hi sl Q I rx hs pl pu h
  obtain ⟨a, xs, rfl, hx, q⟩ := h
  cases rx
  obtain ⟨its, r, ht, hz⟩ := I.list hx
  have hlen := r.length
  refine ⟨"list", _, slot_list_getitem.lookup, ht.isList.typeIs, ?_⟩
  refine wpAny_getItem_list_slice ht.isList hs pl pu .none (by simp) ?_ (by rw [List.size_toArray] <;> omega)
  rw [slicePick_cut, ← hlen]
  refine ⟨.ref s.heap.objs.size, _, I.laid (t' := s.toks) (o := .lst (cutV xs lo hi)) (fun b ob q => Heap.get?_push_of_some _ q) (Nat.le_refl _) ?_, rfl, q _ (I.hok.fresh (Nat.le_refl _))⟩
  exact ⟨Nat.le_trans (cutV_length xs lo hi) hz, _, 0, (r.drop (HT.sIx xs.length 0 lo)).take (HT.sIx xs.length xs.length hi - HT.sIx xs.length 0 lo), Heap.get?_push_size _ rfl⟩
def flatV : V → Bool
  | .non => true
  | .bl _ => true
  | .int _ => true
  | .str _ => true
  | _ => false
def eqV : V → V → Bool
  | .non, .non => true
  | .bl a, .bl b => a == b
  | .bl a, .int b => (if a then 1 else 0) == b
  | .int a, .bl b => a == (if b then 1 else 0)
  | .int a, .int b => a == b
  | .str a, .str b => a == b
  | _, _ => false
theorem eqAt_V {A : Around} {s : Shared} {y x : V} {u v : Value} (ry : RelV y u) (rx : RelV x v) (fy : flatV y = true) (fx : flatV x = true) : SeqAt.EqAt A s u v (eqV y x) := by
  cases y with
  | non =>
    cases ry
    cases x with
    | non => cases rx; exact SeqAt.EqAt.same _
    | bl b => cases rx; exact SeqAt.EqAt.none_bool b
    | int b => obtain ⟨t, rfl⟩ := rx; exact SeqAt.EqAt.none_int b t
    | str b => obtain ⟨t, rfl⟩ := rx; exact SeqAt.EqAt.none_str b t
    | _ => exact absurd (show false = true from fx) Bool.false_ne_true
  | bl a =>
    cases ry
    cases x with
    | non => cases rx; exact SeqAt.EqAt.bool_none a
    | bl b => cases rx; exact SeqAt.EqAt.bool_bool a b
    | int b => obtain ⟨t, rfl⟩ := rx; exact SeqAt.EqAt.bool_int a b t
    | str b => obtain ⟨t, rfl⟩ := rx; exact SeqAt.EqAt.bool_str a b t
    | _ => exact absurd (show false = true from fx) Bool.false_ne_true
  | int a =>
    obtain ⟨t', rfl⟩ := ry
    cases x with
    | non => cases rx; exact SeqAt.EqAt.int_none a t'
    | bl b => cases rx; exact SeqAt.EqAt.int_bool a t' b
    | int b => obtain ⟨t, rfl⟩ := rx; exact SeqAt.EqAt.int_int a t' b t
    | str b => obtain ⟨t, rfl⟩ := rx; exact SeqAt.EqAt.int_str a t' b t
    | _ => exact absurd (show false = true from fx) Bool.false_ne_true
  | str a =>
    obtain ⟨t', rfl⟩ := ry
    cases x with
    | non => cases rx; exact SeqAt.EqAt.str_none a t'
    | bl b => cases rx; exact SeqAt.EqAt.str_bool a t' b
    | int b => obtain ⟨t, rfl⟩ := rx; exact SeqAt.EqAt.str_int a t' b t
    | str b => obtain ⟨t, rfl⟩ := rx; exact SeqAt.EqAt.str_str a t' b t
    | _ => exact absurd (show false = true from fx) Bool.false_ne_true
  | _ => exact absurd (show false = true from fy) Bool.false_ne_true
def eqU (x : V) (u : Value) : Bool := match u with
  | .none => eqV .non x
  | .bool b => eqV (.bl b) x
  | .int i _ => eqV (.int i) x
  | .str z _ => eqV (.str z) x
  | _ => false
theorem eqU_of {x y : V} {u : Value} (r : RelV y u) (f : flatV y = true) : eqU x u = eqV y x := by
  cases y with
  | non => cases r; rfl
  | bl b => cases r; rfl
  | int i => obtain ⟨t, rfl⟩ := r; rfl
  | str z => obtain ⟨t, rfl⟩ := r; rfl
  | _ => exact absurd (show false = true from f) Bool.false_ne_true
theorem any_eqU {x : V} : ∀ {xs : List V} {us : List Value}, Vals xs us → xs.all flatV = true → us.any (eqU x) = xs.any fun y => eqV y x
  | _, _, .nil, _ => rfl
  | y :: xs, u :: us, .cons r t, f => by
    rw [List.all_cons, Bool.and_eq_true] at f
    rw [List.any_cons, List.any_cons, eqU_of r f.1, any_eqU t f.2]
theorem mem_eqAt {A : Around} {s : Shared} {x : V} {v : Value} (rx : RelV x v) (fx : flatV x = true) : ∀ {xs : List V} {us : List Value}, Vals xs us → xs.all flatV = true → ∀ u ∈ us, SeqAt.EqAt A s u v (eqU x u)
  | _, _, .nil, _ => fun u hu => by cases hu
  | y :: xs, u :: us, .cons r t, f => fun u' hu => by
    rw [List.all_cons, Bool.and_eq_true] at f
    rcases List.mem_cons.mp hu with rfl | hu
    · rw [eqU_of r f.1]; exact eqAt_V r rx f.1 fx
    · exact mem_eqAt rx fx t f.2 u' hu
def inV (x : V) (xs : List V) : Bool := xs.any fun y => eqV y x
def rIn (K : PySem.W.Frag) (neg : Bool) : R2 := fun x y H Q => ∃ p xs, y = .ref p ∧ (SqL K H p xs ∨ SqT K H p xs) ∧ flatV x = true ∧ xs.all flatV = true ∧ Q (.bl (if neg then !inV x xs else inV x xs)) H
theorem op_in_seq : OpR X (compareOp .In) (rIn X.K false) := by
  intro pins s σ H x y v u Q I rx ry h
  obtain ⟨p, xs, rfl, hq, fx, fs, q⟩ := h
  cases ry
  rcases hq with hq | hq
  · obtain ⟨its, r, pl, hz⟩ := I.list hq
    refine SeqAt.in_listAt (eqU x) pl.isList (fun w hw => mem_eqAt rx fx r fs w (by simpa using hw)) ⟨.bl _, H, I, rfl, ?_⟩
    rw [show its.toArray.any (eqU x) = its.any (eqU x) by simp, any_eqU r fs]
    exact q
  · obtain ⟨its, r, pl, hz⟩ := I.tuple hq
    refine SeqAt.in_tupleAt (eqU x) pl (fun w hw => mem_eqAt rx fx r fs w (by simpa using hw)) ⟨.bl _, H, I, rfl, ?_⟩
    rw [show its.toArray.any (eqU x) = its.any (eqU x) by simp, any_eqU r fs]
    exact q
theorem op_notIn_seq : OpR X (compareOp .NotIn) (rIn X.K true) := by
  intro pins s σ H x y v u Q I rx ry h
  obtain ⟨p, xs, rfl, hq, fx, fs, q⟩ := h
  cases ry
  rcases hq with hq | hq
  · obtain ⟨its, r, pl, hz⟩ := I.list hq
    refine SeqAt.notIn_listAt (eqU x) pl.isList (fun w hw => mem_eqAt rx fx r fs w (by simpa using hw)) ⟨.bl _, H, I, rfl, ?_⟩
    rw [show its.toArray.any (eqU x) = its.any (eqU x) by simp, any_eqU r fs]
    exact q
  · obtain ⟨its, r, pl, hz⟩ := I.tuple hq
    refine SeqAt.notIn_tupleAt (eqU x) pl (fun w hw => mem_eqAt rx fx r fs w (by simpa using hw)) ⟨.bl _, H, I, rfl, ?_⟩
    rw [show its.toArray.any (eqU x) = its.any (eqU x) by simp, any_eqU r fs]
    exact q
theorem call_len_seq : CallR X (.builtin "len") (fun xs H Q => ∃ p ys, xs = [.ref p] ∧ (SqL X.K H p ys ∨ SqT X.K H p ys) ∧ Q (.int ys.length) H) := by
  intro pins s σ H xs us Q I r h
  obtain ⟨p, ys, rfl, hq, q⟩ := h
  obtain ⟨u, rfl, rx⟩ := vals1 r
  cases rx
  have hn := line63
  rcases hq with hq | hq
  · obtain ⟨its, r', pl, hz⟩ := I.list hq
    have hlen := r'.length
    exact Calls.call_len_list pl.isList (by simp only [List.size_toArray] <;> omega) ⟨.int ys.length, H, I.tok _, ⟨s.toks + 1, by rw [List.size_toArray, hlen]⟩, q⟩
  · obtain ⟨its, r', pl, hz⟩ := I.tuple hq
    have hlen := r'.length
    exact len_tuple pl (by simp only [List.size_toArray] <;> omega) ⟨.int ys.length, H, I.tok _, ⟨s.toks + 1, by rw [List.size_toArray, hlen]⟩, q⟩
theorem call_len_str : CallR X (.builtin "len") (fun xs H Q => ∃ z, xs = [.str z] ∧ z.length ≤ sizeLine ∧ Q (.int z.length) H) := by
  intro pins s σ H xs us Q I r h
  obtain ⟨z, rfl, hz, q⟩ := h
  obtain ⟨u, rfl, t, rfl⟩ := vals1 r
  have hn := line63
  exact len_str (by omega) ⟨.int z.length, H, I.tok _, ⟨_, rfl⟩, q⟩
theorem call_list_of : CallR X (.type "list") (fun xs H Q => ∃ p ys, xs = [.ref p] ∧ (SqL X.K H p ys ∨ SqT X.K H p ys) ∧ ∀ l, H l = none → Q (.ref l) (upd H l (.lst ys))) := by
  intro pins s σ H xs us Q I r h
  obtain ⟨p, ys, rfl, hq, q⟩ := h
  obtain ⟨u, rfl, rx⟩ := vals1 r
  cases rx
  have fin : ∀ (its : List Value), Vals ys its → ys.length ≤ sizeLine → ∀ (h' : Heap) (c' : Nat), (∀ b o', s.heap.get? b = some o' → h'.get? b = some o') →
      h'.get? s.heap.objs.size = some { cls := .type "list", dict := none, data := .seq its.toArray c', slots := #[] } → EP X pins σ Q (.ref s.heap.objs.size) { s with heap := h' } := fun its r' hz h' c' kp e =>
    ⟨.ref s.heap.objs.size, _, I.laid (t' := s.toks) kp (Nat.le_refl _) (show ObjOk X.prog X.w _ h' _ (.lst ys) from ⟨hz, its, c', r', e⟩), rfl, q _ (I.hok.fresh (Nat.le_refl _))⟩
  rcases hq with hq | hq
  · obtain ⟨its, r', pl, hz⟩ := I.list hq
    have hlen := r'.length
    obtain ⟨o, ho, hc, n, hd⟩ := pl.isList
    exact call_list_seq p (.inl rfl) ho hc hd (fun h' c' kp e => fin its r' hz h' c' kp e) (by simp only [List.size_toArray] <;> omega)
  · obtain ⟨its, r', pl, hz⟩ := I.tuple hq
    have hlen := r'.length
    obtain ⟨o, ho, hc, n, hd⟩ := pl
    exact call_list_seq p (.inr rfl) ho hc hd (fun h' c' kp e => fin its r' hz h' c' kp e) (by simp only [List.size_toArray] <;> omega)
def tyV (K : PySem.W.Frag) (T : String) (x : V) (H : Hp) : Prop := match x with
  | .str _ => T = "str"
  | .int _ => T = "int"
  | .ref p => (T = "list" ∧ ∃ xs, SqL K H p xs) ∨ (T = "tuple" ∧ ∃ o, K.lookup p = some o ∧ o.cls = .type "tuple" ∧ o.dict = none) ∨
      (T = "dict" ∧ ((∃ kvs, H p = some (.dK kvs)) ∨ ∃ kvs, H p = some (.dT kvs))) ∨ (T = "set" ∧ ∃ S n, H p = some (.set S n))
  | _ => False
theorem tyV_is {pins : List (Addr × Obj)} {σ : St} {H : Hp} {s : Shared} {T : String} {x : V} {v : Value} (I : Inv X pins σ H s) (r : RelV x v) (ty : tyV X.K T x H) :
    s.TypeIs v T ∧ ∀ a, v = .ref a → ∃ ob, s.heap.get? a = some ob ∧ ob.dict = none := by
  cases x with
  | str z =>
    obtain ⟨t, rfl⟩ := r
    cases (show T = "str" from ty)
    exact ⟨typeIs_str s z t, fun _ e => nomatch e⟩
  | int i =>
    obtain ⟨t, rfl⟩ := r
    cases (show T = "int" from ty)
    exact ⟨typeIs_int s i t, fun _ e => nomatch e⟩
  | ref p =>
    cases r
    rcases ty with ⟨rfl, xs, hq⟩ | ⟨rfl, o, hk, hc, hd⟩ | ⟨rfl, hk⟩ | ⟨rfl, S, n, hk⟩
    · obtain ⟨its, _, pl, _⟩ := I.list hq
      refine ⟨pl.isList.typeIs, fun a e => ?_⟩
      cases e
      obtain ⟨o, n, e, c, hd, _⟩ := pl
      exact ⟨o, e, hd⟩
    · refine ⟨⟨o, I.kIn p o hk, hc⟩, fun a e => ?_⟩
      cases e
      exact ⟨o, I.kIn _ o hk, hd⟩
    · have z : ∃ o, s.heap.get? p = some o ∧ o.ExactDict := by
        rcases hk with ⟨kvs, hk⟩ | ⟨kvs, hk⟩
        · obtain ⟨_, _, _, _, o, _, _, e, ex, _⟩ := I.hok p _ hk
          exact ⟨o, e, ex⟩
        · obtain ⟨_, _, _, _, o, _, _, e, ex, _⟩ := I.hok p _ hk
          exact ⟨o, e, ex⟩
      obtain ⟨o, e, ex⟩ := z
      refine ⟨⟨o, e, ex.1⟩, fun a e2 => ?_⟩
      cases e2
      exact ⟨o, e, ex.2.1⟩
    · obtain ⟨o, _, _, _, e, ex, _⟩ := I.hok p _ hk
      refine ⟨⟨o, e, ex.1⟩, fun a e2 => ?_⟩
      cases e2
      exact ⟨o, e, ex.2.1⟩
  | _ => exact False.elim ty
def tBM0 (K : PySem.W.Frag) (T : String) (r : V → List V → Hp → VK → Prop) (to : TE) : TE := fun σ H Q => to σ H fun x H1 => tyV K T x H1 ∧ r x [] H1 Q
def tBM (K : PySem.W.Frag) (T : String) (r : V → List V → Hp → VK → Prop) (to : TE) (t : TA) : TE := fun σ H Q => to σ H fun x H1 => tyV K T x H1 ∧ t σ H1 fun xs H2 => r x xs H2 Q
variable {o e : Expr} {es : List Expr} {to : TE} {t : TA} {name : Str} {apos cpos : Pos} {T id : String} {r : V → List V → Hp → VK → Prop}
theorem pe_bm0 (pa : PlainAttrs T) (slot : Slot T name id) (hty : typeOf (.builtin id) = pure (.type "method_descriptor")) (hm : MtR X id r) (ho : PE X o to)
    (hbase : attributeBase o name X.env (eval o X.env) = eval o X.env := by rfl) (hline : (apos.endLine == cpos.line) = true := by rfl) : PE X (.Call (.Attribute o name apos) [] [] cpos) (tBM0 X.K T r to) := by
  intro pins s σ H Q I h
  refine wpAny_Call_method0_late hbase hline (thn (ho pins s σ H _ I h) fun v s1 ⟨x, H1, I1, r1, ty, q1⟩ => ?_)
  obtain ⟨h1, h2⟩ := tyV_is I1 r1 ty
  exact ⟨T, id, pa, slot, hty, h1, h2, Calls.callWith_builtin rfl (PySem.evalArgs_none (hm pins s1 σ H1 x [] v [] Q I1 r1 .nil q1))⟩
theorem pe_bm (pa : PlainAttrs T) (slot : Slot T name id) (hty : typeOf (.builtin id) = pure (.type "method_descriptor")) (hm : MtR X id r) (ho : PE X o to) (ha : PA X (e :: es) t)
    (hbase : attributeBase o name X.env (eval o X.env) = eval o X.env := by rfl)
    (hfew : ((backTo cpos (starEach (e :: es) X.env)).all (fun x => !x.1) && (backToKw cpos (keywordEach [] X.env)).all (fun x => x.1.isSome)
      && decide ((e :: es).length + ([] : List Keyword).length + (if ([] : List Keyword).isEmpty then 0 else 1) < 30)) = true := by rfl)
    (hline : (apos.endLine == cpos.line) = true := by rfl) (hs : starEach (e :: es) X.env = (false, eval e X.env) :: starEach es X.env := by rfl) (hplain : (backTo cpos (starEach es X.env)).any (·.1) = false := by rfl) :
    PE X (.Call (.Attribute o name apos) (e :: es) [] cpos) (tBM X.K T r to t) := by
  intro pins s σ H Q I h
  refine wpAny_Call_method_late hbase hfew hline rfl (thn (ho pins s σ H _ I h) fun v s1 ⟨x, H1, I1, r1, ty, q1⟩ => ?_)
  obtain ⟨h1, h2⟩ := tyV_is I1 r1 ty
  refine ⟨T, id, pa, slot, hty, h1, h2, ?_⟩
  have hA := ha cpos pins s1 σ H1 _ I1 q1
  rw [hs] at hA ⊢
  refine Calls.callWith_builtin (by show (false || (backTo cpos (starEach es X.env)).any (·.1)) = false; rw [hplain] <;> rfl) (Calls.evalArgs_plain ?_)
  exact thn hA fun us s2 ⟨vs, H2, I2, r2, q2⟩ => hm pins s2 σ H2 x vs v us Q I2 r1 r2 q2
/- xs.append(e), list.index on a module's tuple .. are MtR facts of 06m -/
end
end L2
namespace L2
open PySem PySem.Spec PyProof.Rows
def MtM (X : Cx) (id : String) (r : V → List V → Hp → VK → Prop) : Prop :=
  ∀ (pins : List (Addr × Obj)) (s : Shared) (σ : St) (H : Hp) (x : V) (xs : List V) (v : Value) (us : List Value) (Q : VK), Inv X pins σ H s → RelV x v → Vals xs us → r x xs H Q →
    wpAny (model X.prog X.w) X.A (call (.builtin id) (v :: us)) (EP X pins σ Q) X.xe s
theorem Vals.one : ∀ {x : V} {us : List Value}, Vals [x] us → ∃ u, us = [u] ∧ RelV x u
  | _, _, .cons r .nil => ⟨_, rfl, r⟩
theorem Vals.two : ∀ {x y : V} {us : List Value}, Vals [x, y] us → ∃ u v, us = [u, v] ∧ RelV x u ∧ RelV y v
  | _, _, _, .cons r (.cons q .nil) => ⟨_, _, rfl, r, q⟩
theorem Vals.zero : ∀ {us : List Value}, Vals [] us → us = []
  | _, .nil => rfl
section
variable {X : Cx} {pins : List (Addr × Obj)} {σ : St} {H : Hp} {s : Shared} {l b : Addr} {xs ys zs : List V}
theorem Inv.lset {its its' : List Value} {n : Nat} {f : Array Value → Array Value} {t' : Nat} (I : Inv X pins σ H s) (hH : H l = some (.lst xs))
    (e : s.heap.get? l = some { cls := .type "list", data := .seq its.toArray n }) (hf : f its.toArray = its'.toArray) (hv : Vals ys its') (hz : ys.length ≤ sizeLine) :
    Inv X pins σ (upd H l (.lst ys)) { s with heap := s.heap.update l (Obj.mapSeq f), toks := t' } := by
  have q := PySem.IsL.update e f
  rw [hf] at q
  refine I.write (x := l) (e := l) (by rw [hH]; exact trivial) (.inl rfl) (fun b' u hb hu => (Heap.get?_update_other s.heap (Obj.mapSeq f) (Ne.symm hb)).trans hu) ⟨_, q⟩ ?_
  exact ⟨hz, its', _, hv, q⟩
theorem Inv.lnew {its : List Value} {t' : Nat} (I : Inv X pins σ H s) (hv : Vals ys its) (hz : ys.length ≤ sizeLine) :
    Inv X pins σ (upd H s.heap.objs.size (.lst ys)) { s with heap := s.heap.push { cls := .type "list", data := .seq its.toArray }, toks := t' } :=
  I.laid (fun _ _ q => Heap.get?_push_of_some _ q) (Nat.le_refl _) ⟨hz, its, 0, hv, Heap.get?_push_size _ rfl⟩
theorem Inv.lstM (I : Inv X pins σ H s) (hH : H l = some (.lst xs)) : xs.length ≤ sizeLine ∧ ∃ (its : List Value) (n : Nat), Vals xs its ∧ xs.length = its.length ∧ s.heap.get? l = some { cls := .type "list", data := .seq its.toArray n } := by
  obtain ⟨z, its, n, r, e⟩ := I.hok l _ hH
  exact ⟨z, its, n, r, r.length, e⟩
end
section
variable {X : Cx}
def rAppend : V → List V → Hp → VK → Prop := fun x vs H Q => ∃ l xs y, x = .ref l ∧ vs = [y] ∧ H l = some (.lst xs) ∧ xs.length < sizeLine ∧ Q .non (upd H l (.lst (xs ++ [y])))
theorem mt_append : MtM X "list.append" rAppend := by
  intro pins s σ H x vs v us Q I rx rv h
  obtain ⟨l, xs, y, rfl, rfl, hH, hz, q⟩ := h
  cases rx
  obtain ⟨u, rfl, ru⟩ := rv.one
  obtain ⟨z, its, n, r, hl, e⟩ := I.lstM hH
  refine call_meets F.slot_list_append ⟨_, e, rfl⟩ F.entry_list_append (F.args_list_append_2 _ _) (PySem.list_append l its.toArray n u (by rw [List.size_toArray]; omega)) ⟨e, ?_⟩
  refine ⟨.non, _, I.lset (its' := its ++ [u]) hH e (by simp) (r.append (.cons ru .nil)) ?_, rfl, q⟩
  rw [List.length_append, List.length_singleton]
  omega
def rClear : V → List V → Hp → VK → Prop := fun x vs H Q => ∃ l xs, x = .ref l ∧ vs = [] ∧ H l = some (.lst xs) ∧ Q .non (upd H l (.lst []))
theorem mt_clear : MtM X "list.clear" rClear := by
  intro pins s σ H x vs v us Q I rx rv h
  obtain ⟨l, xs, rfl, rfl, hH, q⟩ := h
  cases rx
  have hus := rv.zero
  subst hus
  obtain ⟨z, its, n, r, hl, e⟩ := I.lstM hH
  refine call_meets F.slot_list_clear ⟨_, e, rfl⟩ F.entry_list_clear (F.args_list_clear_1 _) (AutoSeq1.list_clear_list_0 l its.toArray n (by rw [List.size_toArray]; omega)) ⟨e, ?_⟩
  exact ⟨.non, _, I.lset (its' := []) (ys := []) hH e rfl .nil (Nat.zero_le _), rfl, q⟩
end
section
variable {prog : Program} {w : World} {A : Around} {E : Value → Shared → Prop} {s : Shared}
set_option maxRecDepth 100000 in
end
section
variable {X : Cx}
end
end L2
namespace Att
open PySem PySem.W PySem.Calls PyProof.Rows
theorem ints_of_wellAll {P : Params} {h : Heap} : ∀ (ns : List Int) (vs : List Value), WellAll P h vs (ns.map WData.int) → IntsAre vs ns := by
  intro ns
  induction ns with
  | nil =>
    intro vs w
    rw [List.map_nil] at w
    cases w
    exact .nil
  | cons n ns ih =>
    intro vs w
    rw [List.map_cons] at w
    cases w with
    | cons a b =>
      cases a
      exact .cons _ _ (ih _ b)
theorem script_of {l : OpenLaw} {n : Nat} (hn : l.most = some n) {P : Params} {h : Heap} {args : List WData} {vals : List Value}
    (hpre : l.row.toRowW.claim.pre args = true) (hwl : WellAll P h vals args) :
    ∃ a vs ns, vals = [Value.ref a] ∧ args = [WData.list (ns.map WData.int)] ∧ h.get? a = some { cls := .type "list", data := .seq vs.toArray } ∧ IntsAre vs ns ∧ ns.length ≤ n := by
  have hsh : WShape.hasAll [] args [.list .int] = true := (pre_splitW hpre).1
  have hc : l.pre.holds [] { args := args } = true := (pre_splitW hpre).2
  obtain ⟨d, r, rfl, h1, h2⟩ := hasAllW_cons hsh
  obtain rfl := hasAllW_nil h2
  obtain ⟨xs, rfl, h3⟩ := hasW_list h1
  obtain ⟨ns, rfl⟩ := items_int h3
  have hlen : ns.length ≤ n := by
    unfold OpenLaw.pre at hc
    have h4 : (WTm.not (.lt (.lit (.int (n : Int))) (.len (.arg 0)))).holds [] { args := [.list (ns.map .int)] } = true := by
      have h4 := (holds_andW hc).1
      rw [hn] at h4
      exact h4
    have h5 := condW_of h4 (w_not (w_lt w_lit (w_len_list (w_arg rfl))))
    rw [List.length_map] at h5
    refine Nat.le_of_not_lt fun q => ?_
    have q' : (n : Int) < ((ns.length : Nat) : Int) := by omega
    first
      | (rw [decide_eq_true q'] at h5; exact absurd h5 (by decide))
      | (simp at h5; omega)
  cases hwl with
  | cons w1 w2 =>
    cases w2
    cases w1 with
    | list ho hall => exact ⟨_, _, ns, rfl, rfl, ho, ints_of_wellAll ns _ hall, hlen⟩
theorem post_true (l : OpenLaw) (args : List WData) : l.row.toRowW.claim.post args (.bool true) args = true :=
  postW_of (r := l.row.toRowW) (X := (true == true))
    (show WShape.has [] (.bool true) .bool = true by first | rfl | decide | simp [WShape.has, WShape.arms, WShape.armsAll])
    (show (WTm.eq .res (.lit (.bool true))).value [] { args := args, res := some (.bool true), after := args } = some (.bool (true == true)) from w_eq_bool (w_res rfl) w_lit) rfl
theorem attach_call {l : OpenLaw} {n : Nat} {q : Program} {loose : List Str} {XP : (Str → Option Value) → Heap → Prop} {YP : World → Heap → Prop} {d : DefRec}
    (hn : l.most = some n) (hdf : d.params.defaults = [])
    (call : ∀ (w : World) (s₀ s₁ : Shared) (mg mb : Str → Option Value) (fa : Addr) (o : Obj) (pm cd doc : Value) (a : Addr) (vs : List Value) (ns : List Int),
      Ground q loose [] XP w s₀ mg mb s₁.heap → YP w s₁.heap →
      s₁.heap.get? fa = some o → o.data = .func (docDef d.name d.params d.body d.scope pm cd doc) → s₁.heap.CodeRec cd d.name → mg d.name = some (.ref fa) →
      s₁.heap.get? a = some { cls := .type "list", data := .seq vs.toArray } → IntsAre vs ns → ns.length ≤ n → s₁.gens = #[] →
      codeAny (model l.prog w) callerA (.call (.ref fa) ⟨[.ref a], []⟩) (fun r s' => r = .ok (.ret (.bool true)) ∧ OldK s₁.heap s'.heap ∧ s'.os = s₁.os ∧ AllBare s'.gens) s₁) :
    WalkO q loose XP YP l.row.toRowW d [] (fun f vs => PySem.call f vs) := by
  intro w s₀ s₁ mg mb G Y fa o pm cd doc dV kV ho hd hcd hD hmg hg args vals as hpre hlay hrd hwl hlo
  obtain rfl : dV = .none := Dflts.none hD hdf
  obtain rfl : kV = .none := Dflts.noKw hD
  obtain ⟨a, vs, ns, rfl, rfl, hobj, hints, hlen⟩ := script_of hn hpre hwl
  refine enter_call (codeAny_mono (call w s₀ s₁ mg mb fa o pm cd doc a vs ns G Y ho (fd_plain hd) hcd hmg hobj hints hlen hg) fun r s' hq => ?_)
  obtain ⟨rfl, h2, h3, h4⟩ := hq
  exact ⟨.inl ⟨.bool true, .bool true, [], rfl, fun _ => rfl, .bool true, post_true l _, fun _ => ⟨List.Pairwise.nil, fun _ hm => (nomatch hm)⟩⟩, h2, h3, h4⟩
section
variable {prog : Program} {w : World} {A : Around} {E : Value → Shared → Prop} {s : Shared} {K : Frag}
end
end Att
namespace L2
open PySem PySem.Spec PyProof.Rows
theorem vals_ints : ∀ {vs : List Value} {ns : List Int}, IntsAre vs ns → Vals (ns.map V.int) vs
  | _, _, .nil => .nil
  | _, _, .cons n t h => .cons ⟨t, rfl⟩ (vals_ints h)
end L2
namespace L2
open PySem PySem.Spec PyProof.Rows
end L2
/- THE LAST THEOREM (shape; LID, My.* are yours):
   My.Adr: a structure of the addresses that your layer names (classes, functions); My.Txt K t: a structure (Prop) of the equations over K;
   My.txt_mk : {K} {implicit addresses ..} (e1 : nsIn K mainGlobals "law" = some (some (.ref f))) (e2 : K.lookup f = some ⟨oc, od, .func (fnOf "law" "law" params body scope dV kV doc pm an cdv ct), sl⟩) (e3 : codeIn K cdv "law" = true) .. : ∃ t, My.Txt K t
set_option maxRecDepth 100000 in
set_option maxHeartbeats 0 in
theorem PySem.Challenge.cw_LID_holds : PySem.Challenge.rw_LID.Holds := by
  w_on; o_law; k_head; (case hw => w_witness2)
  k_fill
  refine L2.walk_of (l := PySem.Challenge.rw_LID) (n := 63) (k := 40) (x := "script") (CX := fun w => ..) (sp := fun _ => My.sp_law) rfl (by decide) rfl ⟨rfl, by decide, by decide⟩ (fun w h Y => PySem.W.kIn_of Y) ?F ?S ?C
  case F =>
    intro w mg fa h KX G hmg
    have T : ∃ t, My.Txt (L2.KOf KX) t := by
      dsimp only [L2.KOf]                          -- K must stand as «<heap const> w.params» for k_is
      refine' My.txt_mk ?e1 ?e2 ?e3 ..
      (case e1 => PySem.W.k_is)                    -- in the order: a name -> its address -> its object -> its parts
      (case e2 => PySem.W.k_is)
      ..
    obtain ⟨t, T⟩ := T
    have e0 := hmg.symm.trans (PySem.W.mg_of KX G T.law)
    cases e0                                       -- fa is the law's own address
    exact ⟨_, fun s u => .of_eq rfl, fun base kb nb => My.law_fn T kb nb⟩     -- if «.of_eq rfl» comes too early: refine' ⟨_, ?b, fun base kb nb => My.law_fn T kb nb⟩; exact fun s u => .of_eq rfl
  case S => exact fun w H a ns hl hO hS => ..
  case C => exact ..
(the tactic k_is has no namespace: write k_is) -/
namespace L2
open PySem PySem.Spec PyProof.Rows
def defArgs (s : Stmt) : Arguments := match s with
  | .FunctionDef _ a _ _ _ _ _ _ _ _ => a
  | _ => { posonlyargs := [], args := [], vararg := none, kwonlyargs := [], kw_defaults := [], kwarg := none, defaults := [] }
def defBody (s : Stmt) : List Stmt := match s with
  | .FunctionDef _ _ b _ _ _ _ _ _ _ => b
  | _ => []
def defScope (s : Stmt) : Scope := match s with
  | .FunctionDef _ _ _ _ _ _ sc _ _ _ => sc
  | _ => { kind := .function, names := [], isGenerator := false, isCoroutine := false }
abbrev CX0 : CXT := fun _ _ _ _ _ _ => False
abbrev E0 : XK := fun _ _ _ => False
theorem pass0 {X : Cx} : Passes CX0 X E0 := fun _ _ _ _ _ _ _ h => h.elim
structure Fun (K : PySem.W.Frag) (x qual : Str) (st : Stmt) (f : Addr) (fd : FuncData) : Prop where
  ex : ∃ (oc : Value) (od : Option Addr) (kV doc pm : Value) (an : Option Addr) (cdv ct : Value) (osl : Array (Option Value)),
    fd = PySem.W.fnOf x qual (defArgs st) (defBody st) (defScope st) .none kV doc pm an cdv ct ∧ K.lookup f = some ⟨oc, od, .func fd, osl⟩ ∧ PySem.W.codeIn K cdv qual = true
  kp : PySem.W.keepIn K (.ref f) = true
section
variable {P : Program} {w : World} {K : PySem.W.Frag} {mg : Str → Option Value} {base : Heap}
theorem Fun.ok {x qual : Str} {st : Stmt} {f : Addr} {fd : FuncData} {N ps : List Str} {k : Nat} {sp : Sp} (F : Fun K x qual st f fd) (S : FnScope N ps (defScope st)) (len : ∀ vs H Q E, sp vs H Q E → vs.length = ps.length)
    (hbody : ∀ (cdv : Value) (A : Around) (outer : List Env) (s : Shared) (H : Hp) (vs : List V) (Q : VK) (E : XK), Room k (A.deeper (envOfC qual (defScope st) s.heap.objs.size f cdv)) → sp vs H Q E →
      ∃ t, PSs (cxOf CX0 P w K mg base N qual (defScope st) f cdv A outer s H E).nox (defBody st) t ∧ t { nx := fun _ H' => Q .non H', rt := Q } (start N vs) H) : FnOk P w K mg base CX0 (k + 1) f fd ps sp := by
  obtain ⟨oc, od, kV, doc, pm, an, cdv, ct, osl, rfl, lk, hcd⟩ := F.ex
  refine fn_of lk hcd S len fun A outer s H vs Q E hr hsp => ?_
  obtain ⟨t, h, q⟩ := hbody cdv A outer s H vs Q E hr hsp
  exact ⟨t, h.nox, q⟩
theorem Fun.binds {x qual : Str} {st : Stmt} {f : Addr} {fd : FuncData} {ps : List Str} (F : Fun K x qual st f fd)
    (h : ∀ (kV doc pm : Value) (an : Option Addr) (cdv ct : Value) (us : List Value), us.length = ps.length → bindArgs (PySem.W.fnOf x qual (defArgs st) (defBody st) (defScope st) .none kV doc pm an cdv ct) ⟨us, []⟩ = pure (ps.zip us)) : Binds K fd ps [] := by
  obtain ⟨oc, od, kV, doc, pm, an, cdv, ct, osl, rfl, lk, hcd⟩ := F.ex
  exact .all (h kV doc pm an cdv ct)
theorem fun_mk {x qual : Str} {st : Stmt} {f : Addr} {oc : Value} {od an : Option Addr} {osl : Array (Option Value)} {kV doc pm cdv ct : Value} (l : K.lookup f = some ⟨oc, od, .func (PySem.W.fnOf x qual (defArgs st) (defBody st) (defScope st) .none kV doc pm an cdv ct), osl⟩)
    (c : PySem.W.codeIn K cdv qual = true) (k : PySem.W.keepIn K (.ref f) = true) : Fun K x qual st f (PySem.W.fnOf x qual (defArgs st) (defBody st) (defScope st) .none kV doc pm an cdv ct) := ⟨⟨oc, od, kV, doc, pm, an, cdv, ct, osl, rfl, l, c⟩, k⟩
end
theorem hu_of {A : Around} {k : Nat} (hr : Room k A) : A.units + 1 < cLine := Nat.lt_of_le_of_lt (Nat.add_le_add_left (by decide : 1 ≤ 64) _) hr.units
section
variable {X : Cx}
theorem pv (i : Nat) {x : Str} {pos : Pos} (hN : X.N[i]? = some x := by rfl) (hv : Vis X.env.scope x := by first | exact Or.inl rfl | exact Or.inr (Or.inl rfl) | exact Or.inr (Or.inr rfl)) (hd : (x == ("__debug__" : Str)) = false := by decide)
    (hcd : (x == ("__classdict__" : Str)) = false := by decide) : PE X (.Name x pos) (tVar i) := pe_var hN hv hd hcd
end
theorem iteF {A B : Prop} (h : B) : if false = true then A else B := by
  rw [if_neg Bool.false_ne_true]
  exact h
theorem iteT {A B : Prop} (h : A) : if true = true then A else B := by
  rw [if_pos rfl]
  exact h
theorem ite2 {c A B : Prop} [Decidable c] (h1 : c → A) (h2 : ¬ c → B) : if c then A else B := by
  by_cases h : c
  · rw [if_pos h]
    exact h1 h
  · rw [if_neg h]
    exact h2 h
def Same (H H' : Hp) : Prop := ∀ b o, H b = some o → H' b = some o
theorem Same.seq {K : PySem.W.Frag} {H H' : Hp} {a : Addr} {xs : List V} (e : Same H H') (h : SqL K H a xs) : SqL K H' a xs := by
  rcases h with (h | ⟨o, h⟩) | h
  · exact .inl (.inl (e _ _ h))
  · exact .inl (.inr ⟨o, e _ _ h⟩)
  · exact .inr h
end L2
set_option Elab.async false
set_option linter.all false
set_option maxRecDepth 100000
namespace L2
open PySem PySem.Spec PyProof.Rows
section
variable {κ : Type} [DecidableEq κ]
def valV (kvs : List (κ × V)) (k : κ) : Option V := (kvs.find? fun kv => decide (kv.1 = k)).map (·.2)
def putK (kvs : List (κ × V)) (k : κ) (v : V) : List (κ × V) :=
  if (kvs.any fun kv => decide (kv.1 = k)) = true then kvs.map (fun kv => if kv.1 = k then (kv.1, v) else kv) else kvs ++ [(k, v)]
theorem valV_pos {p : κ × V} {r : List (κ × V)} {k : κ} (e : p.1 = k) : valV (p :: r) k = some p.2 := by simp [valV, List.find?_cons, e]
theorem valV_neg {p : κ × V} {r : List (κ × V)} {k : κ} (e : ¬ p.1 = k) : valV (p :: r) k = valV r k := by simp [valV, List.find?_cons, e]
theorem valV_any (k : κ) : ∀ kvs : List (κ × V), (kvs.any fun kv => decide (kv.1 = k)) = (valV kvs k).isSome
  | [] => rfl
  | p :: r => by
    rw [List.any_cons]
    by_cases e : p.1 = k
    · simp only [valV_pos e, decide_eq_true e, Bool.true_or, Option.isSome_some]
    · rw [valV_neg e, decide_eq_false e, Bool.false_or]; exact valV_any k r
theorem length_putK (kvs : List (κ × V)) (k : κ) (v : V) : (putK kvs k v).length ≤ kvs.length + 1 := by
  unfold putK
  split
  · rw [List.length_map]; omega
  · rw [List.length_append, List.length_cons, List.length_nil]; omega
theorem RelO.isSome_eq {o : Option V} {u : Option Value} (r : RelO o u) : o.isSome = u.isSome := by
  cases o with
  | none => cases u with
    | none => rfl
    | some _ => exact (show False from r).elim
  | some _ => cases u with
    | none => exact (show False from r).elim
    | some _ => rfl
theorem KV.val {kvs : List (κ × V)} {vs : List (κ × Value)} (r : KV kvs vs) (k : κ) : RelO (valV kvs k) (valueAt vs k) := by
  unfold KV at r
  induction r with
  | nil => exact True.intro
  | @cons p q ps qs h t ih =>
    obtain ⟨h1, h2⟩ := h
    by_cases e : p.1 = k
    · have e' : q.1 = k := h1.symm.trans e
      have b : valueAt (q :: qs) k = some q.2 := by simp [valueAt, List.find?_cons, e']
      rw [valV_pos e, b]; exact h2
    · have e' : ¬ q.1 = k := fun z => e (h1.trans z)
      have b : valueAt (q :: qs) k = valueAt qs k := by simp [valueAt, List.find?_cons, e']
      rw [valV_neg e, b]; exact ih
theorem KV.any {kvs : List (κ × V)} {vs : List (κ × Value)} (r : KV kvs vs) (k : κ) : (kvs.any fun kv => decide (kv.1 = k)) = vs.any fun kv => decide (kv.1 = k) := by
  unfold KV at r
  induction r with
  | nil => rfl
  | cons h t ih => rw [List.any_cons, List.any_cons, ih, h.1]
theorem KV.repl {kvs : List (κ × V)} {vs : List (κ × Value)} (r : KV kvs vs) (k : κ) {y : V} {u : Value} (ry : RelV y u) :
    KV (kvs.map fun kv => if kv.1 = k then (kv.1, y) else kv) (vs.map fun kv => if kv.1 = k then (kv.1, u) else kv) := by
  unfold KV at r ⊢
  induction r with
  | nil => exact .nil
  | @cons p q ps qs h t ih =>
    rw [List.map_cons, List.map_cons]
    refine .cons ?_ ih
    obtain ⟨h1, h2⟩ := h
    by_cases e : p.1 = k
    · rw [if_pos e, if_pos (h1.symm.trans e)]; exact ⟨h1, ry⟩
    · rw [if_neg e, if_neg (fun z => e (h1.trans z))]; exact ⟨h1, h2⟩
theorem KV.put {kvs : List (κ × V)} {vs : List (κ × Value)} (r : KV kvs vs) (k : κ) {y : V} {u : Value} (ry : RelV y u) : KV (putK kvs k y) (stored vs k u) := by
  unfold putK stored
  rw [r.any k]
  by_cases e : (vs.any fun kv => decide (kv.1 = k)) = true
  · rw [if_pos e, if_pos e]; exact r.repl k ry
  · rw [if_neg e, if_neg e]; exact Paired.snoc r ⟨rfl, ry⟩
theorem KV.length {kvs : List (κ × V)} {vs : List (κ × Value)} (r : KV kvs vs) : kvs.length = vs.length := Paired.length r
end
theorem kV_is {P : Program} {w : World} {k : Key} {u : Value} (r : RelV (kV k) u) : (mixKind P w).is k u = true := by
  cases k with
  | inl i => obtain ⟨t, e⟩ := (show ∃ t, u = Value.int i t from r); subst e; exact mixKind_int P w i t
  | inr x => obtain ⟨t, e⟩ := (show ∃ t, u = Value.str x t from r); subst e; exact mixKind_str P w x t
theorem items_are {P : Program} {w : World} : ∀ {ks : List Key} {us : List Value}, Vals (ks.map kV) us → ItemsAre (mixKind P w) ks us
  | [], _, r => by rw [List.map_nil] at r; cases r; exact .nil
  | k :: ks, _, r => by
    rw [List.map_cons] at r
    cases r with
    | cons h t => exact .cons (kV_is h) (items_are t)
abbrev KT (H : Hp) : List (List Key × V) → List (List Key × Addr × Value) → Prop := Paired fun p q => p.1 = q.1 ∧ H q.2.1 = some (.tup (p.1.map kV)) ∧ RelV p.2 q.2.2
theorem KT.val {H : Hp} {kvs : List (List Key × V)} {xs : List (List Key × Addr × Value)} (r : KT H kvs xs) (k : List Key) : RelO (valV kvs k) ((atKey xs k).map (·.2)) := by
  induction r with
  | nil => exact True.intro
  | @cons p q ps qs h t ih =>
    obtain ⟨h1, _, h2⟩ := h
    by_cases e : p.1 = k
    · have e' : q.1 = k := h1.symm.trans e
      have b : atKey (q :: qs) k = some q.2 := by simp [atKey, List.find?_cons, e']
      rw [valV_pos e, b]; exact h2
    · have e' : ¬ q.1 = k := fun z => e (h1.trans z)
      have b : atKey (q :: qs) k = atKey qs k := by simp [atKey, List.find?_cons, e']
      rw [valV_neg e, b]; exact ih
theorem KT.repl {H : Hp} {kvs : List (List Key × V)} {xs : List (List Key × Addr × Value)} (r : KT H kvs xs) (k : List Key) {y : V} {u : Value} (ry : RelV y u) :
    KT H (kvs.map fun kv => if kv.1 = k then (kv.1, y) else kv) (xs.map (putAt k u)) := by
  induction r with
  | nil => exact .nil
  | @cons p q ps qs h t ih =>
    rw [List.map_cons, List.map_cons]
    refine .cons ?_ ih
    obtain ⟨h1, h2, h3⟩ := h
    unfold putAt
    by_cases e : p.1 = k
    · rw [if_pos e, if_pos (h1.symm.trans e)]; exact ⟨h1, h2, ry⟩
    · rw [if_neg e, if_neg (fun z => e (h1.trans z))]; exact ⟨h1, h2, h3⟩
theorem KT.put {H : Hp} {kvs : List (List Key × V)} {xs : List (List Key × Addr × Value)} (r : KT H kvs xs) (k : List Key) {b : Addr} {y : V} {u : Value} (hb : H b = some (.tup (k.map kV))) (ry : RelV y u) :
    KT H (putK kvs k y) (storedH xs k b u) := by
  have e : (kvs.any fun kv => decide (kv.1 = k)) = (atKey xs k).isSome := by
    rw [valV_any, (r.val k).isSome_eq, Option.isSome_map]
  unfold putK storedH
  rw [e]
  by_cases q : (atKey xs k).isSome = true
  · rw [if_pos q, if_pos q]; exact r.repl k ry
  · rw [if_neg q, if_neg q]; exact Paired.snoc r ⟨rfl, hb, ry⟩
theorem KT.keeps {H H' : Hp} {kvs : List (List Key × V)} {xs : List (List Key × Addr × Value)} (r : KT H kvs xs) (ht : ∀ b ys, H b = some (.tup ys) → H' b = some (.tup ys)) : KT H' kvs xs :=
  Paired.mapP r fun _ _ z => ⟨z.1, ht _ _ z.2.1, z.2.2⟩
section
variable {P : Program} {w : World} {H : Hp} {h : Heap} {a : Addr}
theorem rd_of {u : HO} (ok : HOk P w H h) (e : Rd H a u) : ObjOk P w H h a u := e.ok ok
theorem dk_rd {kvs : List (Key × V)} (ok : HOk P w H h) (e : Rd H a (.dK kvs)) : kvs.length ≤ sizeLine ∧ (a == sysModules) = false ∧ ∃ vs, KV kvs vs ∧ h.DictOf (mixKind P w) a vs :=
  show ObjOk P w H h a (.dK kvs) from rd_of ok e
theorem dk_of {kvs : List (Key × V)} (ok : HOk P w H h) (e : H a = some (.dK kvs)) : kvs.length ≤ sizeLine ∧ (a == sysModules) = false ∧ ∃ vs, KV kvs vs ∧ h.DictOf (mixKind P w) a vs := dk_rd ok (.inl e)
theorem key_of {ks : List Key} (ok : HOk P w H h) (e : H a = some (.tup (ks.map kV))) : (tupleKind (mixKind P w)).is h ks a := by
  obtain ⟨_, its, r, o, h1, h2, n, h3⟩ := (show ObjOk P w H h a (.tup (ks.map kV)) from ok a _ e)
  exact ⟨o, its.toArray, n, h1, h2, h3, by simpa using items_are r⟩
theorem dt_rd {kvs : List (List Key × V)} (ok : HOk P w H h) (e : Rd H a (.dT kvs)) : kvs.length ≤ sizeLine ∧ (a == sysModules) = false ∧
    ∃ xs, KT H kvs xs ∧ h.DictOfH (tupleKind (mixKind P w)) a xs := by
  obtain ⟨z, y, xs, r, o, es, ep, h1, h2, h3, h4, h5⟩ := (show ObjOk P w H h a (.dT kvs) from rd_of ok e)
  refine ⟨z, y, xs, r, o, es, ep, h1, h2, h3, h4, fun x hx => ?_, h5⟩
  have all : ∀ {l : List (List Key × V)} {m : List (List Key × Addr × Value)}, KT H l m → ∀ x ∈ m, (tupleKind (mixKind P w)).is h x.1 x.2.1 := by
    intro l m q
    induction q with
    | nil => intro x hx; exact nomatch hx
    | @cons p q ps qs hq t ih =>
      intro x hx
      rcases List.mem_cons.mp hx with e | hx
      · subst e
        exact key_of ok (by rw [← hq.1]; exact hq.2.1)
      · exact ih x hx
  exact all r x hx
theorem dt_of {kvs : List (List Key × V)} (ok : HOk P w H h) (e : H a = some (.dT kvs)) : kvs.length ≤ sizeLine ∧ (a == sysModules) = false ∧
    ∃ xs, KT H kvs xs ∧ h.DictOfH (tupleKind (mixKind P w)) a xs := dt_rd ok (.inl e)
end
def DGet (H : Hp) (a : Addr) (y : V) (r : Option V) : Prop :=
  (∃ kvs k, Rd H a (.dK kvs) ∧ y = kV k ∧ r = valV kvs k) ∨ ∃ kvs k b, Rd H a (.dT kvs) ∧ y = .ref b ∧ H b = some (.tup (k.map kV)) ∧ r = valV kvs k
def DPut (H : Hp) (a : Addr) (y v : V) (H' : Hp) : Prop :=
  (∃ kvs k, H a = some (.dK kvs) ∧ y = kV k ∧ kvs.length < sizeLine ∧ H' = upd H a (.dK (putK kvs k v))) ∨
  ∃ kvs k b, H a = some (.dT kvs) ∧ y = .ref b ∧ H b = some (.tup (k.map kV)) ∧ kvs.length < sizeLine ∧ H' = upd H a (.dT (putK kvs k v))
theorem DPut.k {H : Hp} {a : Addr} {kvs : List (Key × V)} {k : Key} {v : V} (e : H a = some (.dK kvs)) (hl : kvs.length < sizeLine) : DPut H a (kV k) v (upd H a (.dK (putK kvs k v))) := .inl ⟨kvs, k, e, rfl, hl, rfl⟩
section
variable {X : Cx} {pins : List (Addr × Obj)} {σ : St} {H : Hp} {s : Shared} {a : Addr} {y v : V} {u r : Value} {o : Option V} {A : Around} {E : Value → Shared → Prop}
theorem Inv.big (I : Inv X pins σ H s) : sysModules < s.heap.objs.size := by
  have h : mainGlobals < s.heap.objs.size := (I.mod.glob.keeps I.bk).lt
  exact Nat.lt_trans (by decide) h
theorem d_getItem {Q : Value → Shared → Prop} (hu : A.units + 1 < cLine) (I : Inv X pins σ H s) (g : DGet H a y (some v)) (ry : RelV y u) (h : ∀ w' s', Inv X pins σ H s' → RelV v w' → Q w' s') :
    wpAny (model X.prog X.w) A (getItem (.ref a) u) Q E s := by
  rcases g with ⟨kvs, k, e, ey, l⟩ | ⟨kvs, k, b, e, ey, eb, l⟩
  · subst ey
    obtain ⟨z, hd, vs, rel, dd⟩ := dk_rd I.hok e
    obtain ⟨w', hw, rw'⟩ := RelO.some_of (v := v) (o := valueAt vs k) (by rw [l]; exact rel.val k)
    exact wpAny_getItem_of (kV_is ry) dd.mapOf hw (h w' _ (I.tok _) rw')
  · subst ey
    cases (show u = Value.ref b from ry)
    obtain ⟨z, hd, xs, rel, dd⟩ := dt_rd I.hok e
    obtain ⟨w', hw, rw'⟩ := RelO.some_of (v := v) (o := (atKey xs k).map (·.2)) (by rw [l]; exact rel.val k)
    obtain ⟨p, hp, hp2⟩ := Option.map_eq_some_iff.mp hw
    refine wpAny_getItem_heap (tupleKind_room_in1 hu) (key_of I.hok eb) dd hp ?_
    rw [hp2]
    exact h w' _ (I.tok _) rw'
theorem d_notIn {Q : Value → Shared → Prop} (hu : A.units + 1 < cLine) (I : Inv X pins σ H s) (g : DGet H a y o) (ry : RelV y u) (h : ∀ s', Inv X pins σ H s' → Q (.bool (!o.isSome)) s') :
    wpAny (model X.prog X.w) A (compareOp .NotIn u (.ref a)) Q E s := by
  rcases g with ⟨kvs, k, e, ey, l⟩ | ⟨kvs, k, b, e, ey, eb, l⟩
  · subst ey
    obtain ⟨z, hd, vs, rel, dd⟩ := dk_rd I.hok e
    refine wpAny_notIn_of (kV_is ry) hd dd.mapOf ?_
    rw [← (rel.val k).isSome_eq, ← l]
    exact h _ (I.tok _)
  · subst ey
    cases (show u = Value.ref b from ry)
    obtain ⟨z, hd, xs, rel, dd⟩ := dt_rd I.hok e
    refine wpAny_notIn_heap (tupleKind_room_in1 hu) (key_of I.hok eb) hd dd ?_
    have q := (rel.val k).isSome_eq
    rw [Option.isSome_map] at q
    rw [← q, ← l]
    exact h _ (I.tok _)
theorem d_write {h' : Heap} {t' : Nat} {ob : HO} (I : Inv X pins σ H s) (mu : Mut (H a)) (hs : Heap.SameBut a s.heap h') (he : ∃ q, h'.get? a = some q) (new : ObjOk X.prog X.w (upd H a ob) h' a ob) :
    Inv X pins σ (upd H a ob) { s with heap := h', toks := t' } :=
  I.write (x := a) (e := a) mu (.inl rfl) (fun b q hb z => (hs.2 b hb).trans z) he new
theorem dk_new {P : Program} {w : World} {H' : Hp} {h' : Heap} {kvs : List (Key × V)} {vs : List (Key × Value)} (z : kvs.length ≤ sizeLine) (hd : (a == sysModules) = false) (rel : KV kvs vs) (dd : h'.DictOf (mixKind P w) a vs) :
    ObjOk P w H' h' a (.dK kvs) := ⟨z, hd, vs, rel, dd⟩
theorem d_setItem {H' : Hp} {Q : Unit → Shared → Prop} (hu : A.units + 1 < cLine) (I : Inv X pins σ H s) (g : DPut H a y v H') (ry : RelV y u) (rv : RelV v r) (h : ∀ s', Inv X pins σ H' s' → Q () s') :
    wpAny (model X.prog X.w) A (setItem (.ref a) u r) Q E s := by
  rcases g with ⟨kvs, k, e, ey, l, eH⟩ | ⟨kvs, k, b, e, ey, eb, l, eH⟩
  · subst ey eH
    obtain ⟨z, hd, vs, rel, dd⟩ := dk_of I.hok e
    have hz : vs.length ≤ sizeLine := by rw [← rel.length]; exact z
    have hl : (putK kvs k v).length ≤ sizeLine := by have := length_putK kvs k v; omega
    refine wpAny_setItem_pairs (hsz := hz) (kV_is ry) dd fun h' dd' hs => h _ ?_
    have he : ∃ q, h'.get? a = some q := let ⟨q, _, _, hq, _⟩ := dd'; ⟨q, hq⟩
    exact d_write I (by rw [e]; exact True.intro) hs he (dk_new hl hd (rel.put k rv) dd')
  · subst ey eH
    cases (show u = Value.ref b from ry)
    obtain ⟨z, hd, xs, rel, dd⟩ := dt_of I.hok e
    have hz : xs.length ≤ sizeLine := by rw [← Paired.length rel]; exact z
    have hl : (putK kvs k v).length ≤ sizeLine := by have := length_putK kvs k v; omega
    refine wpAny_setItem_heap (hsz := hz) (tupleKind_room_in1 hu) (key_of I.hok eb) dd fun h' dd' hs => h _ ?_
    obtain ⟨q, es, ep, hq, h2, h3, h4, _, h5⟩ := dd'
    refine d_write I (by rw [e]; exact True.intro) hs ⟨q, hq⟩ ⟨hl, hd, _, (rel.put k eb rv).keeps fun c ys ec => ?_, q, es, ep, hq, h2, h3, h4, h5⟩
    rw [upd_ne (ne_of ec e (fun z => nomatch z))]
    exact ec
end
section
variable {X : Cx} {pins : List (Addr × Obj)} {σ : St} {H : Hp} {s : Shared} {a : Addr} {kvs : List (Key × V)} {k : Key} {u : Value} {A : Around} {E : Value → Shared → Prop}
theorem d_len {Q : Value → Shared → Prop} (I : Inv X pins σ H s) (e : Rd H a (.dK kvs)) (h : ∀ t s', Inv X pins σ H s' → Q (.int kvs.length t) s') : wpAny (model X.prog X.w) A (call (.builtin "len") [.ref a]) Q E s := by
  obtain ⟨z, hd, vs, rel, dd⟩ := dk_rd I.hok e
  refine call_len_dict hd dd (by rw [← rel.length]; rw [sizeLine_eq] at z; omega) ?_
  rw [← rel.length]
  exact h _ _ (I.tok _)
end
def NoSl (i : Expr) : Prop := ∀ ov iv, subscripted i false ov iv = operate [ov, iv] (getItem ov iv)
theorem subD_of {prog : Program} {w : World} {A : Around} {E : Value → Shared → Prop} {s : Shared} {env : Env} {value slice : Expr} {pos : Pos} {T id : String} {Q : Value → Shared → Prop}
    (hl : typeLookup (.type T) "__getitem__" = pure (some (.builtin id))) (hs : NoSl slice)
    (h : wpAny (model prog w) A (eval value env) (fun o s₁ => wpAny (model prog w) A (eval slice env) (fun i s₂ => s₂.TypeIs o T ∧ wpAny (model prog w) A (getItem o i) Q E s₂) E s₁) E s) :
    wpAny (model prog w) A (eval (.Subscript value slice pos) env) Q E s := by
  refine Subscript_ (wpAny_mono h (fun o s₁ h₁ => wpAny_mono h₁ (fun i s₂ h₂ => ?_) fun _ _ x => x) fun _ _ x => x)
  obtain ⟨hT, h₂⟩ := h₂
  unfold subscriptTail
  refine wpAny_bind ?_
  rw [getitemInPython_of_ne hT.not_modules]
  refine wpAny_bind (wpAny_specialOf hT hl ?_)
  have fin : wpAny (model prog w) A (subscripted slice false o i) (fun r s₃ => wpAny (model prog w) A (letTemporaryGo value o r >>= fun _ => pure r) Q E s₃) E s₂ := by
    rw [hs o i]
    exact wpAny_operating (wpAny_mono h₂ (fun r s₃ h₃ => wpAny_bind (wpAny_letTemporaryGo (wpAny_pure h₃))) fun _ _ x => x)
  first
    | exact wpAny_pure (wpAny_bind fin)
    | exact wpAny_bind (wpAny_pure (wpAny_bind fin))
    | exact wpAny_bind fin
theorem dict_typeIs {X : Cx} {pins : List (Addr × Obj)} {σ : St} {H : Hp} {s : Shared} {a : Addr} {y : V} {o : Option V} (I : Inv X pins σ H s) (g : DGet H a y o) : s.TypeIs (.ref a) "dict" := by
  rcases g with ⟨kvs, k, e, _, _⟩ | ⟨kvs, k, b, e, _, _, _⟩
  · obtain ⟨_, _, vs, _, dd⟩ := dk_rd I.hok e
    exact dd.typeIs
  · obtain ⟨_, _, xs, _, dd⟩ := dt_rd I.hok e
    exact dd.typeIs
def tDGet (td ty : TE) : TE := fun σ H Q => td σ H fun x H1 => ty σ H1 fun y H2 => ∃ a v, x = .ref a ∧ DGet H2 a y (some v) ∧ Q v H2
def tDNotIn (ty td : TE) : TE := fun σ H Q => ty σ H fun y H1 => td σ H1 fun x H2 => ∃ a o, x = .ref a ∧ DGet H2 a y o ∧ Q (.bl (!o.isSome)) H2
def sDPut (td ty tv : TE) : TS := fun D σ H => tv σ H fun v H1 => td σ H1 fun x H2 => ty σ H2 fun y H3 => ∃ a H4, x = .ref a ∧ DPut H3 a y v H4 ∧ D.nx σ H4
section
variable {X : Cx} {o i e value : Expr} {pos pos' tpos : Pos} {td ty tv : TE}
theorem pe_dget (hu : X.A.units + 1 < cLine) (ho : PE X o td) (hi : PE X i ty) (hs : NoSl i) : PE X (.Subscript o i pos) (tDGet td ty) := by
  intro pins s σ H Q I h
  refine subD_of PySem.F.slot_dict_getitem.lookup hs (thn (ho pins s σ H _ I h) fun u s1 ⟨x, H1, I1, rx, q1⟩ => thn (hi pins s1 σ H1 _ I1 q1) fun iv s2 ⟨y, H2, I2, ry, a, v, ex, g, q2⟩ => ?_)
  subst ex
  obtain rfl : u = Value.ref a := rx
  exact ⟨dict_typeIs I2 g, d_getItem hu I2 g ry fun w' s3 I3 rw' => ⟨v, H2, I3, rw', q2⟩⟩
theorem pc_dnotin (hu : X.A.units + 1 < cLine) (hi : PE X i ty) (ho : PE X o td) : PC X .NotIn i o (tDNotIn ty td) := by
  intro pins s σ H Q I h
  refine thn (hi pins s σ H _ I h) fun iv s1 ⟨y, H1, I1, ry, q1⟩ => thn (ho pins s1 σ H1 _ I1 q1) fun u s2 ⟨x, H2, I2, rx, a, ov, ex, g, q2⟩ => ?_
  subst ex
  obtain rfl : u = Value.ref a := rx
  exact d_notIn hu I2 g ry fun s3 I3 => ⟨.bl (!ov.isSome), H2, I3, rfl, q2⟩
theorem ps_dput (hu : X.A.units + 1 < cLine) (ho : PE X o td) (hi : PE X i ty) (hv : PE X value tv) (hs : swapsWith value (some (.Subscript o i pos')) pos.line X.env = pure false) :
    PS X (.Assign [.Subscript o i pos'] value pos) (sDPut td ty tv) := by
  intro pins s σ H D I h
  refine wpAny_Assign_Subscript (thn (hv pins s σ H _ I h) fun r s1 ⟨v, H1, I1, rv, q1⟩ => thn (ho pins s1 σ H1 _ I1 q1) fun u s2 ⟨x, H2, I2, rx, q2⟩ => thn (hi pins s2 σ H2 _ I2 q2) fun iv s3 ⟨y, H3, I3, ry, a, H4, ex, g, q3⟩ => ?_) hs
  subst ex
  obtain rfl : u = Value.ref a := rx
  exact d_setItem hu I3 g ry rv fun s4 I4 => ⟨σ, H4, I4, q3⟩
end
theorem dk_empty {P : Program} {w : World} {H : Hp} (h : Heap) (hb : sysModules < h.objs.size) : ObjOk P w H (h.push { cls := .type "dict", data := .dict #[] }) h.objs.size (.dK []) :=
  ⟨Nat.zero_le _, beq_eq_false_iff_ne.mpr (Ne.symm (Nat.ne_of_lt hb)), [], .nil, Heap.DictOf.new h⟩
def tDNewK : TE := fun _ H Q => ∀ p, H p = none → Q (.ref p) (upd H p (.dK []))
section
variable {X : Cx} {pos : Pos}
theorem pe_dnewK : PE X (.Dict [] [] pos) tDNewK := fun pins s σ H Q I h =>
  wpAny_Dict_empty ⟨.ref s.heap.objs.size, _, I.laid (a := s.heap.objs.size) (o := .dK []) (t' := s.toks) (fun _ _ q => Heap.get?_push_of_some _ q) (Nat.le_refl _) (dk_empty s.heap I.big), rfl, h _ (I.hok.fresh (Nat.le_refl _))⟩
end
section
variable {X : Cx} {pins : List (Addr × Obj)} {σ : St} {H : Hp} {s : Shared} {a : Addr} {y d : V} {u r : Value} {o : Option V} {A : Around} {E : Value → Shared → Prop}
end
section
variable {X : Cx} {o e f : Expr} {apos cpos : Pos} {td ty tx : TE}
end
section
variable {X : Cx} {pins : List (Addr × Obj)} {σ : St} {H : Hp} {s : Shared} {a : Addr} {kvs : List (Key × V)} {A : Around} {E : Value → Shared → Prop}
theorem d_copyOf {Q : Value → Shared → Prop} (I : Inv X pins σ H s) (e : Rd H a (.dK kvs)) (h : ∀ p s', H p = none → Inv X pins σ (upd H p (.dK kvs)) s' → Q (.ref p) s') : wpAny (model X.prog X.w) A (call (.type "dict") [.ref a]) Q E s := by
  obtain ⟨z, hd, vs, rel, dd⟩ := dk_rd I.hok e
  refine kt_call_dict hd dd (by rw [← rel.length]; exact z) fun h' dd' hs => ?_
  refine h _ _ (I.hok.fresh (Nat.le_refl _)) (I.laid (a := s.heap.objs.size) (o := .dK kvs) (t' := s.toks) (fun b q hq => ?_) (Nat.le_refl _) (dk_new z (beq_eq_false_iff_ne.mpr (Ne.symm (Nat.ne_of_lt I.big))) rel dd'))
  exact (hs.2 b (Nat.ne_of_lt (Heap.lt_size hq))).trans (Heap.get?_push_of_some _ hq)
end
section
variable {X : Cx} {pins : List (Addr × Obj)} {σ : St} {H : Hp} {s : Shared} {a : Addr} {y : V} {u : Value} {A : Around} {E : Value → Shared → Prop}
end
end L2
namespace L2
open PySem PySem.Spec PyProof.Rows
section
variable {X : Cx}
theorem call_lenD : CallR X (.builtin "len") (fun xs H Q => ∃ a kvs, xs = [V.ref a] ∧ H a = some (.dK kvs) ∧ Q (.int kvs.length) H) := by
  intro pins s σ H xs us Q I r h
  obtain ⟨a, kvs, rfl, ha, q⟩ := h
  obtain ⟨u, rfl, ru⟩ := vals1 r
  cases ru
  exact d_len I (.inl ha) fun t s' I' => ⟨.int kvs.length, H, I', ⟨t, rfl⟩, q⟩
end
section
variable {κ : Type} [DecidableEq κ]
end
end L2
set_option Elab.async false
set_option linter.all false
set_option maxRecDepth 100000
set_option maxHeartbeats 4000000
namespace L2
open PySem PySem.Spec PyProof.Rows
def clOf (env : Env) : List (Str × NameKind) → List (Str × Addr) → List (Str × Addr)
  | [], cs => cs
  | (n, k) :: r, cs => if (k == NameKind.free) = true then (match env.cells.lookup n with | some c => clOf env r ((n, c) :: cs) | none => clOf env r cs) else clOf env r cs
theorem closure_list {env : Env} : ∀ (l : List (Str × NameKind)) (cs : List (Str × Addr)), (∀ x ∈ l, x.2 = .free → ∃ c, env.cells.lookup x.1 = some c) →
    (forIn l cs (fun (x : Str × NameKind) (cs : List (Str × Addr)) => match x with
      | (name, kind) => if (kind == NameKind.free) = true then (do let c ← cellOf env name; pure (ForInStep.yield ((name, c) :: cs))) else pure (ForInStep.yield cs)) : Sem (List (Str × Addr))) = pure (clOf env l cs)
  | [], _, _ => rfl
  | (n, k) :: r, cs, h => by
    rw [List.forIn_cons]
    have hr : ∀ x ∈ r, x.2 = .free → ∃ c, env.cells.lookup x.1 = some c := fun x hx => h x (List.mem_cons_of_mem _ hx)
    by_cases hk : (k == NameKind.free) = true
    · obtain ⟨c, hc⟩ := h (n, k) List.mem_cons_self (by simpa using hk)
      have e1 : clOf env ((n, k) :: r) cs = clOf env r ((n, c) :: cs) := by
        show (if (k == NameKind.free) = true then _ else _) = _
        rw [if_pos hk]
        have hc : env.cells.lookup n = some c := hc
        rw [hc]
      have e2 : cellOf env n = pure c := by
        have hc : env.cells.lookup n = some c := hc
        unfold cellOf; rw [hc]
      rw [e1, ← closure_list r ((n, c) :: cs) hr]
      show (if (k == NameKind.free) = true then (do let c ← cellOf env n; pure (ForInStep.yield ((n, c) :: cs))) else pure (ForInStep.yield cs)) >>= _ = _
      rw [if_pos hk, e2, pure_bind, pure_bind]
    · have e1 : clOf env ((n, k) :: r) cs = clOf env r cs := by
        show (if (k == NameKind.free) = true then _ else _) = _
        rw [if_neg hk]
      rw [e1, ← closure_list r cs hr]
      show (if (k == NameKind.free) = true then (do let c ← cellOf env n; pure (ForInStep.yield ((n, c) :: cs))) else pure (ForInStep.yield cs)) >>= _ = _
      rw [if_neg hk, pure_bind]
theorem closureFor_of {scope : Scope} {env : Env} (h : ∀ x ∈ scope.names, x.2 = .free → ∃ c, env.cells.lookup x.1 = some c) : closureFor scope env = pure (clOf env scope.names []) := by
  unfold closureFor
  have e := closure_list (env := env) scope.names [] h
  first
    | exact e
    | (refine Eq.trans ?_ e; rfl)
    | (rw [bind_pure]; exact e)
    | simpa using e
theorem clOf_sub {env : Env} {x : Str} {c : Addr} : ∀ {l : List (Str × NameKind)} {cs : List (Str × Addr)}, (∀ y d, cs.lookup y = some d → env.cells.lookup y = some d) → (clOf env l cs).lookup x = some c → env.cells.lookup x = some c
  | [], cs, h, e => h x c e
  | (n, k) :: r, cs, h, e => by
    unfold clOf at e
    by_cases hk : (k == NameKind.free) = true
    · rw [if_pos hk] at e
      cases q : env.cells.lookup n with
      | none => rw [q] at e; exact clOf_sub h e
      | some d =>
        rw [q] at e
        refine clOf_sub (fun y z hy => ?_) e
        rw [List.lookup_cons] at hy
        cases hyn : y == n with
        | true =>
          rw [hyn] at hy
          have : y = n := by simpa using hyn
          subst this
          rw [q]; exact hy
        | false => rw [hyn] at hy; exact h y z hy
    · rw [if_neg hk] at e; exact clOf_sub h e
theorem clOf_keeps {env : Env} {x : Str} {c : Addr} (hx : env.cells.lookup x = some c) : ∀ {l : List (Str × NameKind)} {cs : List (Str × Addr)}, cs.lookup x = some c → (clOf env l cs).lookup x = some c
  | [], _, h => h
  | (n, k) :: r, cs, h => by
    unfold clOf
    by_cases hk : (k == NameKind.free) = true
    · rw [if_pos hk]
      cases q : env.cells.lookup n with
      | none => exact clOf_keeps hx h
      | some d =>
        refine clOf_keeps hx ?_
        rw [List.lookup_cons]
        cases hxn : x == n with
        | true =>
          have : x = n := by simpa using hxn
          subst this
          rw [← q, hx]
        | false => exact h
    · rw [if_neg hk]; exact clOf_keeps hx h
theorem clOf_has {env : Env} {x : Str} {c : Addr} (hx : env.cells.lookup x = some c) : ∀ {l : List (Str × NameKind)} {cs : List (Str × Addr)}, (x, NameKind.free) ∈ l → (clOf env l cs).lookup x = some c
  | [], _, h => nomatch h
  | (n, k) :: r, cs, h => by
    unfold clOf
    rcases List.mem_cons.mp h with e | h
    · cases e
      rw [if_pos (show (NameKind.free == NameKind.free) = true by decide), hx]
      exact clOf_keeps hx (by rw [List.lookup_cons]; simp)
    · by_cases hk : (k == NameKind.free) = true
      · rw [if_pos hk]
        cases q : env.cells.lookup n with
        | none => exact clOf_has hx h
        | some d => exact clOf_has hx h
      · rw [if_neg hk]; exact clOf_has hx h
theorem cellsFrom_out {x : Str} : ∀ {l : List (Str × NameKind)} {n : Nat} {acc : List (Str × Addr)}, (∀ y ∈ l, y.2 = .cell → y.1 ≠ x) → (cellsFrom n l acc).lookup x = acc.lookup x
  | [], _, _, _ => rfl
  | (y, k) :: r, n, acc, h => by
    have hr : ∀ z ∈ r, z.2 = .cell → z.1 ≠ x := fun z hz => h z (List.mem_cons_of_mem _ hz)
    unfold cellsFrom
    split
    · rename_i hk
      rw [cellsFrom_out hr, List.lookup_cons]
      have : (x == y) = false := by
        have := h (y, k) List.mem_cons_self (by simpa using hk)
        exact beq_eq_false_iff_ne.mpr (fun z => this z.symm)
      rw [this]
    · exact cellsFrom_out hr
theorem cellsFrom_or {x : Str} {c : Addr} : ∀ {l : List (Str × NameKind)} {n : Nat} {acc : List (Str × Addr)}, (cellsFrom n l acc).lookup x = some c → acc.lookup x = some c ∨ (n ≤ c ∧ (x, NameKind.cell) ∈ l)
  | [], _, _, h => .inl h
  | (y, k) :: r, n, acc, h => by
    unfold cellsFrom at h
    split at h
    · rename_i hk
      have hk' : k = .cell := by simpa using hk
      rcases cellsFrom_or h with z | ⟨z1, z2⟩
      · rw [List.lookup_cons] at z
        cases hx : x == y with
        | true =>
          rw [hx] at z
          have e : n = c := Option.some.inj z
          have e2 : x = y := by simpa using hx
          subst e2; subst hk'
          exact .inr ⟨Nat.le_of_eq e, List.mem_cons_self⟩
        | false => rw [hx] at z; exact .inl z
      · exact .inr ⟨Nat.le_trans (Nat.le_succ _) z1, List.mem_cons_of_mem _ z2⟩
    · rcases cellsFrom_or h with z | ⟨z1, z2⟩
      · exact .inl z
      · exact .inr ⟨z1, List.mem_cons_of_mem _ z2⟩
theorem cellsFrom_inj : ∀ {l : List (Str × NameKind)} {n : Nat} {acc : List (Str × Addr)}, (∀ x y c, acc.lookup x = some c → acc.lookup y = some c → x = y) → (∀ z d, acc.lookup z = some d → d < n) → ∀ x y c, (cellsFrom n l acc).lookup x = some c → (cellsFrom n l acc).lookup y = some c → x = y
  | [], _, _, p, _ => p
  | (w, k) :: r, n, acc, p, lt => by
    unfold cellsFrom
    split
    · refine cellsFrom_inj (l := r) (n := n + 1) (acc := (w, n) :: acc) (fun x y c h1 h2 => ?_) (fun z d h => ?_)
      · rw [List.lookup_cons] at h1 h2
        cases hx : x == w with
        | true =>
          rw [hx] at h1
          have e1 : n = c := Option.some.inj h1
          cases hy : y == w with
          | true => exact (by simpa using hx : x = w).trans (by simpa using hy : y = w).symm
          | false =>
            rw [hy] at h2
            have := lt y c h2
            rw [← e1] at this
            exact absurd this (Nat.lt_irrefl _)
        | false =>
          rw [hx] at h1
          cases hy : y == w with
          | true =>
            rw [hy] at h2
            have e2 : n = c := Option.some.inj h2
            have := lt x c h1
            rw [← e2] at this
            exact absurd this (Nat.lt_irrefl _)
          | false => rw [hy] at h2; exact p x y c h1 h2
      · rw [List.lookup_cons] at h
        cases hz : z == w with
        | true =>
          rw [hz] at h
          have e : n = d := Option.some.inj h
          rw [← e]; exact Nat.lt_succ_self _
        | false =>
          rw [hz] at h
          exact Nat.lt_succ_of_lt (lt z d h)
    · exact cellsFrom_inj p lt
theorem cellsFrom_cell {x : Str} {c : Addr} : ∀ {l : List (Str × NameKind)} {h : Heap} {acc : List (Str × Addr)}, (∀ y d, acc.lookup y = some d → ∃ v, h.IsCell d v) → (cellsFrom h.objs.size l acc).lookup x = some c → ∃ v, (pushCells h l).IsCell c v
  | [], _, _, hA, e => hA x c e
  | (y, k) :: r, h, acc, hA, e => by
    unfold cellsFrom at e
    unfold pushCells
    split at e
    · rename_i hk
      rw [if_pos hk]
      have hs : (h.push { cls := .type "cell", data := .cell none } : Heap).objs.size = h.objs.size + 1 := Heap.size_push ..
      rw [← hs] at e
      refine cellsFrom_cell (fun z d hz => ?_) e
      rw [List.lookup_cons] at hz
      cases hzy : z == y with
      | true =>
        rw [hzy] at hz
        have e : h.objs.size = d := Option.some.inj hz
        subst e
        exact ⟨none, _, Heap.get?_push_size _ rfl, rfl⟩
      | false =>
        rw [hzy] at hz
        obtain ⟨v, o, ho, hd⟩ := hA z d hz
        exact ⟨v, o, Heap.get?_push_of_some _ ho, hd⟩
    · rename_i hk
      rw [if_neg hk]
      exact cellsFrom_cell hA e
theorem wpAny_newEnv_block {M : Model} {A : Around} {E : Value → Shared → Prop} {s : Shared} {scope : Scope} {globals : Addr} {cl : List (Str × Addr)} {qual : Str} {outer : Env} {Q : Env → Shared → Prop}
    (h : Q (newEnv scope s.heap.objs.size globals (cellsFrom (s.heap.objs.size + 1) scope.names cl) qual none .none (some outer) builtinsNs) { s with heap := pushCells (s.heap.push { cls := .type "dict", data := .dict #[] }) scope.names }) :
    wpAny M A (newFunctionEnv scope globals cl [] qual none .none (some outer)) Q E s := by
  simp only [newFunctionEnv, Option.isSome_some, if_true]
  refine wpAny_bind (wpAny_alloc ?_)
  refine wpAny_bind (wpAny_layCells _ (fun name kind cells => by cases hkc : kind == NameKind.cell <;> simp [hkc]) _ _ _ _ ?_)
  rw [show ({ s with heap := s.heap.push { cls := .type "dict", data := .dict #[] } } : Shared).heap.objs.size = s.heap.objs.size + 1 from Heap.size_push ..]
  rw [List.forIn_nil]
  exact wpAny_bind (wpAny_pure (wpAny_pure h))
theorem clOf_none {env : Env} {x : Str} : ∀ {l : List (Str × NameKind)} {cs : List (Str × Addr)}, (∀ y ∈ l, y.2 = .free → y.1 ≠ x) → (clOf env l cs).lookup x = cs.lookup x
  | [], _, _ => rfl
  | (n, k) :: r, cs, h => by
    have hr : ∀ z ∈ r, z.2 = .free → z.1 ≠ x := fun z hz => h z (List.mem_cons_of_mem _ hz)
    unfold clOf
    by_cases hk : (k == NameKind.free) = true
    · rw [if_pos hk]
      have nx : (x == n) = false := beq_eq_false_iff_ne.mpr fun z => h (n, k) List.mem_cons_self (by simpa using hk) z.symm
      cases q : env.cells.lookup n with
      | none => exact clOf_none hr
      | some d =>
        rw [show (clOf env r ((n, d) :: cs)).lookup x = ((n, d) :: cs).lookup x from clOf_none hr, List.lookup_cons, nx]
    · rw [if_neg hk]; exact clOf_none hr
def Cx.block (X : Cx) (scope : Scope) (C : Addr) (s₀ : Shared) (H₀ : Hp) (ex : List Addr) (N : List Str) : Cx where
  prog := X.prog
  w := X.w
  K := X.K
  mg := X.mg
  base := X.base
  A := X.A
  N := N
  s₀ := s₀
  H₀ := H₀
  env := compEnvC scope (cellsFrom (C + 1) scope.names (clOf X.env scope.names [])) C X.env
  outer := X.stack
  stack := X.stack
  ex := ex
  fn := fun x => scope.names.lookup x == some .cell
  calm := X.calm
  pn := []
  xe := fun _ _ => False
structure BlkSc (X : Cx) (scope : Scope) : Prop where
  kind : scope.kind = .function
  apart : ∀ y ∈ scope.names, ∀ z ∈ scope.names, y.2 = .cell → z.2 = .free → y.1 ≠ z.1
  owns : ∀ y ∈ scope.names, y.2 = .cell → scope.names.lookup y.1 = some .cell
  free : ∀ y ∈ scope.names, y.2 = .free → X.env.kindOf y.1 = some .cell ∨ X.env.kindOf y.1 = some .free
  locs : ∀ y ∈ scope.names, y.2 = .local → scope.names.lookup y.1 = some .local
theorem relabel_kind {scope : Scope} {env : Env} {x : Str} {k : NameKind} : ∀ {l : List (Str × NameKind)}, 
    (l.map fun (n, k) => if (k == NameKind.free && env.scope.kind == .function && env.kindOf n == some .cell) then (n, NameKind.cell) else (n, k)).lookup x = some k →
    k = .cell ∨ k = .free → ∃ k', (x, k') ∈ l ∧ (k' = .cell ∨ k' = .free)
  | [], h, _ => by simp at h
  | (n, j) :: r, h, hk => by
    have h : List.lookup x ((if (j == NameKind.free && env.scope.kind == .function && env.kindOf n == some .cell) = true then (n, NameKind.cell) else (n, j)) :: (r.map fun (n, k) => if (k == NameKind.free && env.scope.kind == .function && env.kindOf n == some .cell) then (n, NameKind.cell) else (n, k))) = some k := h
    by_cases hc : (j == NameKind.free && env.scope.kind == .function && env.kindOf n == some .cell) = true
    · rw [if_pos hc, List.lookup_cons] at h
      have hj : j = .free := by
        simp only [Bool.and_eq_true] at hc
        simpa using hc.1.1
      cases hx : x == n with
      | true =>
        have : x = n := by simpa using hx
        subst this
        exact ⟨j, List.mem_cons_self, .inr hj⟩
      | false =>
        rw [hx] at h
        obtain ⟨k', m, q⟩ := relabel_kind (scope := scope) h hk
        exact ⟨k', List.mem_cons_of_mem _ m, q⟩
    · rw [if_neg hc, List.lookup_cons] at h
      cases hx : x == n with
      | true =>
        rw [hx] at h
        have e : j = k := Option.some.inj h
        have : x = n := by simpa using hx
        subst this
        exact ⟨j, List.mem_cons_self, by rw [e]; exact hk⟩
      | false =>
        rw [hx] at h
        obtain ⟨k', m, q⟩ := relabel_kind (scope := scope) h hk
        exact ⟨k', List.mem_cons_of_mem _ m, q⟩
inductive Draws (X : Cx) (scope : Scope) : List Str → List (Option Nat) → Prop
  | nil : Draws X scope [] []
  | own {x : Str} {N : List Str} {ix : List (Option Nat)} : Draws X scope N ix → Draws X scope (x :: N) (Option.none :: ix)
  | tk {x : Str} {N : List Str} {ix : List (Option Nat)} {i : Nat} (hN : X.N[i]? = some x) (hv : Vis X.env.scope x) (hk : (relabel scope X.env).names.lookup x = some .cell ∨ (relabel scope X.env).names.lookup x = some .free) (hf : (x, NameKind.free) ∈ scope.names) :
      Draws X scope N ix → Draws X scope (x :: N) (some i :: ix)
def blkSt (σ : St) (ix : List (Option Nat)) : St := ix.map fun o => o.bind fun i => (σ[i]?).join
theorem Draws.len {X : Cx} {scope : Scope} {N : List Str} {ix : List (Option Nat)} (D : Draws X scope N ix) : ix.length = N.length := by
  induction D with
  | nil => rfl
  | own _ ih => simp [ih]
  | tk _ _ _ _ _ ih => simp [ih]
theorem Draws.get {X : Cx} {scope : Scope} {N : List Str} {ix : List (Option Nat)} {σ : St} (D : Draws X scope N ix) : ∀ (j : Nat) (x : Str) (v : V), N[j]? = some x → (blkSt σ ix)[j]? = some (some v) →
    ∃ (i : Nat), X.N[i]? = some x ∧ σ[i]? = some (some v) ∧ Vis X.env.scope x ∧ ((relabel scope X.env).names.lookup x = some .cell ∨ (relabel scope X.env).names.lookup x = some .free) ∧ (x, NameKind.free) ∈ scope.names := by
  induction D with
  | nil => intro j x v h; simp at h
  | own d ih =>
    intro j x v h1 h2
    cases j with
    | zero => simp [blkSt] at h2
    | succ j => exact ih j x v (by simpa using h1) (by simpa [blkSt] using h2)
  | @tk y N ix i hN hv hk hf d ih =>
    intro j x v h1 h2
    cases j with
    | zero =>
      have e : y = x := by simpa using h1
      subst e
      refine ⟨i, hN, ?_, hv, hk, hf⟩
      have h2 : ((σ[i]?).join) = some v := by simpa [blkSt] using h2
      cases q : σ[i]? with
      | none => rw [q] at h2; cases h2
      | some o => rw [q] at h2; exact congrArg some h2
    | succ j => exact ih j x v (by simpa using h1) (by simpa [blkSt] using h2)
section
variable {X : Cx} {pins : List (Addr × Obj)} {σ : St} {H : Hp} {s : Shared} {scope : Scope} {N : List Str} {ix : List (Option Nat)} {fp : List Addr}
theorem Inv.nostk (I : Inv X pins σ H s) {b : Addr} (h1 : b ≠ X.env.locals) (h2 : b ∉ X.fs) : b ∉ frs X.stack := fun z => (List.mem_cons.mp (I.stkSub b z)).elim h1 h2
theorem Inv.blockStart {h' : Heap} {tk : Nat} {m : Str → Option Value} (I : Inv X pins σ H s) (B : BlkSc X scope) (D : Draws X scope N ix) (hfp : ∀ b ∈ fp, FpOk X pins H b) (hfo : ∀ b ∈ fp, ∃ o, s.heap.get? b = some o)
    (hns : h'.Ns s.heap.objs.size m) (hk : ∀ b o, s.heap.get? b = some o → h'.get? b = some o) (hcl : ∀ x c, (cellsFrom (s.heap.objs.size + 1) scope.names (clOf X.env scope.names [])).lookup x = some c → ∃ v, h'.IsCell c v) :
    Inv (X.block scope s.heap.objs.size s H fp N) (X.pn ++ pins) (blkSt σ ix) H { s with heap := h', toks := tk } := by
  have sub : ∀ {x : Str} {c : Addr}, (clOf X.env scope.names []).lookup x = some c → X.env.cells.lookup x = some c := fun {x c} e => clOf_sub (fun y d z => by simp at z) e
  have old : ∀ {x : Str} {c : Addr}, (clOf X.env scope.names []).lookup x = some c → c < s.heap.objs.size := fun {x c} e => by
    obtain ⟨v, o, ho, _⟩ := I.cell x c (sub e)
    exact Heap.lt_size ho
  have two : ∀ {x : Str} {c : Addr}, (cellsFrom (s.heap.objs.size + 1) scope.names (clOf X.env scope.names [])).lookup x = some c → X.env.cells.lookup x = some c ∨ s.heap.objs.size < c := fun {x c} e => by
    rcases cellsFrom_or e with z | ⟨z, _⟩
    · exact .inl (sub z)
    · exact .inr z
  have own : ∀ {x : Str}, (x, NameKind.free) ∈ scope.names → (cellsFrom (s.heap.objs.size + 1) scope.names (clOf X.env scope.names [])).lookup x = (clOf X.env scope.names []).lookup x := fun {x} hx => cellsFrom_out fun y hy e => B.apart y hy _ hx e rfl
  have okB : (X.block scope s.heap.objs.size s H fp N).Ok := by
    refine ⟨I.ok.mod, B.kind, I.ok.glob, I.ok.blt, Nat.le_refl _, cellsFrom_inj (fun x y c h1 h2 => I.ok.inj x y c (sub h1) (sub h2)) (fun z d h => Nat.lt_succ_of_lt (old h)), fun x hx => ?_, (fun x c z e => ?_), I.ok.hd, I.ok.frames, .inl rfl, fun b hb => ⟨?_, fun x c e => ?_⟩,
      I.bs, Nat.le_trans I.ok.bsz I.sz, fun b o e hb => ?_, fun b hb => I.nostk (hfp b hb).2.1 (hfp b hb).2.2.1, I.stack, I.stkFree⟩
    · have hx' : (relabel scope X.env).names.lookup x = some .cell ∨ (relabel scope X.env).names.lookup x = some .free := hx
      have key : ∃ k', (x, k') ∈ scope.names ∧ (k' = .cell ∨ k' = .free) := by
        rcases hx' with e | e
        · exact relabel_kind (scope := scope) e (.inl rfl)
        · exact relabel_kind (scope := scope) e (.inr rfl)
      obtain ⟨k', m1, q⟩ := key
      rcases q with q | q
      · subst q
        exact Option.isSome_iff_exists.mp (PySem.W.cellsFrom_some _ _ _ (.inl (B.owns _ m1 rfl)))
      · subst q
        obtain ⟨c, hc⟩ := I.ok.has x (B.free _ m1 rfl)
        exact ⟨c, (own m1).trans (clOf_has hc m1)⟩
    · rcases cellsFrom_or e with q | ⟨q, _⟩
      · have z : scope.names.lookup x = some .cell := by
          have z : (scope.names.lookup x == some NameKind.cell) = true := z
          simpa using z
        have hm := PySem.mem_of_lookup z
        have : (x, NameKind.free) ∈ scope.names ∨ True := .inr trivial
        exact absurd q (by
          rw [clOf_none (fun y hy e1 e2 => B.apart _ hm y hy rfl e1 e2.symm)]
          intro h; cases h)
      · exact Nat.le_of_lt q
    · obtain ⟨o, e⟩ := hfo b hb
      exact Nat.ne_of_lt (Heap.lt_size e)
    · rcases two e with z | z
      · exact (hfp b hb).2.2.2.2.1 x c z
      · obtain ⟨o, e⟩ := hfo b hb
        exact Nat.ne_of_gt (Nat.lt_trans (Heap.lt_size e) z)
    · rcases (hfp b hb).2.2.2.1 with z | z
      · exact I.ok.noex b o e z
      · exact absurd (Nat.lt_of_lt_of_le (Heap.lt_size (I.ok.bs b o e).1) z) (Nat.lt_irrefl _)
  refine ⟨okB, rfl, I.bare, Un.kept hk, ⟨m, hns, fun j x v h1 h2 h3 => ?_⟩, fun x c e => ?_, I.hok.fresh (Nat.le_refl _), fun x c e => (two e).elim (fun z => I.freeC x c z) (fun z => I.hok.fresh (Nat.le_of_lt z)), fun p hp => ?_, I.hok.kept hk, ?_⟩
  · obtain ⟨i, e1, e2, vis, kd, fr⟩ := D.get j x v h1 h2
    obtain ⟨m0, hn0, hl⟩ := I.loc
    obtain ⟨u, r, l⟩ := hl i x v e1 e2 vis
    refine ⟨u, r, ?_⟩
    rcases l with ⟨k, _⟩ | ⟨_, c, hc, o, ho, hd⟩
    · rcases B.free _ fr rfl with z | z
      · have z : X.env.kindOf x = some .cell := z
        rw [k] at z; cases z
      · have z : X.env.kindOf x = some .free := z
        rw [k] at z; cases z
    · exact .inr ⟨kd, c, (own fr).trans (clOf_has hc fr), o, hk c o ho, hd⟩
  · exact hcl x c e
  · have hp' : p ∈ X.pn ++ pins := by simpa [Cx.block] using hp
    obtain ⟨e, n, ne, nf, d⟩ := I.pin p hp'
    exact ⟨hk _ _ e, n, Nat.ne_of_lt (Heap.lt_size e), I.nostk ne nf, d⟩
  · show (blkSt σ ix).length = N.length
    unfold blkSt
    rw [List.length_map]
    exact D.len
end
def PTs (X : Cx) (ifs : List Expr) (t : TT) : Prop :=
  ∀ (pins : List (Addr × Obj)) (s : Shared) (σ : St) (H : Hp) (Q : Bool → Hp → Prop), Inv X pins σ H s → t σ H Q →
    wpAny (model X.prog X.w) X.A (forIn ifs true fun c r => if r = true then do let ok ← isTrue c X.env (eval c X.env); pure (ForInStep.yield ok) else pure (ForInStep.yield r)) (TP X pins σ Q) X.xe s
def tTrue : TT := fun _ H Q => Q true H
theorem pts_nil {X : Cx} : PTs X [] tTrue := fun _ _ _ H _ I h => wpAny_tests_nil ⟨H, I, h⟩
theorem pts_one {X : Cx} {c : Expr} {t : TT} (h : PT X c t) : PTs X [c] t := fun pins s σ H Q I hw => wpAny_tests_one (h pins s σ H Q I hw)
theorem comp_loop {prog : Program} {w : World} {A : Around} {R : Result → Shared → Prop} {s : Shared} {elt target iter : Expr} {ifs : List Expr} {scope : Scope} {pos : Pos} {it acc : Value} {env : Env} (I : Nat → Shared → Prop)
    (turn : ∀ n s, I n s → wpAny (model prog w) A (pyNext it) (fun r s₁ => match r with
      | none => R (.ok .next) s₁
      | some v => wpAny (model prog w) A (letOwnedTupleGo target it v) (fun _ s₁' => wpAny (model prog w) A (assign target env v) (fun _ s₂ =>
          wpAny (model prog w) A (forIn ifs true fun c r => if r = true then do let ok ← isTrue c env (eval c env); pure (ForInStep.yield ok) else pure (ForInStep.yield r)) (fun ok s₃ =>
            if ok = true then wpAny (model prog w) A (eval elt env) (fun x s₄ =>
              wpAny (model prog w) A (call (.builtin "list.append") [acc, x]) (fun _ s₅ => ∃ m, m < n ∧ I m s₅) (fun _ _ => False) s₄) (fun _ _ => False) s₃
            else ∃ m, m < n ∧ I m s₃) (fun _ _ => False) s₂) (fun _ _ => False) s₁') (fun _ _ => False) s₁) (fun _ _ => False) s)
    (n : Nat) (h : I n s) :
    codeAny (model prog w) A (.compLoop (.ListComp elt [⟨target, iter, ifs, 0⟩] scope pos) 0 it acc env) R s := by
  refine codeAny_loop rfl I (fun n s hI => ?_) n h
  show wpAny _ A ((compTurn (.ListComp elt [⟨target, iter, ifs, 0⟩] scope pos) 0 it acc env).onRaise (fun x => do noteFrame x env; theTreesLotGoes x)) _ _ s
  refine wpAny_noted ?_
  rw [compTurn_list]
  refine wpAny_bind (wpAny_standAt (wpAny_bind (wpAny_mono (turn n s hI) (fun r s₁ h₁ => ?_) fun _ _ h' => h'.elim)))
  cases r with
  | none => exact wpAny_pure h₁
  | some v =>
    refine wpAny_bind (wpAny_mono h₁ (fun _ s₁' h₁' => ?_) fun _ _ h' => h'.elim)
    refine wpAny_bind (wpAny_mono h₁' (fun _ s₂ h₂ => wpAny_bind (wpAny_mono h₂ (fun ok s₃ h₃ => ?_) fun _ _ h' => h'.elim)) fun _ _ h' => h'.elim)
    cases ok with
    | false => exact wpAny_pure ⟨rfl, h₃⟩
    | true =>
      exact wpAny_bind (wpAny_bind (wpAny_mono h₃ (fun x s₄ h₄ => wpAny_bind (wpAny_mono h₄ (fun _ s₅ h₅ => wpAny_pure (wpAny_pure ⟨rfl, h₅⟩)) fun _ _ h' => h'.elim)) fun _ _ h' => h'.elim))
def tComp (wi : TI) (ix : List (Option Nat)) (g : TG) (tt : TT) (te : TE) : TE := fun σ H Q => wi σ H fun J H1 => ∀ D, H1 D = none → ∃ W : Nat → Nat → List V → St → Hp → Prop,
  (∃ m, W 0 m [] (blkSt σ ix) (upd H1 D (.lst []))) ∧ ∀ i m ys τ H2, W i m ys τ H2 →
    (J.stop i H2 ∧ Q (.ref D) H2) ∨ (J.go i H2 ∧ ∃ N : List V → St → Hp → Prop, (∀ ys' τ' H', N ys' τ' H' → ∃ m', m' < m ∧ W (i + 1) m' ys' τ' H') ∧ ∀ x H3, J.yld i H2 x H3 → g x τ H3 fun τ' H4 => tt τ' H4 fun b H5 =>
      if b = true then te τ' H5 fun v H6 => H6 D = some (.lst ys) ∧ ys.length < sizeLine ∧ N (ys ++ [v]) τ' (upd H6 D (.lst (ys ++ [v])))
      else N ys τ' H5)
theorem block_loop {Y : Cx} {tg elt iter : Expr} {ifs : List Expr} {scope : Scope} {pos : Pos} {g : TG} {tt : TT} {te : TE} {J : It} {fp : List Addr} {it D : Addr} {tn : Nat → Heap → Prop} {P : List (Addr × Obj)} {W : Nat → Nat → List V → St → Hp → Prop} {m0 : Nat}
    {R : Result → Shared → Prop} {QD : Hp → Prop} {s4 : Shared} {τ0 : St} {H4 : Hp}
    (hc : Y.calm = true) (hx : ∀ e s, Y.xe e s → False) (hg : PG Y tg g) (ht : PTs Y ifs tt) (he : PE Y elt te) (T : Turn Y.prog Y.w Y.K tg J fp it tn)
    (stat : ∀ {H' : Hp}, (∀ b ∈ fp, H' b = none) → ∀ b ∈ fp, FpOk Y P H' b)
    (turn : ∀ i m ys τ H2, W i m ys τ H2 → (J.stop i H2 ∧ QD H2) ∨ (J.go i H2 ∧ ∃ N : List V → St → Hp → Prop, (∀ ys' τ' H', N ys' τ' H' → ∃ m', m' < m ∧ W (i + 1) m' ys' τ' H') ∧ ∀ x H3, J.yld i H2 x H3 → g x τ H3 fun τ' H4 => tt τ' H4 fun b H5 =>
      if b = true then te τ' H5 fun v H6 => H6 D = some (.lst ys) ∧ ys.length < sizeLine ∧ N (ys ++ [v]) τ' (upd H6 D (.lst (ys ++ [v])))
      else N ys τ' H5))
    (fin : ∀ τ H' s', Inv Y P τ H' s' → QD H' → R (.ok .next) s')
    (I0 : Inv Y P τ0 H4 s4) (t0 : tn 0 s4.heap) (n0 : ∀ b ∈ fp, H4 b = none) (w0 : W 0 m0 [] τ0 H4) :
    codeAny (model Y.prog Y.w) Y.A (.compLoop (.ListComp elt [⟨tg, iter, ifs, 0⟩] scope pos) 0 (.ref it) (.ref D) Y.env) R s4 := by
  have nx : ∀ {α : Type} {t : Sem α} {Q : α → Shared → Prop} {s : Shared}, wpAny (model Y.prog Y.w) Y.A t Q Y.xe s → wpAny (model Y.prog Y.w) Y.A t Q (fun _ _ => False) s := fun h => wpAny_mono h (fun _ _ q => q) hx
  refine comp_loop (fun n s' => ∃ i ys τ H', Inv Y P τ H' s' ∧ tn i s'.heap ∧ (∀ b ∈ fp, H' b = none) ∧ W i n ys τ H') ?_ m0 ⟨0, [], τ0, H4, I0, t0, n0, w0⟩
  rintro n s5 ⟨i, ys, τ, H5, I5, st5, fr5, w5⟩
  rcases turn i n ys τ H5 w5 with ⟨stop, q⟩ | ⟨go, N, hN, step⟩
  · refine thn (T.done Y rfl rfl rfl hc i P s5 τ H5 _ I5 (stat fr5) st5 stop) fun r s6 ⟨hr, I6⟩ => ?_
    subst hr
    exact fin τ H5 s6 I6 q
  · refine thn (T.item Y rfl rfl rfl hc i P s5 τ H5 _ I5 (stat fr5) st5 go) fun r s6 ⟨u, hr, h6⟩ => ?_
    subst hr
    refine thn h6 fun _ s7 ⟨x, H7, I7, r7, y7, st7, fr7⟩ => ?_
    have I7' := I7.pinned (stat fr7) (T.obj _ _ st7)
    refine nx (thn (hg _ s7 τ H7 x u _ I7' r7 (step x H7 y7)) fun _ s8 ⟨τ8, H8, I8, q8⟩ => ?_)
    refine nx (thn (ht _ s8 τ8 H8 _ I8 q8) fun ok s9 ⟨H9, I9, q9⟩ => ?_)
    have again : ∀ {ys' : List V} {H' : Hp} {s' : Shared}, Inv Y (P ++ pinsAt fp s7.heap) τ8 H' s' → (∃ m', m' < n ∧ W (i + 1) m' ys' τ8 H') → ∃ m, m < n ∧ ∃ i ys τ H', Inv Y P τ H' s' ∧ tn i s'.heap ∧ (∀ b ∈ fp, H' b = none) ∧ W i m ys τ H' := fun {ys' H' s'} I' ⟨m', hm, w'⟩ => by
      refine ⟨m', hm, i + 1, ys', τ8, H', I'.unpinned, T.keep _ _ _ st7 fun b hb o e => (I'.pin (b, o) (List.mem_append_right _ (List.mem_append_right _ (mem_pinsAt hb e)))).1, fun b hb => ?_, w'⟩
      obtain ⟨o, e, d⟩ := T.obj _ _ st7 b hb
      exact (I'.pin (b, o) (List.mem_append_right _ (List.mem_append_right _ (mem_pinsAt hb e)))).2.1
    cases ok with
    | false =>
      rw [if_neg Bool.false_ne_true] at q9 ⊢
      exact again I9 (hN _ _ _ q9)
    | true =>
      rw [if_pos rfl] at q9 ⊢
      refine nx (thn (he _ s9 τ8 H9 _ I9 q9) fun y s10 ⟨v, H10, I10, r10, hD, hz, w10⟩ => ?_)
      refine nx (thn (mt_append (X := Y) _ s10 τ8 H10 (.ref D) [v] (.ref D) [y] (fun _ H' => H' = upd H10 D (.lst (ys ++ [v]))) I10 rfl (.cons r10 .nil) ⟨D, ys, v, rfl, rfl, hD, hz, rfl⟩) fun _ s11 ⟨z, H11, I11, _, e11⟩ => ?_)
      subst e11
      exact again I11 (hN _ _ _ w10)
theorem run_comp {X : Cx} {elt tg iter : Expr} {ifs : List Expr} {scope : Scope} {pos p1 : Pos} {N : List Str} {ix : List (Option Nat)} {wi : TI} {g : TG} {tt : TT} {te : TE} {pins : List (Addr × Obj)} {s : Shared} {σ : St} {H : Hp} {Q : VK} {use : Option (Value → Sem Unit)}
    {Z : Value → Shared → Prop}
    (hc : X.calm = true) (B : BlkSc X scope) (Dr : Draws X scope N ix) (hi : PI X tg iter wi)
    (hg : ∀ C s₀ H₀ ex, PG (X.block scope C s₀ H₀ ex N) tg g) (ht : ∀ C s₀ H₀ ex, PTs (X.block scope C s₀ H₀ ex N) ifs tt) (he : ∀ C s₀ H₀ ex, PE (X.block scope C s₀ H₀ ex N) elt te)
    (hs : ∀ x, foldedSetIterable iter X.env x = pure x)
    (I : Inv X pins σ H s) (h : tComp wi ix g tt te σ H Q)
    (fin : ∀ (D C : Addr) (H' : Hp) (s' : Shared) (m : Str → Option Value), Inv X pins σ H' s' → Q (.ref D) H' → s'.heap.Ns C m → (∀ h', Heap.SameBut C s'.heap h' → Inv X pins σ H' { s' with heap := h' }) → C ≠ X.env.locals → (∀ x c, X.env.cells.lookup x = some c → c ≠ C) → H' C = none →
      (∀ p ∈ X.pn ++ pins, p.1 ≠ C) → X.s₀.heap.objs.size ≤ C → compPost (model X.prog X.w) X.A X.xe use Z (.ref D) C (.ok .next) s') :
    wpAny (model X.prog X.w) X.A (comprehension (.ListComp elt [⟨tg, iter, ifs, 0⟩] scope pos) scope X.env p1 (newList []) false (eval iter X.env) use) Z X.xe s := by
  have hfree : ∀ x ∈ scope.names, x.2 = .free → ∃ c, X.env.cells.lookup x.1 = some c := fun x hx e => I.ok.has _ (B.free x hx e)
  refine wpAny_comprehension_free (use := use) rfl hs (closureFor_of hfree) B.kind B.locs ?_
  refine thn (hi pins s σ H _ I h) fun v s1 h1 => thn h1 fun itv s2 h2 => ?_
  obtain ⟨it, fp, tn, J, H2, e, I2, T, st2, f2, R⟩ := h2
  subst e
  have hDf : H2 s2.heap.objs.size = none := I2.hok.fresh (Nat.le_refl _)
  obtain ⟨W, ⟨m0, w0⟩, turn⟩ := R _ hDf
  refine wpAny_newObj_type ?_ (by show (0 : Nat) ≤ sizeLine; exact Nat.zero_le _)
  have I3 : Inv X pins σ (upd H2 s2.heap.objs.size (.lst [])) { s2 with heap := s2.heap.push { cls := .type "list", data := .seq ([] : List Value).toArray } } := I2.lnew (t' := s2.toks) (ys := []) (its := []) .nil (Nat.zero_le _)
  generalize hD : s2.heap.objs.size = D at *
  have fpo : ∀ b ∈ fp, ∃ o, s2.heap.get? b = some o := fun b hb => let ⟨o, q, _⟩ := T.obj _ _ st2 b hb; ⟨o, q⟩
  have fpD : ∀ b ∈ fp, b ≠ D := fun b hb => by
    obtain ⟨o, q⟩ := fpo b hb
    rw [← hD]; exact Nat.ne_of_lt (Heap.lt_size q)
  have f3 : ∀ b ∈ fp, FpOk X pins (upd H2 D (.lst [])) b := fun b hb => ⟨by rw [upd_ne (fpD b hb)]; exact (f2 b hb).1, (f2 b hb).2⟩
  generalize hs3 : ({ s2 with heap := s2.heap.push { cls := .type "list", data := .seq ([] : List Value).toArray } } : Shared) = s3 at I3 ⊢
  have k23 : ∀ b o, s2.heap.get? b = some o → s3.heap.get? b = some o := fun b o q => by rw [← hs3]; exact Heap.get?_push_of_some _ q
  have fpo3 : ∀ b ∈ fp, ∃ o, s3.heap.get? b = some o := fun b hb => let ⟨o, q⟩ := fpo b hb; ⟨o, k23 b o q⟩
  have st3 : tn 0 s3.heap := T.keep _ _ _ st2 fun b hb o q => k23 b o q
  refine wpAny_newEnv_block ?_
  have k34 : ∀ b o, s3.heap.get? b = some o → (pushCells (s3.heap.push { cls := .type "dict", data := .dict #[] }) scope.names).get? b = some o := fun b o q => pushCells_keeps _ _ b o (Heap.get?_push_of_some _ q)
  have hns4 : (pushCells (s3.heap.push { cls := .type "dict", data := .dict #[] }) scope.names).Ns s3.heap.objs.size (fun _ => none) := (Heap.Ns.new s3.heap (.type "dict")).keeps (pushCells_keeps _ _)
  have hcl4 : ∀ x c, (cellsFrom (s3.heap.objs.size + 1) scope.names (clOf X.env scope.names [])).lookup x = some c → ∃ v, (pushCells (s3.heap.push { cls := .type "dict", data := .dict #[] }) scope.names).IsCell c v := fun x c e => by
    refine cellsFrom_cell (h := s3.heap.push { cls := .type "dict", data := .dict #[] }) (acc := clOf X.env scope.names []) (fun y d hy => ?_) (by rw [Heap.size_push]; exact e)
    obtain ⟨v, o, ho, hd⟩ := I3.cell y d (clOf_sub (fun y d z => by simp at z) hy)
    exact ⟨v, o, Heap.get?_push_of_some _ ho, hd⟩
  have IB := I3.blockStart (tk := s3.toks) B Dr f3 fpo3 hns4 k34 hcl4
  generalize hh4 : pushCells (s3.heap.push { cls := .type "dict", data := .dict #[] }) scope.names = h4 at *
  generalize hC : s3.heap.objs.size = C at *
  have hCX : X.s₀.heap.objs.size ≤ C := by rw [← hC]; exact I3.sz
  have CL : C ≠ X.env.locals := by rw [← hC]; exact Nat.ne_of_gt I3.lt
  have Cc : ∀ x c, X.env.cells.lookup x = some c → c ≠ C := fun x c q => by
    obtain ⟨v, o, ho, _⟩ := I3.cell x c q
    rw [← hC]; exact Nat.ne_of_lt (Heap.lt_size ho)
  have Cp : ∀ p ∈ X.pn ++ pins, p.1 ≠ C := fun p hp => by
    rw [← hC]; exact Nat.ne_of_lt (Heap.lt_size (I3.pin p hp).1)
  have fpC : ∀ b ∈ fp, b ≠ C := fun b hb => by
    obtain ⟨o, q⟩ := fpo3 b hb
    rw [← hC]; exact Nat.ne_of_lt (Heap.lt_size q)
  have stat : ∀ {H' : Hp}, (∀ b ∈ fp, H' b = none) → ∀ b ∈ fp, FpOk (X.block scope C s3 (upd H2 D (.lst [])) fp N) (X.pn ++ pins) H' b := fun {H'} hn b hb => by
    obtain ⟨_, q1, q2, q3, q4, q5⟩ := f2 b hb
    exact ⟨hn b hb, fpC b hb, I3.nostk q1 q2, .inl hb, fun x c e => (cellsFrom_or e).elim (fun z => q4 x c (clOf_sub (fun y d z => by simp at z) z)) (fun z => by obtain ⟨o, q⟩ := fpo3 b hb; have := Heap.lt_size q; rw [hC] at this; exact Nat.ne_of_gt (Nat.lt_of_lt_of_le (Nat.lt_succ_of_lt this) z.1)), fun p hp => q5 p (by simpa [Cx.block] using hp)⟩
  have st4 : tn 0 h4 := T.keep _ _ _ st3 fun b hb o q => k34 b o q
  have n4 : ∀ b ∈ fp, (upd H2 D (.lst [])) b = none := fun b hb => (f3 b hb).1
  have loop := block_loop (Y := X.block scope C s3 (upd H2 D (.lst [])) fp N) (iter := iter) (pos := pos) (scope := scope) (D := D) (R := compPost (model X.prog X.w) X.A X.xe use Z (.ref D) C) hc (fun _ _ z => z) (hg C s3 _ fp) (ht C s3 _ fp) (he C s3 _ fp) T stat turn
    (fun τ H' s' I' q => by
      have I5 : Inv X pins σ H' s' := I3.call' (ch := fp) I'.os I'.base I'.hok I'.bare fun b hb => by
        obtain ⟨_, q1, q2, q3, q4, q5⟩ := f2 b hb
        exact ⟨q3, q1, q4, q5⟩
      obtain ⟨m, hn, _⟩ := I'.loc
      have hC0 : H' C = none := I'.free
      exact fin D C H' s' m I5 q hn (fun h'' hs'' => I5.turned (t' := s'.toks) (fun b o hb e => hs''.extBut b o hb e) hC0 CL (.inr hCX) Cc Cp) CL Cc hC0 Cp hCX) IB st4 n4 w0
  exact codeAny_compStart_list loop (T.self _ 0 _ _ _ st4 loop)
theorem pe_comp {X : Cx} {elt tg iter : Expr} {ifs : List Expr} {scope : Scope} {pos : Pos} {N : List Str} {ix : List (Option Nat)} {wi : TI} {g : TG} {tt : TT} {te : TE} (hc : X.calm = true) (B : BlkSc X scope) (Dr : Draws X scope N ix) (hi : PI X tg iter wi)
    (hg : ∀ C s₀ H₀ ex, PG (X.block scope C s₀ H₀ ex N) tg g) (ht : ∀ C s₀ H₀ ex, PTs (X.block scope C s₀ H₀ ex N) ifs tt) (he : ∀ C s₀ H₀ ex, PE (X.block scope C s₀ H₀ ex N) elt te)
    (hs : ∀ x, foldedSetIterable iter X.env x = pure x := by intro _; rfl) : PE X (.ListComp elt [⟨tg, iter, ifs, 0⟩] scope pos) (tComp wi ix g tt te) := by
  intro pins s σ H Q I h
  rw [eval_ListComp]
  exact run_comp (use := none) hc B Dr hi hg ht he hs I h fun D C H' s' m I' q hn k _ _ _ _ _ => ⟨m, hn, fun h' hs' => ⟨.ref D, H', k h' hs', rfl, q⟩⟩
theorem ps_comp {X : Cx} {elt tg iter : Expr} {ifs : List Expr} {scope : Scope} {pos spos py : Pos} {N : List Str} {ix : List (Option Nat)} {wi : TI} {g : TG} {tt : TT} {te : TE} {i : Nat} {y : Str} (hc : X.calm = true) (B : BlkSc X scope) (Dr : Draws X scope N ix) (hi : PI X tg iter wi)
    (hg : ∀ C s₀ H₀ ex, PG (X.block scope C s₀ H₀ ex N) tg g) (ht : ∀ C s₀ H₀ ex, PTs (X.block scope C s₀ H₀ ex N) ifs tt) (he : ∀ C s₀ H₀ ex, PE (X.block scope C s₀ H₀ ex N) elt te)
    (hN : X.N.Nodup) (hy : X.N[i]? = some y) (hl : X.env.scope.names.lookup y = some .local)
    (hsw : swapsWith (.ListComp elt [⟨tg, iter, ifs, 0⟩] scope pos) (some (.Name y py)) spos.line X.env = pure true := by rfl)
    (hs : ∀ x, foldedSetIterable iter X.env x = pure x := by intro _; rfl) : PS X (.Assign [.Name y py] (.ListComp elt [⟨tg, iter, ifs, 0⟩] scope pos) spos) (tAsg (tComp wi ix g tt te) (gName i)) := by
  intro pins s σ H Dn I h
  rw [exec_Assign_Name_used _ _ _ _ hsw]
  refine wpAny_bind (wpAny_standAt (wpAny_bind ?_))
  show wpAny _ X.A (do let _ ← comprehension (.ListComp elt [⟨tg, iter, ifs, 0⟩] scope pos) scope X.env _ (newList []) false (eval iter X.env) (some (assign (.Name y py) X.env))) _ _ s
  refine wpAny_bind (thn (run_comp (use := some (assign (.Name y py) X.env)) (Z := fun _ s' => SP X pins Dn .next s') hc B Dr hi hg ht he hs I h fun D C H' s' m I' q hn k CL Cc C0 Cp CX => ?_) fun _ s' hq => wpAny_pure (wpAny_pure hq))
  show wpAny _ _ (assign (.Name y py) X.env (.ref D)) _ _ s'
  refine wpAny_assign_Name (store_ok2 I' hN hy (.inl hl) (v := .ref D) rfl (fun s'' I'' ⟨a, sb, ha⟩ => ?_) (.inr hl))
  have aC : C ≠ a := by
    rcases ha with z | z
    · rw [z]; exact CL
    · exact (Cc _ _ z).symm
  exact ⟨m, hn.sameBut sb aC, fun h' hs' => ⟨_, H', I''.turned (t' := s''.toks) (fun b o hb e => hs'.extBut b o hb e) C0 CL (.inr CX) Cc Cp, q⟩⟩
theorem comp_by {J : It} {ix : List (Option Nat)} {g : TG} {tt : TT} {te : TE} {Q : VK} {σ : St} {H1 : Hp} {D : Addr} (xs : List V) (Pv : Nat → List V → St → Hp → Prop) (h0 : Pv 0 [] (blkSt σ ix) (upd H1 D (.lst [])))
    (hJ : ∀ i ys τ H, Pv i ys τ H → (∀ x, xs[i]? = some x → J.go i H ∧ ∀ y H', J.yld i H y H' → H' = H ∧ y = x) ∧ (i = xs.length → J.stop i H))
    (hs : ∀ i x ys τ H, xs[i]? = some x → Pv i ys τ H → g x τ H fun τ' H4 => tt τ' H4 fun b H5 => if b = true then te τ' H5 fun v H6 => H6 D = some (.lst ys) ∧ ys.length < sizeLine ∧ Pv (i + 1) (ys ++ [v]) τ' (upd H6 D (.lst (ys ++ [v]))) else Pv (i + 1) ys τ' H5)
    (hd : ∀ ys τ H, Pv xs.length ys τ H → Q (.ref D) H) :
    ∃ W : Nat → Nat → List V → St → Hp → Prop, (∃ m, W 0 m [] (blkSt σ ix) (upd H1 D (.lst []))) ∧ ∀ i m ys τ H2, W i m ys τ H2 →
      (J.stop i H2 ∧ Q (.ref D) H2) ∨ (J.go i H2 ∧ ∃ N : List V → St → Hp → Prop, (∀ ys' τ' H', N ys' τ' H' → ∃ m', m' < m ∧ W (i + 1) m' ys' τ' H') ∧ ∀ x H3, J.yld i H2 x H3 → g x τ H3 fun τ' H4 => tt τ' H4 fun b H5 =>
        if b = true then te τ' H5 fun v H6 => H6 D = some (.lst ys) ∧ ys.length < sizeLine ∧ N (ys ++ [v]) τ' (upd H6 D (.lst (ys ++ [v])))
        else N ys τ' H5) := by
  refine ⟨fun i m ys τ H => m = xs.length - i ∧ i ≤ xs.length ∧ Pv i ys τ H, ⟨xs.length, by simp, Nat.zero_le _, h0⟩, ?_⟩
  rintro i m ys τ H ⟨rfl, hi, p⟩
  obtain ⟨j1, j2⟩ := hJ i ys τ H p
  by_cases hlt : i < xs.length
  · have hx : xs[i]? = some xs[i] := by simp [hlt]
    obtain ⟨go, yl⟩ := j1 _ hx
    refine .inr ⟨go, Pv (i + 1), fun ys' τ' H' p' => ⟨xs.length - (i + 1), by omega, rfl, hlt, p'⟩, fun y H' yd => ?_⟩
    obtain ⟨e1, e2⟩ := yl y H' yd
    subst e1 e2
    exact hs i _ ys τ _ hx p
  · have e : i = xs.length := by omega
    subst e
    exact .inl ⟨j2 rfl, hd ys τ H p⟩
def blkOk (scope sc : Scope) : Bool := (scope.kind == .function) && (scope.names.all (fun y => scope.names.all fun z => y.2 != .cell || z.2 != .free || y.1 != z.1) && scope.names.all (fun y => y.2 != .cell || scope.names.lookup y.1 == some .cell)) && scope.names.all (fun y => y.2 != .free || sc.names.lookup y.1 == some .cell || sc.names.lookup y.1 == some .free) && scope.names.all (fun y => y.2 != .local || scope.names.lookup y.1 == some .local)
theorem blk_mk {X : Cx} {scope sc : Scope} (hsc : X.env.scope = sc) (h : blkOk scope sc = true) : BlkSc X scope := by
  unfold blkOk at h
  simp only [Bool.and_eq_true, List.all_eq_true, Bool.or_eq_true] at h
  obtain ⟨⟨⟨h1, h2, h5⟩, h3⟩, h4⟩ := h
  refine ⟨by simpa using h1, fun y hy z hz e1 e2 => ?_, fun y hy e => ?_, fun y hy e => ?_, fun y hy e => ?_⟩
  · rcases h2 y hy z hz with (q | q) | q
    · rw [e1] at q; simp at q
    · rw [e2] at q; simp at q
    · simpa using q
  · rcases h5 y hy with q | q
    · rw [e] at q; simp at q
    · simpa using q
  · have q := h3 y hy
    show X.env.scope.names.lookup y.1 = some .cell ∨ X.env.scope.names.lookup y.1 = some .free
    rw [hsc]
    rcases q with (q | q) | q
    · rw [e] at q; simp at q
    · exact .inl (by simpa using q)
    · exact .inr (by simpa using q)
  · have q := h4 y hy
    rcases q with q | q
    · rw [e] at q; simp at q
    · simpa using q
end L2
set_option Elab.async false
set_option linter.all false
set_option maxRecDepth 100000
set_option maxHeartbeats 4000000
namespace L2
open PySem PySem.Spec PyProof.Rows
def Its (z : Str) : It := ⟨fun i _ => i < z.cps.size, fun i H x H' => H' = H ∧ ∃ c, z.cps[i]? = some c ∧ x = .str ⟨#[c]⟩, fun i _ => z.cps.size ≤ i⟩
theorem turn_str {P : Program} {w : World} {K : PySem.W.Frag} {tg : Expr} (it : Addr) (z : Str) (t : Tok) (ty : String) (hty : ty = "str_ascii_iterator" ∨ ty = "str_iterator") : Turn P w K tg (Its z) [it] it (fun i h => h.IsStrIter it ty z t i) where
  mem := by simp
  obj := fun i h st b hb => by
    have e : b = it := by simpa using hb
    subst e
    obtain ⟨o, e, c, d⟩ := st
    exact ⟨o, e, fun v z => by rw [d] at z; cases z⟩
  keep := fun i h h' st k => by
    obtain ⟨o, e, c, d⟩ := st
    exact ⟨o, k it (by simp) o e, c, d⟩
  item := by
    intro X hP hw hK hc i pins s σ H E I hf st hg
    subst hP hw hK
    obtain ⟨f0, f1, f2, f3, f4, f5⟩ := hf it (by simp)
    have hlt : i < z.cps.size := hg
    have hx : z.cps[i]? = some z.cps[i] := by simp [hlt]
    have fin : ∀ h' : Heap, h'.IsStrIter it ty z t (i + 1) → Heap.SameBut it s.heap h' → ∃ u, some (Value.str ⟨#[z.cps[i]]⟩ s.toks) = some u ∧
        wpAny (model X.prog X.w) X.A (letOwnedTupleGo tg (.ref it) u) (fun _ s2 => ∃ x H', Inv X pins σ H' s2 ∧ RelV x u ∧ (Its z).yld i H x H' ∧ s2.heap.IsStrIter it ty z t (i + 1) ∧ ∀ b ∈ [it], H' b = none) E { s with heap := h', toks := s.toks + 1 } := fun h' st' sb => by
      have I1 : Inv X pins σ H { s with heap := h', toks := s.toks + 1 } := I.turned (t' := s.toks + 1) (fun b o hb e => (sb.2 b hb).trans e) f0 f1 f3 f4 f5
      obtain ⟨o, e, c, d⟩ := id st'
      exact ⟨_, rfl, go_of (s := { s with heap := h', toks := s.toks + 1 }) e c d (by rcases hty with rfl | rfl <;> decide) ⟨.str ⟨#[z.cps[i]]⟩, H, I1, ⟨_, rfl⟩, ⟨rfl, _, hx, rfl⟩, st', fun b hb => (hf b hb).1⟩⟩
    rcases hty with rfl | rfl
    · exact wpAny_pyNext_ascii_item st hx fin
    · exact wpAny_pyNext_wide_item st hx fin
  done := by
    intro X hP hw hK hc i pins s σ H E I hf st hg
    subst hP hw hK
    obtain ⟨f0, f1, f2, f3, f4, f5⟩ := hf it (by simp)
    have hle : z.cps.size ≤ i := hg
    have hx : z.cps[i]? = none := by simp [hle]
    have fin : ∀ h' : Heap, Heap.ExtBut it s.heap h' → (none : Option Value) = none ∧ Inv X pins σ H { s with heap := h' } := fun h' eb => ⟨rfl, I.turned (t' := s.toks) (fun b o hb e => eb b o hb e) f0 f1 f3 f4 f5⟩
    rcases hty with rfl | rfl
    · exact wpAny_pyNext_ascii_end (I.ok.hd hc) st hx fin
    · exact wpAny_pyNext_wide_end (I.ok.hd hc) st hx fin
  self := fun _ _ _ _ _ st h => by
    rcases hty with rfl | rfl
    · exact wpAny_pyIter_striter_ascii st h
    · exact wpAny_pyIter_striter_wide st h
def iStr (tl : TE) : TI := fun σ H R => tl σ H fun x H1 => ∃ z, x = .str z ∧ R (Its z) H1
theorem pi_str {X : Cx} {tg l : Expr} {tl : TE} (hl : PE X l tl) : PI X tg l (iStr tl) := by
  intro pins s σ H R I h
  refine thn (hl pins s σ H _ I h) fun v s1 ⟨x, H1, I1, r1, q1⟩ => ?_
  obtain ⟨z, e, q⟩ := q1
  subst e
  obtain ⟨t, rfl⟩ := r1
  have fin : ∀ (ty : String), (ty = "str_ascii_iterator" ∨ ty = "str_iterator") → PIE X pins σ tg R (.ref s1.heap.objs.size) { s1 with heap := s1.heap.push { cls := .type ty, data := .fields #[.str z t, .int 0 0] } } := fun ty hty =>
    ⟨s1.heap.objs.size, [s1.heap.objs.size], _, _, H1, rfl, I1.kept (t' := s1.toks) fun b o e => Heap.get?_push_of_some _ e, turn_str _ z t ty hty, ⟨_, Heap.get?_push_size _ rfl, rfl, rfl⟩, fun b hb => by
      have e : b = s1.heap.objs.size := by simpa using hb
      subst e
      exact I1.fpOk (Nat.le_refl _) (I1.hok.fresh (Nat.le_refl _)), q⟩
  cases ha : z.cps.all (· < 128)
  · exact wpAny_pyIter_wide ha (fin _ (.inr rfl))
  · exact wpAny_pyIter_ascii ha (fin _ (.inl rfl))
theorem bls_get {bs : List Bool} {its : List Value} (r : Vals (bs.map V.bl) its) {i : Nat} {v : Value} (h : its[i]? = some v) : v = .bool (bs.getD i false) ∧ i < bs.length := by
  have hl := r.length
  rw [List.length_map] at hl
  have hi : i < its.length := (List.getElem?_eq_some_iff.mp h).1
  have hb : i < bs.length := by omega
  have e : (bs.map V.bl)[i]? = some (V.bl bs[i]) := by simp [hb]
  obtain ⟨u, hu, ru⟩ := r.get e
  rw [h] at hu
  cases hu
  refine ⟨?_, hb⟩
  have : v = .bool bs[i] := ru
  rw [this, List.getD_eq_getElem?_getD]
  simp [hb]
theorem all_range (bs : List Bool) : (List.range bs.length).all (fun i => bs.getD i false) = bs.all id := by
  rw [Bool.eq_iff_iff]
  simp only [List.all_eq_true, List.mem_range]
  constructor
  · intro h x hx
    obtain ⟨i, hi, rfl⟩ := List.mem_iff_getElem.mp hx
    have := h i hi
    simpa [List.getD_eq_getElem?_getD, hi] using this
  · intro h i hi
    have := h bs[i] (List.getElem_mem hi)
    simpa [List.getD_eq_getElem?_getD, hi] using this
theorem call_all (X : Cx) (hc : X.calm = true) : CallR X (.builtin "all") (fun xs H Q => ∃ (p : Addr) (bs : List Bool), xs = [.ref p] ∧ SqL X.K H p (bs.map V.bl) ∧ Q (.bl (bs.all id)) H) := by
  intro pins s σ H xs us Q I rv h
  obtain ⟨p, bs, rfl, hq, q⟩ := h
  obtain ⟨u, rfl, ru⟩ := rv.one
  cases ru
  obtain ⟨its, r, pl, hz⟩ := I.list hq
  have hl := r.length
  rw [List.length_map] at hl
  refine call_all_walk (wpAny_pyIter_list pl.isList ?_)
  have hp : p < s.heap.objs.size := by obtain ⟨o, n, e, _⟩ := pl; exact Heap.lt_size e
  have I1 : Inv X pins σ H { s with heap := s.heap.push { cls := .type "list_iterator", data := .fields #[.ref p, .int 0 0] } } := I.kept (t' := s.toks) fun b o e => Heap.get?_push_of_some _ e
  refine ⟨s.heap.objs.size, _, _, _, _, _, fun i => bs.getD i false, rfl, Walks.list (A := X.A.in1) (show X.A.in1.handled = none from I.ok.hd hc) s.heap.objs.size p (Nat.ne_of_lt hp) its.toArray, ⟨⟨_, Heap.get?_push_size _ rfl, rfl, rfl⟩, pl.isList.at fun o e => Heap.get?_push_of_some _ e⟩, ?_, fun h' tk hk => ?_⟩
  · intro i v s' E' Q' hv hq'
    obtain ⟨rfl, _⟩ := bls_get r (by simpa using hv)
    exact wpAny_truthy_bool hq'
  · have e : (List.range its.toArray.size).all (fun i => bs.getD i false) = bs.all id := by
      rw [List.size_toArray, ← hl]; exact all_range bs
    refine ⟨.bl (bs.all id), H, ?_, by rw [e]; rfl, q⟩
    obtain ⟨f0, f1, f2, f3, f4, f5⟩ := I.fpOk (b := s.heap.objs.size) (Nat.le_refl _) (I.hok.fresh (Nat.le_refl _))
    exact I1.turned (t' := tk) (fun b o hb e => hk b o (by simpa using hb) e) f0 f1 f3 f4 f5
theorem call_isT {X : Cx} : CallR X (.builtin "isinstance") (fun xs H Q => ∃ x n t b, xs = [x, .ty n] ∧ TyOf X.K H x t ∧ PySem.W.kitOne X.K t (.type n) = some b ∧ Q (.bl b) H) := by
  intro pins s σ H xs us Q I rv h
  obtain ⟨x, n, t, b, rfl, ty, e, q⟩ := h
  obtain ⟨u, c, rfl, rx, rc⟩ := rv.two
  cases (show c = Value.type n from rc)
  exact isinst_ok I rx ty e fun tk => ⟨.bl b, H, I.tok tk, rfl, q⟩
theorem op_le_str {X : Cx} : OpR X (compareOp .LtE) (fun x y H Q => ∃ i j, x = .str i ∧ y = .str j ∧ Q (.bl (!(decide (j.cps.toList < i.cps.toList)))) H) := by
  intro pins s σ H x y v u Q I rx ry h
  obtain ⟨i, j, rfl, rfl, q⟩ := h
  obtain ⟨t, rfl⟩ := rx
  obtain ⟨t', rfl⟩ := ry
  exact PySem.P.le_str ⟨.bl _, H, I, rfl, q⟩
inductive Alike (K : PySem.W.Frag) (H : Hp) : Nat → V → V → Prop
  | flat {n : Nat} {x : V} (fx : flatV x = true) : Alike K H n x x
  | same {n : Nat} {a : Addr} : Alike K H n (.ref a) (.ref a)
  | lists {n : Nat} {a b : Addr} {xs ys : List V} (hx : SqL K H a xs) (hy : SqL K H b ys) (hl : xs.length = ys.length) (he : ∀ (i : Nat) (x y : V), xs[i]? = some x → ys[i]? = some y → Alike K H n x y) : Alike K H (n + 1) (.ref a) (.ref b)
  | tups {n : Nat} {a b : Addr} {xs ys : List V} (hx : SqT K H a xs) (hy : SqT K H b ys) (hl : xs.length = ys.length) (he : ∀ (i : Nat) (x y : V), xs[i]? = some x → ys[i]? = some y → Alike K H n x y) : Alike K H (n + 1) (.ref a) (.ref b)
theorem eqV_refl {x : V} (h : flatV x = true) : eqV x x = true := by
  cases x <;> simp [eqV] <;> simp [flatV] at h
section
variable {X : Cx} {pins : List (Addr × Obj)} {σ : St} {H : Hp} {s : Shared}
theorem all_true (n : Nat) : (List.range n).all (fun _ => true) = true := by simp
theorem alike_at (I : Inv X pins σ H s) {n : Nat} {x y : V} (h : Alike X.K H n x y) : ∀ {u v : Value} {A : Around}, RelV x u → RelV y v → A.units + n < cLine → SeqAt.EqAt A s u v true := by
  induction h with
  | flat fx =>
    intro u v A ru rv _
    have q := eqAt_V (A := A) (s := s) ru rv fx fx
    rwa [eqV_refl fx] at q
  | same =>
    intro u v A ru rv _
    cases ru
    cases rv
    exact SeqAt.EqAt.same _
  | @lists n a b xs ys hx hy hl he ih =>
    intro u v A ru rv hu
    cases ru
    cases rv
    by_cases ab : a = b
    · subst ab; exact SeqAt.EqAt.same _
    · obtain ⟨its, r, pl, hz⟩ := I.list hx
      obtain ⟨its2, r2, pl2, hz2⟩ := I.list hy
      have e1 := r.length
      have e2 := r2.length
      have q := SeqAt.RcAt.lists (A := A) (s := s) (e := fun _ => true) pl.isList pl2.isList (by rw [List.size_toArray, List.size_toArray]; omega) (by omega) (fun j h1 h2 => by
        rw [List.size_toArray] at h1 h2
        have hjx : xs[j]? = some (xs[j]'(by omega)) := by simp
        have hjy : ys[j]? = some (ys[j]'(by omega)) := by simp
        obtain ⟨u1, q1, ru1⟩ := r.get hjx
        obtain ⟨v1, q2, rv1⟩ := r2.get hjy
        have e3 : its.toArray[j] = u1 := by
          have : its[j]? = some its[j] := by simp
          rw [this] at q1; simpa using q1
        have e4 : its2.toArray[j] = v1 := by
          have : its2[j]? = some its2[j] := by simp
          rw [this] at q2; simpa using q2
        rw [e3, e4]
        exact ih j _ _ hjx hjy ru1 rv1 (by show A.units + 1 + n < cLine; omega))
      rw [all_true] at q
      exact SeqAt.EqAt.of_refs ab q
  | @tups n a b xs ys hx hy hl he ih =>
    intro u v A ru rv hu
    cases ru
    cases rv
    by_cases ab : a = b
    · subst ab; exact SeqAt.EqAt.same _
    · obtain ⟨its, r, pl, hz⟩ := I.tuple hx
      obtain ⟨its2, r2, pl2, hz2⟩ := I.tuple hy
      have e1 := r.length
      have e2 := r2.length
      have q := SeqAt.RcAt.tuples (A := A) (s := s) (e := fun _ => true) (show s.heap.IsTuple a its.toArray from pl) (show s.heap.IsTuple b its2.toArray from pl2) (by omega) (fun j h1 h2 => by
        rw [List.size_toArray] at h1 h2
        have hjx : xs[j]? = some (xs[j]'(by omega)) := by simp
        have hjy : ys[j]? = some (ys[j]'(by omega)) := by simp
        obtain ⟨u1, q1, ru1⟩ := r.get hjx
        obtain ⟨v1, q2, rv1⟩ := r2.get hjy
        have e3 : its.toArray[j] = u1 := by
          have : its[j]? = some its[j] := by simp
          rw [this] at q1; simpa using q1
        have e4 : its2.toArray[j] = v1 := by
          have : its2[j]? = some its2[j] := by simp
          rw [this] at q2; simpa using q2
        rw [e3, e4]
        exact ih j _ _ hjx hjy ru1 rv1 (by show A.units + 1 + n < cLine; omega))
      rw [all_true, Bool.true_and, List.size_toArray, List.size_toArray, ← e1, ← e2, hl, beq_self_eq_true] at q
      exact SeqAt.EqAt.of_refs ab q
theorem alike_items (I : Inv X pins σ H s) {n : Nat} {xs ys : List V} {its its2 : List Value} {A : Around} (r : Vals xs its) (r2 : Vals ys its2) (he : ∀ (i : Nat) (x y : V), xs[i]? = some x → ys[i]? = some y → Alike X.K H n x y) (hu : A.units + n < cLine) :
    ∀ j (h1 : j < its.toArray.size) (h2 : j < its2.toArray.size), SeqAt.EqAt A s its.toArray[j] its2.toArray[j] true := fun j h1 h2 => by
  have e1 := r.length
  have e2 := r2.length
  rw [List.size_toArray] at h1 h2
  have hjx : xs[j]? = some (xs[j]'(by omega)) := by simp
  have hjy : ys[j]? = some (ys[j]'(by omega)) := by simp
  obtain ⟨u1, q1, ru1⟩ := r.get hjx
  obtain ⟨v1, q2, rv1⟩ := r2.get hjy
  have e3 : its.toArray[j] = u1 := by
    have : its[j]? = some its[j] := by simp
    rw [this] at q1; simpa using q1
  have e4 : its2.toArray[j] = v1 := by
    have : its2[j]? = some its2[j] := by simp
    rw [this] at q2; simpa using q2
  rw [e3, e4]
  exact alike_at I (he j _ _ hjx hjy) ru1 rv1 hu
end
def rAlike (K : PySem.W.Frag) (n : Nat) (b : Bool) : R2 := fun x y H Q => ∃ a c xs ys, x = .ref a ∧ y = .ref c ∧ SqL K H a xs ∧ SqL K H c ys ∧ xs.length = ys.length ∧ (∀ (i : Nat) (x y : V), xs[i]? = some x → ys[i]? = some y → Alike K H n x y) ∧ Q (.bl b) H
def rUnlen (K : PySem.W.Frag) (b : Bool) : R2 := fun x y H Q => ∃ a c xs ys, x = .ref a ∧ y = .ref c ∧ SqL K H a xs ∧ SqL K H c ys ∧ xs.length ≠ ys.length ∧ Q (.bl b) H
section
variable {X : Cx}
theorem op_eqA {n : Nat} (hu : X.A.units + 1 + n < cLine) : OpR X (compareOp .Eq) (rAlike X.K n true) := by
  intro pins s σ H x y v u Q I rx ry h
  obtain ⟨a, c, xs, ys, rfl, rfl, hx, hy, hl, he, q⟩ := h
  cases rx
  cases ry
  obtain ⟨its, r, pl, hz⟩ := I.list hx
  obtain ⟨its2, r2, pl2, hz2⟩ := I.list hy
  have e1 := r.length
  have e2 := r2.length
  refine SeqAt.eq_listAt (e := fun _ => true) pl.isList pl2.isList (by rw [List.size_toArray, List.size_toArray]; omega) (by omega) (alike_items I r r2 he (by show X.A.units + 1 + n < cLine; omega)) ?_
  rw [all_true]
  exact ⟨.bl true, H, I, rfl, q⟩
theorem op_eqU (hu : X.A.units < cLine) : OpR X (compareOp .Eq) (rUnlen X.K false) := by
  intro pins s σ H x y v u Q I rx ry h
  obtain ⟨a, c, xs, ys, rfl, rfl, hx, hy, hl, q⟩ := h
  cases rx
  cases ry
  obtain ⟨its, r, pl, hz⟩ := I.list hx
  obtain ⟨its2, r2, pl2, hz2⟩ := I.list hy
  have e1 := r.length
  have e2 := r2.length
  exact SeqAt.eq_list_lengthsAt pl.isList pl2.isList (by rw [List.size_toArray, List.size_toArray]; simp; omega) hu ⟨.bl false, H, I, rfl, q⟩
theorem OpR.either {f : Value → Value → Sem Value} {r r' : R2} (h : OpR X f r) (h' : OpR X f r') : OpR X f (fun x y H Q => r x y H Q ∨ r' x y H Q) := by
  intro pins s σ H x y v u Q I rx ry q
  rcases q with q | q
  · exact h pins s σ H x y v u Q I rx ry q
  · exact h' pins s σ H x y v u Q I rx ry q
end
end L2
set_option Elab.async false
set_option linter.all false
namespace SM
open PySem PySem.StrLaws PySem.Builtin PySem.Builtin.Str
end SM
set_option Elab.async false
set_option linter.all false
set_option maxRecDepth 100000
set_option maxHeartbeats 4000000
namespace L2
open PySem PySem.Spec PyProof.Rows
structure Cal (P : Program) (w : World) (K : PySem.W.Frag) (mg : Str → Option Value) (base : Heap) (x : Str) (k : Nat) (ps : List Str) (sp : Sp) : Prop where
  to : ∃ (f : Addr) (fd : FuncData), mg x = some (.ref f) ∧ PySem.W.keepIn K (.ref f) = true ∧ Binds K fd ps [] ∧ FnOk P w K mg base CX0 k f fd ps sp
theorem pe_callC {X : Cx} {x : Str} {k : Nat} {ps : List Str} {sp : Sp} {e : Expr} {es : List Expr} {p pos : Pos} {t : TA} (C : Cal X.prog X.w X.K X.mg X.base x k ps sp) (hr : Room k X.A) (hg : Gl X x) (ha : PA X (e :: es) t)
    (hdb : (x == ("__debug__" : Str)) = false := by decide) (he : starEach (e :: es) X.env = (false, eval e X.env) :: starEach es X.env := by rfl) (hpl : (backTo pos (starEach es X.env)).any (·.1) = false := by rfl) :
    PE X (.Call (.Name x p) (e :: es) [] pos) (tCall sp [] E0 t) := by
  obtain ⟨f, fd, h1, h2, h3, h4⟩ := C.to
  exact pe_call h4 hr hg h1 h2 h3 .nil pass0 ha hdb he hpl
theorem bo_max : bootBuiltins "max" = some (.builtin "max") := by decide +kernel
theorem bo_min : bootBuiltins "min" = some (.builtin "min") := by decide +kernel
theorem bo_all : bootBuiltins "all" = some (.builtin "all") := by decide +kernel
theorem bo_isinstance : bootBuiltins "isinstance" = some (.builtin "isinstance") := by decide +kernel
theorem bo_len : bootBuiltins "len" = some (.builtin "len") := by decide +kernel
theorem bo_int : bootBuiltins "int" = some (.type "int") := by decide +kernel
theorem bo_str : bootBuiltins "str" = some (.type "str") := by decide +kernel
theorem bo_list : bootBuiltins "list" = some (.type "list") := by decide +kernel
theorem bo_tuple : bootBuiltins "tuple" = some (.type "tuple") := by decide +kernel
theorem bo_dict : bootBuiltins "dict" = some (.type "dict") := by decide +kernel
theorem bo_bool : bootBuiltins "bool" = some (.type "bool") := by decide +kernel
def Fre (H : Hp) (l : Addr) : Prop := H l = none
def Kp (M : List Addr) (H H' : Hp) : Prop := ∀ b o, H b = some o → b ∉ M → H' b = some o
theorem Kp.refl {M : List Addr} {H : Hp} : Kp M H H := fun _ _ h _ => h
theorem Kp.trans {M : List Addr} {H H1 H2 : Hp} (a : Kp M H H1) (b : Kp M H1 H2) : Kp M H H2 := fun c o h n => b c o (a c o h n) n
theorem Kp.weak {M M' : List Addr} {H H' : Hp} (k : Kp M H H') (s : ∀ b, b ∈ M → b ∈ M') : Kp M' H H' := fun b o h n => k b o h fun z => n (s b z)
theorem Kp.new {M : List Addr} {H H' : Hp} {l : Addr} {o : HO} (k : Kp M H H') (f : Fre H l) : Kp M H (upd H' l o) := fun b u h n => by
  rw [upd_ne (ne_of_none h f)]; exact k b u h n
theorem Kp.put {M : List Addr} {H H' : Hp} {l : Addr} {o : HO} (k : Kp M H H') (f : l ∈ M) : Kp M H (upd H' l o) := fun b u h n => by
  rw [upd_ne (by intro e; subst e; exact n f)]; exact k b u h n
theorem Kp.at0 {H H' : Hp} (k : Kp [] H H') : Same H H' := fun b o h => k b o h (by simp)
theorem Kp.seq {K : PySem.W.Frag} {H H' : Hp} {a : Addr} {xs : List V} (e : Kp [] H H') (h : SqL K H a xs) : SqL K H' a xs := e.at0.seq h
theorem ne_fre {H : Hp} {a b : Addr} {o : HO} (f : Fre H b) (h : H a = some o) : a ≠ b := ne_of_none h f
theorem nm1 {a b : Addr} (h : a ≠ b) : a ∉ [b] := by simpa using h
theorem atI_at {α : Type} {xs : List α} {i : Int} {v : α} (h0 : 0 ≤ i) (h : xs[i.toNat]? = some v) : atI xs i = some v := by
  have hl : i.toNat < xs.length := (List.getElem?_eq_some_iff.mp h).1
  unfold atI ixN
  rw [if_pos h0, if_pos (by omega)]
  exact h
end L2
namespace L2
open PySem PySem.Spec PyProof.Rows
theorem hu2 {A : Around} {k n : Nat} (hr : Room k A) (h : n ≤ 60 := by decide) : A.units + 1 + n < cLine := by
  have := hr.units
  omega
theorem hu0 {A : Around} {k : Nat} (hr : Room k A) : A.units < cLine := by
  have := hr.units
  omega
theorem op_eqL {X : Cx} {k : Nat} (hr : Room k X.A) : OpR X (compareOp .Eq) (fun x y H Q => rAlike X.K 8 true x y H Q ∨ rUnlen X.K false x y H Q) := (op_eqA (hu2 hr)).either (op_eqU (hu0 hr))
theorem kit_same {K : PySem.W.Frag} {t : Value} (h : (t == t) = true := by rfl) : PySem.W.kitOne K t t = some true := by
  unfold PySem.W.kitOne; rw [if_pos h]
end L2
namespace L2
open PySem PySem.Spec PyProof.Rows
theorem seq_mid {t u : TS} {D : Ends} {σ : St} {H : Hp} (Mid : St → Hp → Prop) (h1 : ∀ N : St → Hp → Prop, (∀ σ H, Mid σ H → N σ H) → t { D with nx := N } σ H) (h2 : ∀ σ H, Mid σ H → u D σ H) : tSeq t u D σ H := h1 (u D) h2
theorem if_mid {tb : TS} {D : Ends} {σ : St} {H : Hp} {b : Bool} (Mid : St → Hp → Prop) (h1 : ∀ N : St → Hp → Prop, (∀ σ H, Mid σ H → N σ H) → if b = true then tb { D with nx := N } σ H else N σ H) (h2 : ∀ σ H, Mid σ H → D.nx σ H) :
    if b = true then tb D σ H else tNext D σ H := h1 D.nx h2
end L2
namespace L2
open PySem PySem.Spec PyProof.Rows
theorem comp_list {K : PySem.W.Frag} {a : Addr} {ix : List (Option Nat)} {g : TG} {tt : TT} {te : TE} {QD : Hp → Prop} {σ : St} {H1 : Hp} {D : Addr} (xs : List V) (Pv : Nat → List V → St → Hp → Prop) (h0 : Pv 0 [] (blkSt σ ix) (upd H1 D (.lst [])))
    (hl : ∀ i ys τ H, Pv i ys τ H → SqL K H a xs)
    (hs : ∀ i x ys τ H, xs[i]? = some x → Pv i ys τ H → g x τ H fun τ' H4 => tt τ' H4 fun b H5 => if b = true then te τ' H5 fun v H6 => H6 D = some (.lst ys) ∧ ys.length < sizeLine ∧ Pv (i + 1) (ys ++ [v]) τ' (upd H6 D (.lst (ys ++ [v]))) else Pv (i + 1) ys τ' H5)
    (hd : ∀ ys τ H, Pv xs.length ys τ H → QD H) :
    ∃ W : Nat → Nat → List V → St → Hp → Prop, (∃ m, W 0 m [] (blkSt σ ix) (upd H1 D (.lst []))) ∧ ∀ i m ys τ H2, W i m ys τ H2 →
      ((Itl K a).stop i H2 ∧ QD H2) ∨ ((Itl K a).go i H2 ∧ ∃ N : List V → St → Hp → Prop, (∀ ys' τ' H', N ys' τ' H' → ∃ m', m' < m ∧ W (i + 1) m' ys' τ' H') ∧ ∀ x H3, (Itl K a).yld i H2 x H3 → g x τ H3 fun τ' H4 => tt τ' H4 fun b H5 =>
        if b = true then te τ' H5 fun v H6 => H6 D = some (.lst ys) ∧ ys.length < sizeLine ∧ N (ys ++ [v]) τ' (upd H6 D (.lst (ys ++ [v])))
        else N ys τ' H5) := by
  refine comp_by (Q := fun _ H => QD H) xs Pv h0 (fun i ys τ H p => ⟨fun x hx => ⟨⟨xs, x, hl i ys τ H p, hx⟩, fun y H' yl => ?_⟩, fun e => ⟨xs, hl i ys τ H p, by omega⟩⟩) hs hd
  obtain ⟨e, z⟩ := yl
  subst e
  have := z xs (hl i ys τ _ p)
  rw [hx] at this
  exact ⟨rfl, (Option.some.inj this).symm⟩
theorem comp_tup {K : PySem.W.Frag} {a : Addr} {ix : List (Option Nat)} {g : TG} {tt : TT} {te : TE} {QD : Hp → Prop} {σ : St} {H1 : Hp} {D : Addr} (xs : List V) (Pv : Nat → List V → St → Hp → Prop) (h0 : Pv 0 [] (blkSt σ ix) (upd H1 D (.lst [])))
    (hl : ∀ i ys τ H, Pv i ys τ H → SqT K H a xs)
    (hs : ∀ i x ys τ H, xs[i]? = some x → Pv i ys τ H → g x τ H fun τ' H4 => tt τ' H4 fun b H5 => if b = true then te τ' H5 fun v H6 => H6 D = some (.lst ys) ∧ ys.length < sizeLine ∧ Pv (i + 1) (ys ++ [v]) τ' (upd H6 D (.lst (ys ++ [v]))) else Pv (i + 1) ys τ' H5)
    (hd : ∀ ys τ H, Pv xs.length ys τ H → QD H) :
    ∃ W : Nat → Nat → List V → St → Hp → Prop, (∃ m, W 0 m [] (blkSt σ ix) (upd H1 D (.lst []))) ∧ ∀ i m ys τ H2, W i m ys τ H2 →
      ((Itt K a).stop i H2 ∧ QD H2) ∨ ((Itt K a).go i H2 ∧ ∃ N : List V → St → Hp → Prop, (∀ ys' τ' H', N ys' τ' H' → ∃ m', m' < m ∧ W (i + 1) m' ys' τ' H') ∧ ∀ x H3, (Itt K a).yld i H2 x H3 → g x τ H3 fun τ' H4 => tt τ' H4 fun b H5 =>
        if b = true then te τ' H5 fun v H6 => H6 D = some (.lst ys) ∧ ys.length < sizeLine ∧ N (ys ++ [v]) τ' (upd H6 D (.lst (ys ++ [v])))
        else N ys τ' H5) := by
  refine comp_by (Q := fun _ H => QD H) xs Pv h0 (fun i ys τ H p => ⟨fun x hx => ⟨⟨xs, x, hl i ys τ H p, hx⟩, fun y H' yl => ?_⟩, fun e => ⟨xs, hl i ys τ H p, by omega⟩⟩) hs hd
  obtain ⟨e, z⟩ := yl
  subst e
  have := z xs (hl i ys τ _ p)
  rw [hx] at this
  exact ⟨rfl, (Option.some.inj this).symm⟩
theorem comp_str {z : Str} {ix : List (Option Nat)} {g : TG} {tt : TT} {te : TE} {QD : Hp → Prop} {σ : St} {H1 : Hp} {D : Addr} (Pv : Nat → List V → St → Hp → Prop) (h0 : Pv 0 [] (blkSt σ ix) (upd H1 D (.lst [])))
    (hs : ∀ i c ys τ H, z.cps.toList[i]? = some c → Pv i ys τ H → g (.str ⟨#[c]⟩) τ H fun τ' H4 => tt τ' H4 fun b H5 => if b = true then te τ' H5 fun v H6 => H6 D = some (.lst ys) ∧ ys.length < sizeLine ∧ Pv (i + 1) (ys ++ [v]) τ' (upd H6 D (.lst (ys ++ [v]))) else Pv (i + 1) ys τ' H5)
    (hd : ∀ ys τ H, Pv z.length ys τ H → QD H) :
    ∃ W : Nat → Nat → List V → St → Hp → Prop, (∃ m, W 0 m [] (blkSt σ ix) (upd H1 D (.lst []))) ∧ ∀ i m ys τ H2, W i m ys τ H2 →
      ((Its z).stop i H2 ∧ QD H2) ∨ ((Its z).go i H2 ∧ ∃ N : List V → St → Hp → Prop, (∀ ys' τ' H', N ys' τ' H' → ∃ m', m' < m ∧ W (i + 1) m' ys' τ' H') ∧ ∀ x H3, (Its z).yld i H2 x H3 → g x τ H3 fun τ' H4 => tt τ' H4 fun b H5 =>
        if b = true then te τ' H5 fun v H6 => H6 D = some (.lst ys) ∧ ys.length < sizeLine ∧ N (ys ++ [v]) τ' (upd H6 D (.lst (ys ++ [v])))
        else N ys τ' H5) := by
  refine ⟨fun i m ys τ H => m = z.length - i ∧ i ≤ z.length ∧ Pv i ys τ H, ⟨z.length, by simp, Nat.zero_le _, h0⟩, ?_⟩
  rintro i m ys τ H ⟨rfl, hi, p⟩
  by_cases hlt : i < z.length
  · refine .inr ⟨hlt, Pv (i + 1), fun ys' τ' H' p' => ⟨z.length - (i + 1), by omega, rfl, hlt, p'⟩, fun y H' yd => ?_⟩
    obtain ⟨e1, c, e2, e3⟩ := yd
    subst e1 e3
    exact hs i c ys τ _ (by simpa using e2) p
  · have e : i = z.length := by omega
    subst e
    exact .inl ⟨Nat.le_refl _, hd ys τ H p⟩
theorem comp_list0 {K : PySem.W.Frag} {a : Addr} {ix : List (Option Nat)} {g : TG} {te : TE} {QD : Hp → Prop} {σ : St} {H1 : Hp} {D : Addr} (xs : List V) (Pv : Nat → List V → St → Hp → Prop) (h0 : Pv 0 [] (blkSt σ ix) (upd H1 D (.lst [])))
    (hl : ∀ i ys τ H, Pv i ys τ H → SqL K H a xs)
    (hs : ∀ i x ys τ H, xs[i]? = some x → Pv i ys τ H → g x τ H fun τ' H4 => te τ' H4 fun v H6 => H6 D = some (.lst ys) ∧ ys.length < sizeLine ∧ Pv (i + 1) (ys ++ [v]) τ' (upd H6 D (.lst (ys ++ [v]))))
    (hd : ∀ ys τ H, Pv xs.length ys τ H → QD H) :
    ∃ W : Nat → Nat → List V → St → Hp → Prop, (∃ m, W 0 m [] (blkSt σ ix) (upd H1 D (.lst []))) ∧ ∀ i m ys τ H2, W i m ys τ H2 →
      ((Itl K a).stop i H2 ∧ QD H2) ∨ ((Itl K a).go i H2 ∧ ∃ N : List V → St → Hp → Prop, (∀ ys' τ' H', N ys' τ' H' → ∃ m', m' < m ∧ W (i + 1) m' ys' τ' H') ∧ ∀ x H3, (Itl K a).yld i H2 x H3 → g x τ H3 fun τ' H4 => tTrue τ' H4 fun b H5 =>
        if b = true then te τ' H5 fun v H6 => H6 D = some (.lst ys) ∧ ys.length < sizeLine ∧ N (ys ++ [v]) τ' (upd H6 D (.lst (ys ++ [v])))
        else N ys τ' H5) := comp_list (tt := tTrue) xs Pv h0 hl hs hd
theorem comp_str0 {z : Str} {ix : List (Option Nat)} {g : TG} {te : TE} {QD : Hp → Prop} {σ : St} {H1 : Hp} {D : Addr} (Pv : Nat → List V → St → Hp → Prop) (h0 : Pv 0 [] (blkSt σ ix) (upd H1 D (.lst [])))
    (hs : ∀ i c ys τ H, z.cps.toList[i]? = some c → Pv i ys τ H → g (.str ⟨#[c]⟩) τ H fun τ' H4 => te τ' H4 fun v H6 => H6 D = some (.lst ys) ∧ ys.length < sizeLine ∧ Pv (i + 1) (ys ++ [v]) τ' (upd H6 D (.lst (ys ++ [v]))))
    (hd : ∀ ys τ H, Pv z.length ys τ H → QD H) :
    ∃ W : Nat → Nat → List V → St → Hp → Prop, (∃ m, W 0 m [] (blkSt σ ix) (upd H1 D (.lst []))) ∧ ∀ i m ys τ H2, W i m ys τ H2 →
      ((Its z).stop i H2 ∧ QD H2) ∨ ((Its z).go i H2 ∧ ∃ N : List V → St → Hp → Prop, (∀ ys' τ' H', N ys' τ' H' → ∃ m', m' < m ∧ W (i + 1) m' ys' τ' H') ∧ ∀ x H3, (Its z).yld i H2 x H3 → g x τ H3 fun τ' H4 => tTrue τ' H4 fun b H5 =>
        if b = true then te τ' H5 fun v H6 => H6 D = some (.lst ys) ∧ ys.length < sizeLine ∧ N (ys ++ [v]) τ' (upd H6 D (.lst (ys ++ [v])))
        else N ys τ' H5) := comp_str (tt := tTrue) Pv h0 hs hd
end L2
namespace L2
open PySem PySem.Spec PyProof.Rows
section
variable {X : Cx} {K : PySem.W.Frag}
theorem ix_tupK (hK : X.K = K := by rfl) : IxR X (rIxT K) := by subst hK; exact ix_tup
theorem call_list_ofK (hK : X.K = K := by rfl) : CallR X (.type "list") (fun xs H Q => ∃ p ys, xs = [.ref p] ∧ (SqL K H p ys ∨ SqT K H p ys) ∧ ∀ l, H l = none → Q (.ref l) (upd H l (.lst ys))) := by subst hK; exact call_list_of
theorem op_notIn_seqK (hK : X.K = K := by rfl) : OpR X (compareOp .NotIn) (rIn K true) := by subst hK; exact op_notIn_seq
end
end L2
namespace L2
open PySem PySem.Spec PyProof.Rows
end L2
set_option Elab.async false
set_option linter.all false
set_option maxRecDepth 100000
set_option maxHeartbeats 4000000
namespace Tim
open PySem PyProof.Rows
section
variable {prog : Program} {w : World} {A : Around} {E : Value → Shared → Prop} {s : Shared} {kd : SortKind} {κ : KeyKind}
end
end Tim
set_option Elab.async false
set_option linter.all false
set_option maxRecDepth 100000
set_option maxHeartbeats 4000000
namespace Tim
open PySem PyProof.Rows
section
variable {κ : KeyKind}
section
variable {a b out : Array Keyed} {ia ib : Nat}
end
end
section
variable {prog : Program} {w : World} {A : Around} {E : Value → Shared → Prop} {s : Shared} {kd : SortKind} {κ : KeyKind} {a b : Array Keyed}
end
end Tim
set_option Elab.async false
set_option linter.all false
set_option maxRecDepth 100000
set_option maxHeartbeats 4000000
namespace Tim
open PySem PyProof.Rows
section
variable {κ : KeyKind}
section
variable {a b out : Array Keyed} {na nb : Nat}
end
end
section
variable {prog : Program} {w : World} {A : Around} {E : Value → Shared → Prop} {s : Shared} {kd : SortKind} {κ : KeyKind} {a b : Array Keyed}
end
end Tim
set_option Elab.async false
set_option linter.all false
set_option maxRecDepth 100000
set_option maxHeartbeats 4000000
namespace Tim
open PySem PyProof.Rows
section
variable {prog : Program} {w : World} {A : Around} {E : Value → Shared → Prop} {s : Shared} {kd : SortKind} {κ : KeyKind}
end
end Tim
set_option Elab.async false
set_option linter.all false
set_option maxRecDepth 100000
set_option maxHeartbeats 4000000
namespace Tim
open PySem PyProof.Rows
section
variable {prog : Program} {w : World} {A : Around} {E : Value → Shared → Prop} {s : Shared} {kd : SortKind} {κ : KeyKind}
end
end Tim
set_option Elab.async false
set_option linter.all false
set_option maxRecDepth 100000
set_option maxHeartbeats 4000000
namespace Tim
open PySem PyProof.Rows
section
variable {prog : Program} {w : World} {A : Around} {E : Value → Shared → Prop} {s : Shared} {kd : SortKind} {κ : KeyKind} {a₀ : Array Keyed}
end
end Tim
set_option Elab.async false
set_option linter.all false
set_option maxRecDepth 100000
set_option maxHeartbeats 4000000
namespace ST
open PySem PySem.SetTable
end ST
set_option Elab.async false
set_option linter.all false
set_option maxRecDepth 100000
set_option maxHeartbeats 4000000
namespace ST
open PySem PySem.SetTable
section
variable {t : SetTable} {hs : List Int}
end
end ST
set_option Elab.async false
set_option linter.all false
set_option maxRecDepth 100000
set_option maxHeartbeats 4000000
namespace ST
open PySem PySem.SetTable
end ST
set_option Elab.async false
set_option linter.all false
set_option maxRecDepth 100000
set_option maxHeartbeats 4000000
namespace ST
open PySem PySem.SetTable
section
variable {prog : Program} {w : World} {K : Type} [DecidableEq K] {knd : KeyKind prog w K} {A : Around} {E : Value → Shared → Prop} {s : Shared}
end
end ST
set_option Elab.async false
set_option linter.all false
set_option maxRecDepth 100000
set_option maxHeartbeats 4000000
namespace ST
open PySem PySem.SetTable
section
variable {prog : Program} {w : World} {K : Type} [DecidableEq K] {knd : KeyKind prog w K} {A : Around} {E : Value → Shared → Prop} {s : Shared}
section
variable {a : Addr} {xs : List (List K × Addr)} {o : Obj} {es : Array (Int × Value)} {ep : Nat} {t : SetTable}
end
end
end ST
set_option Elab.async false
set_option linter.all false
set_option maxRecDepth 100000
set_option maxHeartbeats 4000000
namespace ST
open PySem PySem.SetTable
section
variable {prog : Program} {w : World} {K : Type} [DecidableEq K] {knd : KeyKind prog w K} {A : Around} {E : Value → Shared → Prop} {s : Shared}
variable {a : Addr} {xs : List (List K × Addr)} {o : Obj} {es : Array (Int × Value)} {ep : Nat} {t : SetTable}
end
end ST
set_option Elab.async false
set_option linter.all false
set_option maxRecDepth 100000
set_option maxHeartbeats 4000000
namespace ST
open PySem PySem.SetTable PyProof.Rows
section
variable {prog : Program} {w : World} {K : Type} [DecidableEq K] {knd : KeyKind prog w K} {A : Around} {E : Value → Shared → Prop} {s : Shared}
variable {a : Addr} {xs : List (List K × Addr)} {o : Obj} {es : Array (Int × Value)} {ep : Nat} {t : SetTable}
end
section
variable {prog : Program} {w : World} {K : Type} [DecidableEq K] {knd : KeyKind prog w K} {A : Around} {R : Result → Shared → Prop} {I : Addr} {fp wr : List Addr} {G : Array GenState → Array GenState → Prop} {P : Nat → Value → Prop} {St : Nat → Shared → Prop}
end
section
variable {prog : Program} {w : World} {K : Type} [DecidableEq K] {knd : KeyKind prog w K} {A : Around} {E : Value → Shared → Prop} {s : Shared}
end
end ST
set_option Elab.async false
set_option linter.all false
set_option maxRecDepth 100000
set_option maxHeartbeats 4000000
namespace ST
open PySem PySem.SetTable PyProof.Rows
section
variable {prog : Program} {w : World} {K : Type} [DecidableEq K] {knd : KeyKind prog w K} {A : Around} {E : Value → Shared → Prop}
end
end ST
set_option Elab.async false
set_option linter.all false
set_option maxRecDepth 100000
set_option maxHeartbeats 4000000
namespace ST
open PySem PySem.SetTable PyProof.Rows
section
variable {prog : Program} {w : World} {K : Type} [DecidableEq K] {knd : KeyKind prog w K} {A : Around} {E : Value → Shared → Prop} {s : Shared}
variable {a I : Addr} {xs : List (List K × Addr)} {o oI : Obj} {es : Array (Int × Value)} {ep i : Nat} {t : SetTable} {ord : List Value} {first : Value}
end
end ST
set_option Elab.async false
set_option linter.all false
set_option maxRecDepth 100000
set_option maxHeartbeats 4000000
namespace ST
open PySem PySem.SetTable PyProof.Rows
section
variable {prog : Program} {w : World} {K : Type} [DecidableEq K] {knd : KeyKind prog w K} {A : Around} {E : Value → Shared → Prop} {s : Shared}
variable {a I : Addr} {xs : List (List K × Addr)} {o oI : Obj} {es : Array (Int × Value)} {ep i : Nat} {t : SetTable} {ord : List Value} {first : Value}
end
end ST
set_option Elab.async false
set_option linter.all false
set_option maxRecDepth 100000
set_option maxHeartbeats 4000000
namespace ST
open PySem PyProof.Rows PySem.W
section
variable {prog : Program} {w : World} {A : Around} {E : Value → Shared → Prop} {s : Shared}
theorem strs_len {vs : List Value} {ss : List Str} (h : StrsAre vs ss) : vs.length = ss.length := by
  induction h with
  | nil => rfl
  | cons _ _ _ ih => simp [ih]
end
end ST
set_option Elab.async false
set_option linter.all false
set_option maxRecDepth 100000
set_option maxHeartbeats 4000000
namespace ST
open PySem PyProof.Rows PySem.W
section
variable {prog : Program} {w : World} {A : Around} {E : Value → Shared → Prop} {s : Shared}
end
end ST
set_option Elab.async false
set_option linter.all false
set_option maxRecDepth 100000
set_option maxHeartbeats 4000000
namespace ST
open PySem PyProof.Rows PySem.W
section
variable {prog : Program} {w : World} {A : Around} {E : Value → Shared → Prop} {s : Shared}
end
section
variable {prog : Program} {w : World} {A : Around} {E : Value → Shared → Prop} {s : Shared}
end
end ST
set_option Elab.async false
set_option linter.all false
set_option maxRecDepth 100000
set_option maxHeartbeats 4000000
namespace L2
open PySem PySem.Spec PyProof.Rows
section
variable {X : Cx} {pins : List (Addr × Obj)} {σ : St} {H : Hp} {s : Shared}
end
end L2
set_option Elab.async false
set_option linter.all false
set_option maxRecDepth 100000
set_option maxHeartbeats 4000000
namespace ST
section
open PySem PyProof.Rows
variable {prog : Program} {w : World} {A : Around} {s : Shared}
end
end ST
namespace L2
open PySem PySem.Spec PyProof.Rows
section
variable {X : Cx} {pins : List (Addr × Obj)} {σ : St} {H : Hp} {s : Shared}
theorem strs_vals : ∀ {xs : List Str} {its : List Value}, StrsAre its xs → Vals (xs.map V.str) its
  | _, _, .nil => .nil
  | _, _, .cons y t r => .cons ⟨t, rfl⟩ (strs_vals r)
end
end L2
set_option Elab.async false
set_option linter.all false
set_option maxRecDepth 100000
set_option maxHeartbeats 4000000
namespace L2
open PySem PySem.Spec PyProof.Rows
section
variable {X : Cx}
end
end L2
set_option Elab.async false
set_option linter.all false
set_option maxRecDepth 100000
set_option maxHeartbeats 4000000
namespace L2
open PySem PySem.Spec PyProof.Rows
section
variable {X : Cx}
end
end L2
namespace L2
open PySem PySem.Spec PyProof.Rows
end L2
set_option Elab.async false
set_option linter.all false
set_option maxRecDepth 100000
set_option maxHeartbeats 4000000
namespace L2
open PySem PySem.Spec PyProof.Rows
theorem ints_of {ns : List Int} : ∀ {its : List Value}, Vals (ns.map V.int) its → ∃ xs : List (Int × Tok), its = (xs.map fun p => Value.int p.1 p.2) ∧ xs.map (·.1) = ns := by
  induction ns with
  | nil =>
    intro its r
    cases r
    exact ⟨[], rfl, rfl⟩
  | cons n ns ih =>
    intro its r
    cases r with
    | cons r1 r2 =>
      obtain ⟨t, rfl⟩ := r1
      obtain ⟨xs, rfl, e⟩ := ih r2
      exact ⟨(n, t) :: xs, rfl, by rw [List.map_cons, e]⟩
theorem numAt_of {xs : List (Int × Tok)} {i : Nat} (h : i < xs.length) : numAt xs.toArray i ∈ xs.map (·.1) ∧ (xs.map (·.1))[i]? = some (numAt xs.toArray i) := by
  have e : numAt xs.toArray i = (xs[i]).1 := by
    unfold numAt
    rw [List.getElem?_toArray, List.getElem?_eq_getElem h]; rfl
  rw [e]
  exact ⟨List.mem_map.mpr ⟨xs[i], List.getElem_mem h, rfl⟩, by rw [List.getElem?_map, List.getElem?_eq_getElem h]; rfl⟩
section
variable {X : Cx}
theorem call_min1 (hc : X.calm = true) : CallR X (.builtin "min") (fun xs H Q => ∃ (p : Addr) (ns : List Int), xs = [.ref p] ∧ SqL X.K H p (ns.map V.int) ∧ ns ≠ [] ∧ ∀ M, M ∈ ns → (∀ a ∈ ns, M ≤ a) → Q (.int M) H) := by
  intro pins s σ H xs us Q I rv h
  obtain ⟨p, ns, rfl, hq, hne, q⟩ := h
  obtain ⟨u, rfl, ru⟩ := rv.one
  cases ru
  obtain ⟨its, r, pl, hz⟩ := I.list hq
  obtain ⟨xs, rfl, e⟩ := ints_of r
  have hpos : 0 < xs.length := by
    have := List.length_pos_iff.mpr hne
    rw [← e, List.length_map] at this; exact this
  have hI : s.heap.IsList p (intItems xs.toArray) := by
    have := pl.isList
    rwa [show (xs.map fun p => Value.int p.1 p.2).toArray = intItems xs.toArray from by unfold intItems; simp] at this
  refine min_intList (I.ok.hd hc) hI (by simpa using hpos) fun v h' tk hv hk => ?_
  obtain ⟨t, rfl⟩ := intItems_at hv
  obtain ⟨b1, b2⟩ := argBest_lt (numAt xs.toArray) (xs.toArray.size - 1)
  rw [List.size_toArray] at b1 b2
  have hb : argBest (fun i j => decide (numAt xs.toArray i < numAt xs.toArray j)) (xs.length - 1) < xs.length := by omega
  refine ⟨.int _, H, I.kept (t' := tk) hk, ⟨t, rfl⟩, q _ ?_ fun a ha => ?_⟩
  · rw [← e, List.size_toArray]; exact (numAt_of hb).1
  · rw [← e] at ha
    obtain ⟨i, hi, rfl⟩ := List.mem_iff_getElem.mp ha
    rw [List.length_map] at hi
    have h1 := (numAt_of hi).2
    rw [List.getElem?_eq_getElem (by rw [List.length_map]; exact hi)] at h1
    rw [Option.some.inj h1, List.size_toArray]
    exact b2 i (by omega)
end
end L2
set_option Elab.async false
set_option linter.all false
set_option maxRecDepth 100000
set_option maxHeartbeats 4000000
namespace L2
open PySem PySem.Spec PyProof.Rows
section
variable {P : Program} {w : World} {A : Around} {E : Value → Shared → Prop} {s : Shared}
end
theorem un_laid {fs ex : List Addr} {H : Hp} {h h' : Heap} {a : Addr} {o : HO} (k : ∀ b u, b ∉ ex → h.get? b = some u → h'.get? b = some u) (hp : h.objs.size ≤ a) (hn : H a = none) : Un fs ex H (upd H a o) h h' where
  keep := fun b u q _ _ hx => k b u hx q
  slot := fun b u q _ _ hx => ⟨u.slots, k b u hx q⟩
  free := fun b u q n _ => by rw [upd_ne (Nat.ne_of_lt (Nat.lt_of_lt_of_le (Heap.lt_size q) hp))]; exact n
  there := fun b u q hx => ⟨u, k b u hx q⟩
  tups := fun b xs q => by rw [upd_ne (ne_of_none q hn)]; exact q
  frzs := fun b u xs q => by rw [upd_ne (ne_of_none q hn)]; exact q
  tbls := fun b ps q => ⟨#[], by rw [upd_ne (ne_of_none q hn), q]; simp⟩
theorem hok_laid {P : Program} {w : World} {H : Hp} {h h' : Heap} {ex : List Addr} {a : Addr} {o : HO} (x : HOk P w H h) (k : ∀ b u, b ∉ ex → h.get? b = some u → h'.get? b = some u) (hex : ∀ b ∈ ex, H b = none) (hp : h.objs.size ≤ a) (new : ObjOk P w (upd H a o) h' a o) : HOk P w (upd H a o) h' := fun b u e => by
  have hn := x.fresh hp
  by_cases hb : b = a
  · subst hb; rw [upd_same] at e; cases e; exact new
  · rw [upd_ne hb] at e
    refine (x b u e).stay (fun c v hc q => k c v (fun z => ?_) q) (fun c q => by rw [upd_ne (ne_of_none q hn)]; exact q) fun c xs q => by rw [upd_ne (ne_of_none q hn)]; exact q
    have hz := hex c z
    rcases hc with y | y
    · rw [y, e] at hz; cases hz
    · rw [y] at hz; cases hz
end L2
set_option Elab.async false
set_option linter.all false
set_option maxRecDepth 100000
set_option maxHeartbeats 4000000
namespace L2
open PySem PySem.Spec PyProof.Rows
section
variable {X : Cx} {elts : List Expr} {kk : Nat} {tp : Pos}
section
variable {P : Program} {w : World} {A : Around} {E : Value → Shared → Prop} {s : Shared}
end
end
end L2
set_option Elab.async false
set_option linter.all false
set_option maxRecDepth 100000
set_option maxHeartbeats 4000000
namespace L2
open PySem PySem.Spec PyProof.Rows
def StrKeys (es : Array DictEntry) : Prop := ∀ e ∈ es, ∃ x t, e.key = .str x t
theorem StrKeys.all {es : Array DictEntry} (h : StrKeys es) : (es.all fun e => isExactStrKey e.key) = true := by
  rw [Array.all_eq_true]
  intro i hi
  obtain ⟨x, t, e⟩ := h es[i] (Array.getElem_mem hi)
  rw [e]; rfl
section
variable {P : Program} {w : World} {A : Around} {E : Value → Shared → Prop} {s : Shared}
theorem find_str {d : Addr} {o : Obj} {es : Array DictEntry} {ep : Nat} {x : Str} {t : Tok} {hs : Int} {Q : Option Nat → Shared → Prop} (ho : s.heap.get? d = some o) (hd : o.data = .dict es ep) (sk : StrKeys es)
    (q : Q (es.findIdx? fun e => e.key.isStr x) s) : wpAny (model P w) A (dictFind d (.str x t) hs) Q E s := by
  unfold dictFind
  refine wpAny_holding (wpAny_bind (wpAny_dictEntries ho hd ?_))
  dsimp only
  rw [if_pos sk.all]
  unfold foundByValue
  cases hf : es.findIdx? (fun e => e.key.isStr x) with
  | none => rw [hf] at q; exact wpAny_pure q
  | some i =>
    rw [hf] at q
    obtain ⟨lt, hi, _⟩ := Array.findIdx?_eq_some_iff_getElem.mp hf
    obtain ⟨y, u, ey⟩ := sk es[i] (Array.getElem_mem lt)
    simp only [Array.getElem?_eq_getElem lt]
    have xy : y = x := by
      have := hi; rw [ey] at this; simpa [Value.isStr] using this
    subst xy
    rw [ey]
    have tt : SeqAt.EqAt A s (.str y u) (.str y t) true := by
      have := SeqAt.EqAt.str_str (A := A) (s := s) y u y t
      rwa [beq_self_eq_true] at this
    refine wpAny_bind (wpAny_dictEpoch ho hd (wpAny_bind (tt P w E _ (wpAny_bind (wpAny_dictEpoch ho hd ?_)))))
    rw [if_neg (by simp)]
    exact wpAny_bind (wpAny_rule (wpAny_pure q))
theorem walk_range {β : Type} {b0 : β} {n : Nat} {f : Nat → β → Sem (ForInStep β)} {Q : β → Shared → Prop} (turn : ∀ i, i < n → wpAny (model P w) A (f i b0) (fun r s' => r = .yield b0 ∧ s' = s) E s) (fin : Q b0 s) : wpAny (model P w) A (forIn [:n] b0 f) Q E s := by
  rw [Std.Legacy.Range.forIn_eq_forIn_range']
  simp only [Std.Legacy.Range.size, Nat.sub_zero, Nat.add_sub_cancel, Nat.div_one]
  refine wpAny_forIn_list _ (fun rest b s' => b = b0 ∧ s' = s ∧ ∀ i ∈ rest, i < n) _ ?_ ?_ _ _ ⟨rfl, rfl, fun i hi => by simpa using hi⟩
  · rintro i rest b s' ⟨rfl, rfl, hb⟩
    refine thn (turn i (hb i (by simp))) fun r s2 ⟨e1, e2⟩ => ?_
    subst e1 e2
    exact ⟨rfl, rfl, fun j hj => hb j (by simp [hj])⟩
  · rintro b s' ⟨rfl, rfl, _⟩
    exact fin
theorem same_pairs {nm : String} {a b : Addr} {oa ob : Obj} {es fs : Array DictEntry} {ep fp : Nat} {Q : Bool → Shared → Prop} (na : (a == sysModules) = false) (nb : (b == sysModules) = false) (ha : s.heap.get? a = some oa) (da : oa.data = .dict es ep) (hb : s.heap.get? b = some ob) (db : ob.data = .dict fs fp)
    (ka : StrKeys es) (kb : StrKeys fs) (sz : es.size = fs.size) (al : ∀ i (h : i < es.size) x t, es[i].key = .str x t → ∃ j, ∃ hj : j < fs.size, (fs.findIdx? fun e => e.key.isStr x) = some j ∧ SeqAt.EqAt A s es[i].val fs[j].val true)
    (q : Q true s) : wpAny (model P w) A (Builtin.Dict.samePairs nm a b) Q E s := by
  unfold Builtin.Dict.samePairs Builtin.Dict.showsAll
  rw [if_neg (by rw [na]; exact Bool.false_ne_true)]
  refine wpAny_bind (wpAny_pure ?_)
  rw [if_neg (by rw [nb]; exact Bool.false_ne_true)]
  refine wpAny_bind (wpAny_pure (wpAny_bind (wpAny_dictEntries ha da (wpAny_bind (wpAny_dictEntries hb db ?_)))))
  rw [if_neg (by simp [sz])]
  refine wpAny_bind (wpAny_dictEpoch ha da ?_)
  refine wpAny_bind (walk_range (fun i hi => ?_) (wpAny_pure q))
  refine wpAny_bind (wpAny_dictEntries ha da ?_)
  obtain ⟨x, t, ex⟩ := ka es[i] (Array.getElem_mem hi)
  obtain ⟨j, hj, ej, eq⟩ := al i hi x t ex
  simp only [Array.getElem?_eq_getElem hi]
  refine wpAny_bind (wpAny_holding (wpAny_bind ?_))
  rw [ex]
  refine find_str hb db kb ?_
  rw [ej]
  refine wpAny_bind (wpAny_dictEntries hb db ?_)
  simp only [Array.getElem?_eq_getElem hj]
  refine wpAny_holding (eq P w E _ ?_)
  rw [if_neg (by simp)]
  refine wpAny_bind (wpAny_dictEpoch ha da ?_)
  rw [if_neg (by simp)]
  exact wpAny_pure ⟨rfl, rfl⟩
end
open AutoSeq1 (wpAny_loadPart')
theorem dict_eqM (a b : Addr) (oa ob : Obj) (es fs : Array DictEntry) (ep fp : Nat) (ka : StrKeys es) (kb : StrKeys fs) (sz : es.size = fs.size) (na : (a == sysModules) = false) (nb : (b == sysModules) = false) (ca : oa.cls = .type "dict") (cb : ob.cls = .type "dict") (da : oa.data = .dict es ep) (db : ob.data = .dict fs fp) :
    Meets (Builtin.«dict.__eq__» ⟨[.ref a, .ref b], []⟩) (fun A R s => s.heap.get? a = some oa ∧ s.heap.get? b = some ob ∧
      (∀ i (h : i < es.size) x t, es[i].key = .str x t → ∃ j, ∃ hj : j < fs.size, (fs.findIdx? fun e => e.key.isStr x) = some j ∧ SeqAt.EqAt A.in1 s es[i].val fs[j].val true) ∧ R (.ok (.ret (.bool true))) s) :=
  .of_wp fun P w A R s ⟨ha, hb, al, q⟩ => by
    have ta : s.TypeIs (.ref a) "dict" := ⟨_, ha, ca⟩
    have tb : s.TypeIs (.ref b) "dict" := ⟨_, hb, cb⟩
    unfold Builtin.«dict.__eq__»
    show wpAny _ _ (Builtin.Dict.dictSlotArgs "__eq__" ⟨[.ref a, .ref b], []⟩ >>= _) _ _ s
    unfold Builtin.Dict.dictSlotArgs
    refine wpAny_bind (wpAny_bind (wpAny_notOrdered_dict ta ?_))
    show wpAny _ _ (pure ((Value.ref a, [Value.ref b]) : Value × List Value) >>= _) _ _ s
    refine wpAny_bind (wpAny_pure (wpAny_pure ?_))
    refine wpAny_bind (wpAny_isInstance tb isSubtype_dict_dict ?_)
    rw [if_neg (by simp)]
    show wpAny _ _ (pure a >>= _) _ _ s
    refine wpAny_bind (wpAny_pure ?_)
    show wpAny _ _ (pure b >>= _) _ _ s
    refine wpAny_bind (wpAny_pure (wpAny_bind (same_pairs na nb ha da hb db ka kb sz al ?_)))
    exact wpAny_pure ⟨_, rfl, q⟩
theorem rc_dicts {A : Around} {s : Shared} {a b : Addr} {oa ob : Obj} {es fs : Array DictEntry} {ep fp : Nat} (ka : StrKeys es) (kb : StrKeys fs) (sz : es.size = fs.size) (na : (a == sysModules) = false) (nb : (b == sysModules) = false) (ca : oa.cls = .type "dict") (cb : ob.cls = .type "dict") (da : oa.data = .dict es ep) (db : ob.data = .dict fs fp)
    (ha : s.heap.get? a = some oa) (hb : s.heap.get? b = some ob) (hu : A.units < cLine) (al : ∀ i (h : i < es.size) x t, es[i].key = .str x t → ∃ j, ∃ hj : j < fs.size, (fs.findIdx? fun e => e.key.isStr x) = some j ∧ SeqAt.EqAt A.in1 s es[i].val fs[j].val true) :
    SeqAt.RcAt A s (.ref a) (.ref b) true := fun P w E Q q =>
  richCompare_meets_room (op := .Eq) ⟨_, ha, ca⟩ ⟨_, hb, cb⟩ F.slot_dict_eq F.entry_dict_eq (F.args_dict_eq_2 _ _) (dict_eqM a b oa ob es fs ep fp ka kb sz na nb ca cb da db) ⟨ha, hb, al, show Value.bool true ≠ Value.notImplemented ∧ Q (.bool true) s from ⟨(fun z => nomatch z), q⟩⟩ hu
def TxtKeys (kvs : List (Key × V)) : Prop := ∀ kv ∈ kvs, ∃ x : Str, kv.1 = .inr x
section
variable {X : Cx} {pins : List (Addr × Obj)} {σ : St} {H : Hp} {s : Shared}
theorem pair_at {P : Program} {w : World} : ∀ {es : List DictEntry} {vs : List (Key × Value)} {kvs : List (Key × V)}, Pairs (mixKind P w) es vs → KV kvs vs → ∀ i (h : i < es.length), ∃ k v, kvs[i]? = some (k, v) ∧ keyIs k es[i].key = true ∧ RelV v es[i].val := by
  intro es vs kvs p
  induction p generalizing kvs with
  | nil => intro _ i h; exact absurd h (Nat.not_lt_zero _)
  | @cons e kv es vs h1 h2 p ih =>
    intro r i h
    cases r with
    | @cons a _ as _ ra rr =>
      cases i with
      | zero => exact ⟨a.1, a.2, rfl, by rw [ra.1]; exact h1, by show RelV a.2 e.val; rw [h2]; exact ra.2⟩
      | succ i => exact ih rr i (by simpa using h)
theorem txt_at {P : Program} {w : World} {es : Array DictEntry} {vs : List (Key × Value)} {kvs : List (Key × V)} (p : Pairs (mixKind P w) es.toList vs) (r : KV kvs vs) (t : TxtKeys kvs) : StrKeys es := fun e he => by
  obtain ⟨i, hi, rfl⟩ := Array.mem_iff_getElem.mp he
  obtain ⟨k, v, e1, e2, _⟩ := pair_at p r i (by simpa using hi)
  obtain ⟨x, ex⟩ := t _ (List.mem_of_getElem? e1)
  have ex : k = .inr x := ex
  subst ex
  rcases keyIs_shape e2 with ⟨_, _, z, _⟩ | ⟨y, t, _, z⟩
  · cases z
  · exact ⟨y, t, by simpa using z⟩
theorem at_text {P : Program} {w : World} {fs : Array DictEntry} {ws : List (Key × Value)} {lvs : List (Key × V)} {x : Str} {u : V} (p : Pairs (mixKind P w) fs.toList ws) (r : KV lvs ws) (h : valV lvs (.inr x) = some u) : ∃ j, ∃ hj : j < fs.size, (fs.findIdx? fun e => e.key.isStr x) = some j ∧ RelV u fs[j].val := by
  have hf : (fun e : DictEntry => e.key.isStr x) = fun e => (mixKind P w).is (.inr x) e.key := funext fun e => ((mixKind P w).strs (.inr x) x 0 e.key (keyIs_str x 0)).symm
  have f1 := p.find (.inr x)
  have f2 := r.val (.inr x)
  rw [h, ← f1] at f2
  cases q : fs.toList.find? (fun e => (mixKind P w).is (.inr x) e.key) with
  | none => rw [q] at f2; exact absurd f2 (by intro z; cases z)
  | some f =>
    rw [q] at f2
    obtain ⟨q1, j, hj, q2, q3⟩ := List.find?_eq_some_iff_getElem.mp q
    have hj' : j < fs.size := by simpa using hj
    have q2' : fs[j] = f := by simpa using q2
    refine ⟨j, hj', ?_, by rw [q2']; exact f2⟩
    rw [hf]
    refine Array.findIdx?_eq_some_iff_getElem.mpr ⟨hj', by rw [q2']; exact q1, fun i hi => ?_⟩
    have := q3 i hi
    simpa using this
def DAlike (K : PySem.W.Frag) (H : Hp) (n : Nat) (kvs lvs : List (Key × V)) : Prop := TxtKeys kvs ∧ TxtKeys lvs ∧ kvs.length = lvs.length ∧ ∀ k v, (k, v) ∈ kvs → ∃ u, valV lvs k = some u ∧ Alike K H n v u
theorem dalike_at (I : Inv X pins σ H s) {a b : Addr} {n : Nat} {A : Around} {kvs lvs : List (Key × V)} (hu : A.units + 1 + n < cLine) (ea : Rd H a (.dK kvs)) (eb : Rd H b (.dK lvs)) (al : DAlike X.K H n kvs lvs) : SeqAt.RcAt A s (.ref a) (.ref b) true := by
  obtain ⟨z1, n1, vs, r1, o1, es, ep, g1, c1, d1, k1, p1, nd1⟩ := dk_rd I.hok ea
  obtain ⟨z2, n2, ws, r2, o2, fs, fp, g2, c2, d2, k2, p2, nd2⟩ := dk_rd I.hok eb
  obtain ⟨t1, t2, len, al⟩ := al
  have l1 := p1.length
  have l2 := p2.length
  have l3 := r1.length
  have l4 := r2.length
  refine rc_dicts (txt_at p1 r1 t1) (txt_at p2 r2 t2) (by simp only [Array.length_toList] at l1 l2; omega) n1 n2 c1.1 c2.1 d1 d2 g1 g2 (by omega) fun i hi x t ex => ?_
  obtain ⟨k, v, e1, e2, e3⟩ := pair_at p1 r1 i (by simpa using hi)
  have e2 : keyIs k es[i].key = true := by simpa using e2
  have e3 : RelV v es[i].val := by simpa using e3
  have ek : k = .inr x := by
    rw [ex] at e2
    rcases keyIs_shape e2 with ⟨_, _, _, z⟩ | ⟨y, t', z1, z2⟩
    · cases z
    · cases z2; exact z1
  subst ek
  obtain ⟨u, hu1, hu2⟩ := al _ _ (List.mem_of_getElem? e1)
  obtain ⟨j, hj, ej, rj⟩ := at_text p2 r2 hu1
  exact ⟨j, hj, ej, alike_at I hu2 e3 rj (by show A.units + 1 + n < cLine; omega)⟩
end
section
variable {X : Cx}
theorem call_dict1 : CallR X (.type "dict") (fun xs H Q => ∃ a kvs, xs = [.ref a] ∧ Rd H a (.dK kvs) ∧ ∀ p, H p = none → Q (.ref p) (upd H p (.dK kvs))) := by
  intro pins s σ H xs us Q I rv h
  obtain ⟨a, kvs, rfl, e, q⟩ := h
  obtain ⟨u, rfl, ru⟩ := rv.one
  cases ru
  exact d_copyOf I e fun p s' hp I' => ⟨.ref p, _, I', rfl, q p hp⟩
end
end L2
set_option Elab.async false
set_option linter.all false
set_option maxRecDepth 100000
set_option maxHeartbeats 4000000
namespace L2
open PySem PySem.Spec PyProof.Rows
theorem dict_neM (a b : Addr) (oa ob : Obj) (es fs : Array DictEntry) (ep fp : Nat) (ka : StrKeys es) (kb : StrKeys fs) (sz : es.size = fs.size) (na : (a == sysModules) = false) (nb : (b == sysModules) = false) (ca : oa.cls = .type "dict") (cb : ob.cls = .type "dict") (da : oa.data = .dict es ep) (db : ob.data = .dict fs fp) :
    Meets (Builtin.«dict.__ne__» ⟨[.ref a, .ref b], []⟩) (fun A R s => s.heap.get? a = some oa ∧ s.heap.get? b = some ob ∧
      (∀ i (h : i < es.size) x t, es[i].key = .str x t → ∃ j, ∃ hj : j < fs.size, (fs.findIdx? fun e => e.key.isStr x) = some j ∧ SeqAt.EqAt A.in1 s es[i].val fs[j].val true) ∧ R (.ok (.ret (.bool false))) s) :=
  .of_wp fun P w A R s ⟨ha, hb, al, q⟩ => by
    have ta : s.TypeIs (.ref a) "dict" := ⟨_, ha, ca⟩
    have tb : s.TypeIs (.ref b) "dict" := ⟨_, hb, cb⟩
    unfold Builtin.«dict.__ne__»
    show wpAny _ _ (Builtin.Dict.dictSlotArgs "__ne__" ⟨[.ref a, .ref b], []⟩ >>= _) _ _ s
    unfold Builtin.Dict.dictSlotArgs
    refine wpAny_bind (wpAny_bind (wpAny_notOrdered_dict ta ?_))
    show wpAny _ _ (pure ((Value.ref a, [Value.ref b]) : Value × List Value) >>= _) _ _ s
    refine wpAny_bind (wpAny_pure (wpAny_pure ?_))
    refine wpAny_bind (wpAny_isInstance tb isSubtype_dict_dict ?_)
    rw [if_neg (by simp)]
    show wpAny _ _ (pure a >>= _) _ _ s
    refine wpAny_bind (wpAny_pure ?_)
    show wpAny _ _ (pure b >>= _) _ _ s
    refine wpAny_bind (wpAny_pure (wpAny_bind (same_pairs na nb ha da hb db ka kb sz al ?_)))
    exact wpAny_pure ⟨_, rfl, q⟩
theorem rn_dicts {A : Around} {s : Shared} {a b : Addr} {oa ob : Obj} {es fs : Array DictEntry} {ep fp : Nat} (ka : StrKeys es) (kb : StrKeys fs) (sz : es.size = fs.size) (na : (a == sysModules) = false) (nb : (b == sysModules) = false) (ca : oa.cls = .type "dict") (cb : ob.cls = .type "dict") (da : oa.data = .dict es ep) (db : ob.data = .dict fs fp)
    (ha : s.heap.get? a = some oa) (hb : s.heap.get? b = some ob) (hu : A.units < cLine) (al : ∀ i (h : i < es.size) x t, es[i].key = .str x t → ∃ j, ∃ hj : j < fs.size, (fs.findIdx? fun e => e.key.isStr x) = some j ∧ SeqAt.EqAt A.in1 s es[i].val fs[j].val true) :
    SeqAt.RcNeAt A s (.ref a) (.ref b) false := fun P w E Q q =>
  richCompare_meets_room (op := .NotEq) ⟨_, ha, ca⟩ ⟨_, hb, cb⟩ F.slot_dict_ne F.entry_dict_ne (F.args_dict_ne_2 _ _) (dict_neM a b oa ob es fs ep fp ka kb sz na nb ca cb da db) ⟨ha, hb, al, show Value.bool false ≠ Value.notImplemented ∧ Q (.bool false) s from ⟨(fun z => nomatch z), q⟩⟩ hu
section
variable {X : Cx} {pins : List (Addr × Obj)} {σ : St} {H : Hp} {s : Shared}
theorem dalike_ne (I : Inv X pins σ H s) {a b : Addr} {n : Nat} {A : Around} {kvs lvs : List (Key × V)} (hu : A.units + 1 + n < cLine) (ea : Rd H a (.dK kvs)) (eb : Rd H b (.dK lvs)) (al : DAlike X.K H n kvs lvs) : SeqAt.RcNeAt A s (.ref a) (.ref b) false := by
  obtain ⟨z1, n1, vs, r1, o1, es, ep, g1, c1, d1, k1, p1, nd1⟩ := dk_rd I.hok ea
  obtain ⟨z2, n2, ws, r2, o2, fs, fp, g2, c2, d2, k2, p2, nd2⟩ := dk_rd I.hok eb
  obtain ⟨t1, t2, len, al⟩ := al
  have l1 := p1.length
  have l2 := p2.length
  have l3 := r1.length
  have l4 := r2.length
  refine rn_dicts (txt_at p1 r1 t1) (txt_at p2 r2 t2) (by simp only [Array.length_toList] at l1 l2; omega) n1 n2 c1.1 c2.1 d1 d2 g1 g2 (by omega) fun i hi x t ex => ?_
  obtain ⟨k, v, e1, e2, e3⟩ := pair_at p1 r1 i (by simpa using hi)
  have e2 : keyIs k es[i].key = true := by simpa using e2
  have e3 : RelV v es[i].val := by simpa using e3
  have ek : k = .inr x := by
    rw [ex] at e2
    rcases keyIs_shape e2 with ⟨_, _, _, z⟩ | ⟨y, t', z1, z2⟩
    · cases z
    · cases z2; exact z1
  subst ek
  obtain ⟨u, hu1, hu2⟩ := al _ _ (List.mem_of_getElem? e1)
  obtain ⟨j, hj, ej, rj⟩ := at_text p2 r2 hu1
  exact ⟨j, hj, ej, alike_at I hu2 e3 rj (by show A.units + 1 + n < cLine; omega)⟩
def AlD (K : PySem.W.Frag) (H : Hp) (n : Nat) (x y : V) : Prop := Alike K H n x y ∨ ∃ a b kvs lvs, x = .ref a ∧ y = .ref b ∧ Rd H a (.dK kvs) ∧ Rd H b (.dK lvs) ∧ DAlike K H n kvs lvs
theorem ald_at (I : Inv X pins σ H s) {n : Nat} {x y : V} (h : AlD X.K H n x y) {u v : Value} {A : Around} (ru : RelV x u) (rv : RelV y v) (hu : A.units + 1 + n < cLine) : SeqAt.EqAt A s u v true := by
  rcases h with h | ⟨a, b, kvs, lvs, rfl, rfl, e1, e2, al⟩
  · exact alike_at I h ru rv (by omega)
  · cases ru
    cases rv
    by_cases ab : a = b
    · subst ab; exact SeqAt.EqAt.same _
    · exact SeqAt.EqAt.of_refs ab (dalike_at I hu e1 e2 al)
theorem ald_items (I : Inv X pins σ H s) {n : Nat} {xs ys : List V} {its its2 : List Value} {A : Around} (r : Vals xs its) (r2 : Vals ys its2) (he : ∀ (i : Nat) (x y : V), xs[i]? = some x → ys[i]? = some y → AlD X.K H n x y) (hu : A.units + 1 + n < cLine) :
    ∀ j (h1 : j < its.toArray.size) (h2 : j < its2.toArray.size), SeqAt.EqAt A s its.toArray[j] its2.toArray[j] true := fun j h1 h2 => by
  have e1 := r.length
  have e2 := r2.length
  rw [List.size_toArray] at h1 h2
  have hjx : xs[j]? = some (xs[j]'(by omega)) := by simp
  have hjy : ys[j]? = some (ys[j]'(by omega)) := by simp
  obtain ⟨u1, q1, ru1⟩ := r.get hjx
  obtain ⟨v1, q2, rv1⟩ := r2.get hjy
  have e3 : its.toArray[j] = u1 := by
    have : its[j]? = some its[j] := by simp
    rw [this] at q1; simpa using q1
  have e4 : its2.toArray[j] = v1 := by
    have : its2[j]? = some its2[j] := by simp
    rw [this] at q2; simpa using q2
  rw [e3, e4]
  exact ald_at I (he j _ _ hjx hjy) ru1 rv1 hu
end
section
variable {X : Cx}
def rAlT (K : PySem.W.Frag) (n : Nat) (b : Bool) : R2 := fun x y H Q => ∃ a c xs ys, x = .ref a ∧ y = .ref c ∧ SqT K H a xs ∧ SqT K H c ys ∧ xs.length = ys.length ∧ (∀ (i : Nat) (x y : V), xs[i]? = some x → ys[i]? = some y → AlD K H n x y) ∧ Q (.bl b) H
theorem op_neD {n : Nat} (hu : X.A.units + 1 + n < cLine) : OpR X (compareOp .NotEq) (fun x y H Q => ∃ a b kvs lvs, x = .ref a ∧ y = .ref b ∧ Rd H a (.dK kvs) ∧ Rd H b (.dK lvs) ∧ DAlike X.K H n kvs lvs ∧ Q (.bl false) H) := by
  intro pins s σ H x y v u Q I rx ry h
  obtain ⟨a, b, kvs, lvs, rfl, rfl, e1, e2, al, q⟩ := h
  cases rx
  cases ry
  exact dalike_ne I hu e1 e2 al X.prog X.w X.xe _ ⟨.bl false, H, I, rfl, q⟩
end
end L2
set_option Elab.async false
set_option linter.all false
set_option maxRecDepth 100000
set_option maxHeartbeats 4000000
namespace L2
open PySem PySem.Spec PyProof.Rows
section
variable {X : Cx} {pins : List (Addr × Obj)} {σ : St} {H : Hp} {s : Shared}
end
section
variable {P : Program} {w : World} {K : PySem.W.Frag} {mg : Str → Option Value} {base : Heap} {N : List Str} {qual : Str} {scope : Scope} {f : Addr} {cd : Value} {A : Around} {outer : List Env} {s : Shared} {H : Hp} {E E' : XK}
end
end L2
set_option Elab.async false
set_option linter.all false
set_option maxRecDepth 100000
set_option maxHeartbeats 4000000
namespace L2
open PySem PySem.Spec PyProof.Rows
section
variable {X : Cx} {E : XK} {C : Addr}
end
end L2
set_option Elab.async false
set_option linter.all false
set_option maxRecDepth 100000
set_option maxHeartbeats 4000000
namespace L2
open PySem PySem.Spec PyProof.Rows
section
variable {M : Model} {A : Around} {E : Value → Shared → Prop} {h : Heap} {g : Array GenState} {d : Drawn} {t : Nat} {os : OsState}
end
section
variable {X : Cx} {pins : List (Addr × Obj)} {σ : St} {H : Hp} {s : Shared}
end
end L2
set_option Elab.async false
set_option linter.all false
set_option maxRecDepth 100000
set_option maxHeartbeats 4000000
namespace L2
open PySem PySem.Spec PyProof.Rows
section
variable {X : Cx} {pins : List (Addr × Obj)} {σ : St} {H : Hp} {s : Shared}
end
section
variable {X : Cx}
end
section
variable {P : Program} {w : World} {K : PySem.W.Frag} {mg : Str → Option Value} {base : Heap}
end
end L2
set_option Elab.async false
set_option linter.all false
set_option maxRecDepth 100000
set_option maxHeartbeats 4000000
namespace L2
open PySem PySem.Spec PyProof.Rows PySem.W PySem.Builtin PySem.Builtin.ObjectAttr PySem.Builtin.Getset_descriptor
section
variable {prog : Program} {w : World} {A : Around} {E : Value → Shared → Prop} {s : Shared} {K : PySem.W.Frag} {x C : Addr} {R : Result → Shared → Prop}
end
section
variable {X : Cx}
end
end L2
set_option Elab.async false
set_option linter.all false
set_option maxRecDepth 100000
set_option maxHeartbeats 4000000
namespace L2
open PySem PySem.Spec PyProof.Rows
section
variable {M : Model} {A : Around} {E : Value → Shared → Prop} {s : Shared} {B : Heap} {env : Env} {outer : List Env} {L e : Addr} {cls a0 : Value} {Q : Unit → Shared → Prop}
end
end L2
set_option Elab.async false
set_option linter.all false
set_option maxRecDepth 100000
set_option maxHeartbeats 4000000
namespace L2
open PySem PySem.Spec PyProof.Rows
section
variable {P : Program} {w : World} {K : PySem.W.Frag} {mg : Str → Option Value} {base : Heap} {N : List Str} {qual : Str} {scope : Scope} {f : Addr} {cd : Value} {A : Around} {outer : List Env} {s : Shared} {H : Hp} {E : XK} {E' : St → XK}
end
section
variable {X : Cx}
end
end L2
set_option Elab.async false
set_option linter.all false
set_option maxRecDepth 100000
set_option maxHeartbeats 4000000
namespace L2
open PySem PySem.Spec PyProof.Rows
end L2
set_option Elab.async false
set_option linter.all false
set_option maxRecDepth 100000
set_option maxHeartbeats 4000000
namespace L2
open PySem PySem.Spec PyProof.Rows
end L2
set_option Elab.async false
set_option linter.all false
set_option maxRecDepth 100000
set_option maxHeartbeats 4000000
namespace L2
open PySem PySem.Spec PyProof.Rows
section
variable {X : Cx}
end
theorem cut_to (xs : List V) {b : Int} (h : 0 ≤ b) : cutV xs none (some b) = xs.take b.toNat := by
  obtain ⟨k, rfl⟩ : ∃ k : Nat, b = k := ⟨b.toNat, by omega⟩
  unfold cutV
  rw [HT.sIx_nat, HT.sIx_none, List.drop_zero, Nat.sub_zero]
  show xs.take (min k xs.length) = xs.take k
  rw [List.take_eq_take_min (i := k)]
end L2
set_option Elab.async false
set_option linter.all false
set_option maxRecDepth 100000
set_option maxHeartbeats 4000000
namespace L2
open PySem PySem.Spec PyProof.Rows
open AutoSeq1 (wpAny_loadPart')
section
variable {X : Cx}
end
end L2
set_option Elab.async false
set_option linter.all false
set_option maxRecDepth 100000
set_option maxHeartbeats 4000000
namespace L2
open PySem PySem.Spec PyProof.Rows
def notStar : Expr → Bool
  | .Starred .. => false
  | _ => true
theorem star_cons {e : Expr} {es : List Expr} {env : Env} (h : notStar e = true) : starEach (e :: es) env = (false, eval e env) :: starEach es env := by
  cases e <;> first | rfl | cases h
theorem pa_c {X : Cx} {e : Expr} {es : List Expr} {te : TE} {t : TA} (ha : PE X e te) (hr : PA X es t) (hs : notStar e = true := by rfl) : PA X (e :: es) (tCons te t) := pa_cons ha hr (star_cons hs)
end L2
set_option Elab.async false
set_option linter.all false
set_option maxRecDepth 100000
set_option maxHeartbeats 4000000
namespace L2
open PySem PySem.Spec PyProof.Rows
section
variable {X : Cx}
theorem op_fdivB : OpR X (binaryOp .FloorDiv) (rI (fun _ j => 0 < j ∧ j < 10 ^ 100) fun i j => .int (i / j)) := opI fun i j _ _ _ _ _ hc q => by
  have h1 : (0 : Int) < j := hc.1
  have h2 : j < 10 ^ 100 := hc.2
  refine floordiv_int (by omega) (by rw [Int.fdiv_eq_ediv_of_nonneg i (by omega)]; exact q) (.inl (PyProof.noPylong_of_log2 ?_))
  have hj : j.natAbs ≠ 0 := by omega
  rw [Nat.log2_lt hj]
  have : j.natAbs < 10 ^ 100 := by omega
  exact Nat.lt_of_lt_of_le this (by decide +kernel)
def Itr3 (lo c : Int) (n : Nat) : It := ⟨fun i _ => i < n, fun i H x H' => H' = H ∧ x = .int (lo + i * c), fun i _ => n ≤ i⟩
theorem turn_range3 {P : Program} {w : World} {K : PySem.W.Frag} {tg : Expr} (it : Addr) (lo c : Int) (n : Nat) : Turn P w K tg (Itr3 lo c n) [it] it (fun i h => IsRangeIter h it (lo + (i : Nat) * c) ((n : Int) - (i : Nat)) c) where
  mem := by simp
  obj := fun i h st b hb => by
    have e : b = it := by simpa using hb
    subst e
    exact ⟨_, st, fun v z => by
      have z' : Data.fields _ = Data.cell v := z
      cases z'⟩
  keep := fun i h h' st k => k it (by simp) _ st
  item := by
    intro X hP hw hK hc i pins s σ H E I hf st hg
    subst hP hw hK
    obtain ⟨f0, f1, f2, f3, f4, f5⟩ := hf it (by simp)
    have W := Walks.range (prog := X.prog) (w := X.w) (I.ok.hd hc) it lo c n
    refine W.item i s _ _ hg st fun v h' tk hv st' kk => ?_
    obtain ⟨t, rfl⟩ := hv
    have I1 : Inv X pins σ H { s with heap := h', toks := tk } := I.turned (fun b o hb e => kk b o (by simpa using hb) e) f0 f1 f3 f4 f5
    exact ⟨_, rfl, go_of (s := { s with heap := h', toks := tk }) (n := "range_iterator") st' rfl rfl (by decide) ⟨.int (lo + i * c), H, I1, ⟨t, rfl⟩, ⟨rfl, rfl⟩, st', fun b hb => (hf b hb).1⟩⟩
  done := by
    intro X hP hw hK hc i pins s σ H E I hf st hg
    subst hP hw hK
    obtain ⟨f0, f1, f2, f3, f4, f5⟩ := hf it (by simp)
    exact wpAny_pyNext_range_end (I.ok.hd hc) st (by have : n ≤ i := hg; omega) fun h' eb => ⟨rfl, I.turned (t' := s.toks) (fun b o hb e => eb b o hb e) f0 f1 f3 f4 f5⟩
  self := fun _ _ _ _ _ st h => wpAny_pyIter_rangeiter st h
def iRng3 (ta : TA) : TI := fun σ H R => ta σ H fun vs H1 => ∃ (i j c : Int) (n : Nat), vs = [.int i, .int j, .int c] ∧ (0 < c ∧ c < 1000) ∧ Builtin.Range.small i j c = true ∧ Builtin.Range.rangeSize i j c = n ∧ R (Itr3 i c n) H1
theorem pi_range3 {tg a b c : Expr} {ta : TA} {p pos : Pos} (hg : Gl X "range") (hm : X.mg "range" = none) (ha : PA X [a, b, c] ta) (hs : starEach [a, b, c] X.env = [(false, eval a X.env), (false, eval b X.env), (false, eval c X.env)] := by rfl) (hs2 : starEach [b, c] X.env = [(false, eval b X.env), (false, eval c X.env)] := by rfl) :
    PI X tg (.Call (.Name "range" p) [a, b, c] [] pos) (iRng3 ta) := by
  intro pins s σ H R I h
  refine Call_ (ld_blt I hg hm boot_range (PyProof.Rows.callWith_type1 (thn (ha pos pins s σ H _ I h) fun us s1 ⟨vs, H1, I1, r1, q1⟩ => ?_) (by rw [hs, hs2]) (by rw [hs2]; rfl)))
  obtain ⟨i, j, c, n, e, ⟨c0, c1⟩, hsm, hn, q⟩ := q1
  subst e
  cases r1 with
  | cons r rr =>
    cases rr with
    | cons r' rr =>
      cases rr with
      | cons r'' rr =>
        cases rr
        obtain ⟨t, rfl⟩ := r
        obtain ⟨u, rfl⟩ := r'
        obtain ⟨v, rfl⟩ := r''
        refine call_range_3 (by omega) ?_ (.inl (PyProof.noPylong_small (by omega)))
        refine wpAny_pyIter_range (IsRange.new ..) hsm ?_
        have I2 : Inv X pins σ H1 { s1 with heap := s1.heap.push { cls := .type "range", data := .fields #[.int i t, .int j u, .int c v] }, toks := s1.toks } := I1.kept fun b o e => Heap.get?_push_of_some _ e
        refine ⟨(s1.heap.push { cls := .type "range", data := .fields #[.int i t, .int j u, .int c v] }).objs.size, [(s1.heap.push { cls := .type "range", data := .fields #[.int i t, .int j u, .int c v] }).objs.size], _, _, H1, rfl,
          I2.kept (t' := s1.toks) fun b o e => Heap.get?_push_of_some _ e, turn_range3 _ i c n, ?_, fun b hb => ?_, q⟩
        · have e1 : i + ((0 : Nat) : Int) * c = i := by simp
          have e2 : ((n : Nat) : Int) - ((0 : Nat) : Int) = Builtin.Range.rangeSize i j c := by rw [hn]; simp
          show IsRangeIter _ _ (i + ((0 : Nat) : Int) * c) (((n : Nat) : Int) - ((0 : Nat) : Int)) c
          rw [e1, e2]
          exact Heap.get?_push_size _ rfl
        · have e : b = (s1.heap.push { cls := .type "range", data := .fields #[.int i t, .int j u, .int c v] }).objs.size := by simpa using hb
          subst e
          exact I2.fpOk (Nat.le_refl _) (I2.hok.fresh (Nat.le_refl _))
theorem for_range3 {lo c : Int} {n : Nat} {g : TG} {tb : TS} {D : Ends} {σ : St} {H : Hp} (Pv : Nat → St → Hp → Prop) (h0 : Pv 0 σ H)
    (hs : ∀ i σ H, i < n → Pv i σ H → g (.int (lo + i * c)) σ H fun σ2 H2 => tb { D with nx := Pv (i + 1), ct := Pv (i + 1), bk := D.nx } σ2 H2) (hd : ∀ σ H, Pv n σ H → D.nx σ H) :
    ∃ W : Nat → Nat → St → Hp → Prop, (∃ m, W 0 m σ H) ∧ ∀ i m σ H, W i m σ H →
      ((Itr3 lo c n).stop i H ∧ D.nx σ H) ∨ ((Itr3 lo c n).go i H ∧ ∃ N : St → Hp → Prop, (∀ σ' H', N σ' H' → ∃ m', m' < m ∧ W (i + 1) m' σ' H') ∧ ∀ x H', (Itr3 lo c n).yld i H x H' → g x σ H' fun σ2 H2 => tb { D with nx := N, ct := N, bk := D.nx } σ2 H2) := by
  refine ⟨fun i m σ H => m = n - i ∧ i ≤ n ∧ Pv i σ H, ⟨n, by simp, Nat.zero_le _, h0⟩, ?_⟩
  rintro i m σ H ⟨rfl, hi, p⟩
  by_cases hlt : i < n
  · refine .inr ⟨hlt, Pv (i + 1), fun σ' H' p' => ⟨n - (i + 1), by omega, rfl, hlt, p'⟩, fun x H' y => ?_⟩
    obtain ⟨rfl, rfl⟩ := y
    exact hs i σ _ hlt p
  · have e : i = n := by omega
    subst e
    exact .inl ⟨Nat.le_refl _, hd σ H p⟩
theorem small_by {j c : Int} (hj : 0 ≤ j) (hj' : j < 1000) (hc : 0 < c) (hc' : c < 1000) : Builtin.Range.small 0 j c = true ∧ ∃ n : Nat, Builtin.Range.rangeSize 0 j c = n ∧ n ≤ 1000 ∧ ∀ i : Nat, i < n → (i : Int) * c < j := by
  have h0 : 0 ≤ (j - 0 - 1) / c ∨ j = 0 := by
    by_cases z : j = 0
    · exact .inr z
    · exact .inl (Int.ediv_nonneg (by omega) (by omega))
  have h1 : (j - 0 - 1) / c ≤ 999 := Int.le_trans (Int.ediv_le_ediv hc (show j - 0 - 1 ≤ 999 by omega)) (Int.ediv_le_self _ (by decide))
  constructor
  · unfold Builtin.Range.small Builtin.Range.rangeSize
    simp only [Builtin.Range.rangeFitsLong, Bool.and_eq_true, Bool.or_eq_true, decide_eq_true_eq, beq_iff_eq, hc, if_true]
    split <;> omega
  · unfold Builtin.Range.rangeSize
    rw [if_pos hc]
    by_cases z : 0 < j
    · rw [if_pos z]
      have h0 : 0 ≤ (j - 0 - 1) / c := Int.ediv_nonneg (by omega) (by omega)
      have hm : ∀ i : Int, i ≤ (j - 0 - 1) / c → i * c < j := fun i hi => by
        have := (Int.le_ediv_iff_mul_le hc).mp hi
        omega
      generalize (j - 0 - 1) / c = e at h0 h1 hm ⊢
      exact ⟨(e + 1).toNat, by omega, by omega, fun i hi => hm i (by omega)⟩
    · rw [if_neg z]
      exact ⟨0, rfl, by decide, fun i hi => by omega⟩
end
end L2
set_option Elab.async false
set_option linter.all false
set_option maxRecDepth 100000
set_option maxHeartbeats 4000000
namespace RV
open PySem
end RV
set_option Elab.async false
set_option linter.all false
set_option maxRecDepth 100000
set_option maxHeartbeats 4000000
namespace RV
open PySem
section
variable {P : Program} {w : World} {A : Around} {E : Value → Shared → Prop} {s : Shared}
end
end RV
set_option Elab.async false
set_option linter.all false
set_option maxRecDepth 100000
set_option maxHeartbeats 4000000
namespace RV
open PySem
section
variable {P : Program} {w : World} {A : Around} {E : Value → Shared → Prop} {s : Shared}
end
end RV
set_option Elab.async false
set_option linter.all false
set_option maxRecDepth 100000
set_option maxHeartbeats 4000000
namespace RV
open PySem
section
variable {P : Program} {w : World} {A : Around} {E : Value → Shared → Prop} {s : Shared}
end
end RV
set_option Elab.async false
set_option linter.all false
set_option maxRecDepth 100000
set_option maxHeartbeats 4000000
namespace RV
open PySem
section
variable {P : Program} {w : World} {A : Around} {E : Value → Shared → Prop} {s : Shared}
end
end RV
set_option Elab.async false
set_option linter.all false
set_option maxRecDepth 100000
set_option maxHeartbeats 4000000
namespace L2
open PySem PySem.Spec PyProof.Rows
section
variable {X : Cx} {pins : List (Addr × Obj)} {σ : St} {H H' : Hp} {s : Shared}
end
section
variable {X : Cx}
theorem rel_key {P : Program} {w : World} {k : Key} {u : Value} (h : (mixKind P w).is k u = true) : RelV (kV k) u := by
  rcases keyIs_shape (show keyIs k u = true from h) with ⟨i, t, rfl, rfl⟩ | ⟨x, t, rfl, rfl⟩
  · exact ⟨t, rfl⟩
  · exact ⟨t, rfl⟩
theorem kv_at : ∀ {kvs : List (Key × V)} {vs : List (Key × Value)} {j : Nat} {k : Key} {v : V}, KV kvs vs → kvs[j]? = some (k, v) → ∃ u, vs[j]? = some (k, u) ∧ RelV v u
  | _, _, j, _, _, .nil, h => by simp at h
  | _, _, 0, k, v, .cons (a := a) (b := b) r _, h => by
    have e : a = (k, v) := by simpa using h
    subst e
    exact ⟨b.2, by simp; exact Prod.ext r.1.symm rfl, r.2⟩
  | _, _, j + 1, k, v, .cons r rr, h => by
    obtain ⟨u, h1, h2⟩ := kv_at rr (show _ = some (k, v) by simpa using h)
    exact ⟨u, by simpa using h1, h2⟩
end
end L2
set_option Elab.async false
set_option linter.all false
set_option maxRecDepth 100000
set_option maxHeartbeats 4000000
namespace L2
open PySem PySem.Spec PyProof.Rows
section
variable {X : Cx} {pins : List (Addr × Obj)} {σ : St} {H : Hp} {s : Shared} {a : Addr} {u o' : HO}
theorem Inv.retell (I : Inv X pins σ H s) (e : H a = some u) (nt : ∀ xs, u ≠ .tup xs) (no : ∀ x, u ≠ .own x) (nb : ∀ ps, u ≠ .tbl ps) (nf : ∀ o v, X.H₀ a ≠ some (.frz o v)) (new : ObjOk X.prog X.w (upd H a o') s.heap a o') : Inv X pins σ (upd H a o') s := by
  have ne : ∀ b, H b = none → b ≠ a := fun b h z => by rw [z, e] at h; cases h
  refine ⟨I.ok, I.os, I.bare, ⟨I.base.keep, I.base.slot, fun b o q n x => ?_, I.base.there, fun b xs q => ?_, fun b o v q => ?_, fun b ps q => ?_⟩, I.loc, I.cell, ?_, fun x c h => ?_, fun p hp => ?_, fun b o q => ?_, I.len⟩
  · have := I.base.free b o q n x
    rw [upd_ne (ne b this)]; exact this
  · have := I.base.tups b xs q
    rw [upd_ne (fun z => by rw [z, e] at this; exact nt xs (Option.some.inj this))]; exact this
  · have := I.base.frzs b o v q
    rw [upd_ne (fun z => nf o v (by rw [← z]; exact q))]; exact this
  · obtain ⟨more, this⟩ := I.base.tbls b ps q
    exact ⟨more, by rw [upd_ne (fun z => by rw [z, e] at this; exact nb _ (Option.some.inj this))]; exact this⟩
  · rw [upd_ne (ne _ I.free)]; exact I.free
  · rw [upd_ne (ne _ (I.freeC x c h))]; exact I.freeC x c h
  · obtain ⟨h1, h2, h3⟩ := I.pin p hp
    exact ⟨h1, by rw [upd_ne (ne _ h2)]; exact h2, h3⟩
  · by_cases z : b = a
    · subst z; rw [upd_same] at q; cases q; exact new
    · rw [upd_ne z] at q
      refine (I.hok b o q).stay (fun c v _ y => y) (fun c y => ?_) fun c xs y => ?_
      · rw [upd_ne (fun z => by rw [z, e] at y; exact no _ (Option.some.inj y))]; exact y
      · rw [upd_ne (fun z => by rw [z, e] at y; exact nt _ (Option.some.inj y))]; exact y
end
def thawE (D : Ends) (a : Addr) (o : Obj) (kvs : List (Key × V)) : Ends where
  nx := fun σ H => H a = some (.frz o (.dK kvs)) ∧ D.nx σ (upd H a (.dK kvs))
  rt := fun v H => H a = some (.frz o (.dK kvs)) ∧ D.rt v (upd H a (.dK kvs))
  bk := fun σ H => H a = some (.frz o (.dK kvs)) ∧ D.bk σ (upd H a (.dK kvs))
  ct := fun σ H => H a = some (.frz o (.dK kvs)) ∧ D.ct σ (upd H a (.dK kvs))
section
variable {X : Cx}
theorem Inv.thaw {pins : List (Addr × Obj)} {σ : St} {H : Hp} {s : Shared} {a : Addr} {o : Obj} {kvs : List (Key × V)} (I : Inv X pins σ H s) (e : H a = some (.frz o (.dK kvs))) (nf : ∀ o v, X.H₀ a ≠ some (.frz o v)) : Inv X pins σ (upd H a (.dK kvs)) s := by
  obtain ⟨_, z⟩ : ObjOk X.prog X.w H s.heap a (.frz o (.dK kvs)) := I.hok a _ e
  exact I.retell e (fun _ h => nomatch h) (fun _ h => nomatch h) (fun _ h => nomatch h) nf z
theorem ps_frz {st : Stmt} {t : TS} (h : PS X st t) : PS X st (fun D σ H => ∃ a kvs, H a = some (.dK kvs) ∧ ∀ o, t (thawE D a o kvs) σ (upd H a (.frz o (.dK kvs)))) := by
  intro pins s σ H D I ⟨a, kvs, e, q⟩
  have ok : ObjOk X.prog X.w H s.heap a (.dK kvs) := I.hok a _ e
  obtain ⟨_, _, _, _, o, _, _, ho, _⟩ := id ok
  have nf : ∀ o v, X.H₀ a ≠ some (.frz o v) := fun o v z => by
    have := I.base.frzs a o v z
    rw [e] at this; cases this
  have I1 : Inv X pins σ (upd H a (.frz o (.dK kvs))) s := I.retell e (fun _ h => nomatch h) (fun _ h => nomatch h) (fun _ h => nomatch h) nf ⟨ho, ok⟩
  refine thn (h pins s σ _ _ I1 (q o)) fun f s' r => ?_
  cases f with
  | next => obtain ⟨σ', H', I', e', d'⟩ := r; exact ⟨σ', _, I'.thaw e' nf, d'⟩
  | brk => obtain ⟨σ', H', I', e', d'⟩ := r; exact ⟨σ', _, I'.thaw e' nf, d'⟩
  | cont => obtain ⟨σ', H', I', e', d'⟩ := r; exact ⟨σ', _, I'.thaw e' nf, d'⟩
  | ret u => obtain ⟨v, σ', H', I', rv, e', d'⟩ := r; exact ⟨v, σ', _, I'.thaw e' nf, rv, d'⟩
end
end L2
set_option Elab.async false
set_option linter.all false
set_option maxRecDepth 100000
set_option maxHeartbeats 4000000
namespace RV
open PySem
theorem e_itemIter : entryFor table "dict_itemiterator.__iter__" = some Builtin.«dict_keyiterator.__iter__» :=
  entryFor_alias (id' := "dict_keyiterator.__iter__") (by kernel_rfl) (by decide +kernel) (by decide +kernel) (by kernel_rfl)
end RV
namespace L2
open PySem PySem.Spec PyProof.Rows
def Itm (a : Addr) (o : Obj) (kvs : List (Key × V)) : It :=
  ⟨fun i H => H a = some (.frz o (.dK kvs)) ∧ i < kvs.length, fun i H v H' => ∃ t k x, v = .ref t ∧ H t = none ∧ kvs[i]? = some (k, x) ∧ H' = upd H t (.tup [kV k, x]), fun i H => H a = some (.frz o (.dK kvs)) ∧ kvs.length ≤ i⟩
theorem frz_at {X : Cx} {pins : List (Addr × Obj)} {σ : St} {H : Hp} {s : Shared} {a : Addr} {o : Obj} {kvs : List (Key × V)} (I : Inv X pins σ H s) (e : H a = some (.frz o (.dK kvs))) :
    ∃ vs es ep, KV kvs vs ∧ o.data = .dict es ep ∧ es.size = kvs.length ∧ s.heap.DictAt (mixKind X.prog X.w) a vs ep ∧ (a == sysModules) = false ∧ kvs.length ≤ sizeLine ∧ s.heap.get? a = some o ∧ o.ExactDict := by
  obtain ⟨ho, z, hd, vs, rel, o1, es, ep, y1, y2, y3, y4, y5, y6⟩ : ObjOk X.prog X.w H s.heap a (.frz o (.dK kvs)) := I.hok a _ e
  rw [ho] at y1
  cases y1
  have l1 := y5.length
  have l2 := rel.length
  exact ⟨vs, es, ep, rel, y3, by simp only [Array.length_toList] at l1; omega, ⟨o, es, ho, y2, y3, y4, y5, y6⟩, hd, z, ho, y2⟩
theorem turn_items {P : Program} {w : World} {K : PySem.W.Frag} {elts : List Expr} {kk : Nat} {tp : Pos} (a it : Addr) (o : Obj) (es : Array DictEntry) (ep : Nat) (kvs : List (Key × V)) (hd : o.data = .dict es ep) (sz : es.size = kvs.length) : Turn P w K (.Tuple elts kk tp) (Itm a o kvs) [it] it (fun i h => ∃ ok ov, IsItemIter h it a i kvs.length ep ok ov) where
  mem := by simp
  obj := fun i h ⟨ok, ov, st⟩ b hb => by
    have : b = it := by simpa using hb
    subst this
    exact ⟨_, st, fun v y => by cases y⟩
  keep := fun i h h' ⟨ok, ov, st⟩ k => ⟨ok, ov, k it (by simp) _ st⟩
  item := by
    intro X hP hw hK hc i pins s σ H E I hf st hg
    subst hP hw hK
    obtain ⟨e, hi⟩ := hg
    obtain ⟨ok, ov, st⟩ := st
    obtain ⟨vs, es', ep', rel, hd', _, da, _, _, ho, _⟩ := frz_at I e
    have ee : ep' = ep := by rw [hd] at hd'; cases hd'; rfl
    subst ee
    have len := rel.length
    have ek : kvs[i]? = some (kvs[i].1, kvs[i].2) := List.getElem?_eq_getElem hi
    obtain ⟨v, ev, rv⟩ := kv_at rel ek
    rw [len] at st
    refine wpAny_pyNext_items_item st da ev fun key h1 hk eo t1 z1 o1 => ?_
    refine ⟨_, rfl, wpAny_letOwnedTupleGo_items eo fun h2 e2 b2 => ?_⟩
    have b2 : Heap.SameBut it h1 h2 := b2
    have ilt : it < s.heap.objs.size := Heap.lt_size st
    have t2 : h2.get? s.heap.objs.size = some { cls := .type "tuple", data := .seq #[key, v] } := b2.extBut _ _ (Nat.ne_of_gt ilt) t1
    have on : ∀ b u, b ∉ [it] → s.heap.get? b = some u → h2.get? b = some u := fun b u nb y => b2.extBut b u (fun z => nb (by simp [z])) (o1 b u (fun z => nb (by simp [z])) y)
    have hn : ∀ b ∈ [it], H b = none := fun b hb => (hf b hb).1
    have new : ObjOk X.prog X.w (upd H s.heap.objs.size (.tup [kV kvs[i].1, kvs[i].2])) h2 s.heap.objs.size (.tup [kV kvs[i].1, kvs[i].2]) := ⟨by show (2 : Nat) ≤ sizeLine; decide, [key, v], .cons (rel_key hk) (.cons rv .nil), ⟨_, t2, rfl, _, rfl⟩⟩
    have I2 : Inv X pins σ (upd H s.heap.objs.size (.tup [kV kvs[i].1, kvs[i].2])) { s with heap := h2 } := I.call' (ch := [it]) rfl (un_laid on (Nat.le_refl _) (I.hok.fresh (Nat.le_refl _))) (hok_laid I.hok on hn (Nat.le_refl _) new) I.bare fun b hb => by
      obtain ⟨_, f1, _, f3, f4, f5⟩ := hf b hb
      exact ⟨f3, f1, f4, f5⟩
    rw [← len] at e2
    refine ⟨.ref s.heap.objs.size, _, I2, rfl, ⟨_, _, _, rfl, I.hok.fresh (Nat.le_refl _), ek, rfl⟩, ⟨_, _, e2⟩, fun b hb => ?_⟩
    have hb' := hn b hb
    have : b = it := by simpa using hb
    rw [upd_ne (by rw [this]; exact Nat.ne_of_lt ilt)]; exact hb'
  done := by
    intro X hP hw hK hc i pins s σ H E I hf st hg
    subst hP hw hK
    obtain ⟨e, hi⟩ := hg
    obtain ⟨ok, ov, st⟩ := st
    obtain ⟨vs, es', ep', rel, hd', _, da, _, _, ho, _⟩ := frz_at I e
    have ee : ep' = ep := by rw [hd] at hd'; cases hd'; rfl
    subst ee
    have len := rel.length
    rw [len] at st
    obtain ⟨f0, f1, f2, f3, f4, f5⟩ := hf it (by simp)
    exact wpAny_pyNext_items_end (I.ok.hd hc) st da (by simp; omega) fun h' eb => ⟨rfl, I.turned (t' := s.toks) (fun b o hb y => eb b o hb y) f0 f1 f3 f4 f5⟩
  self := fun A i s Q E ⟨ok, ov, st⟩ h => by
    have ty : s.TypeIs (.ref it) "dict_itemiterator" := ⟨_, st, rfl⟩
    refine wpAny_pyIter_slot ty PySem.F.slot_dict_itemiterator_iter (wpAny_call_entry PySem.F.slot_dict_itemiterator_iter ty RV.e_itemIter ?_ (PySem.F.args_dict_itemiterator_iter_1 _))
    exact wpAny_bind (wpAny_pure (wpAny_pure ⟨_, rfl, "dict_itemiterator", _, ty, PySem.F.slot_dict_itemiterator_next.lookup, h⟩))
end L2
set_option Elab.async false
set_option linter.all false
set_option maxRecDepth 100000
set_option maxHeartbeats 4000000
namespace L2
open PySem PySem.Spec PyProof.Rows
section
variable {X : Cx} {elts : List Expr} {kk : Nat} {tp : Pos}
theorem pi_items {o : Expr} {to : TE} {apos cpos : Pos} (ho : PE X o to) (hbase : attributeBase o "items" X.env (eval o X.env) = eval o X.env := by rfl) (hline : (apos.endLine == cpos.line) = true := by rfl) :
    PI X (.Tuple elts kk tp) (.Call (.Attribute o "items" apos) [] [] cpos) (fun σ H R => to σ H fun x H1 => ∃ a ob kvs, x = .ref a ∧ H1 a = some (.frz ob (.dK kvs)) ∧ R (Itm a ob kvs) H1) := by
  intro pins s σ H R I h
  refine wpAny_Call_method0_late hbase hline (thn (ho pins s σ H _ I h) fun v s1 ⟨x, H1, I1, r1, a, ob, kvs, ex, e, q⟩ => ?_)
  subst ex
  cases r1
  obtain ⟨vs, es, ep, rel, hd, sz, da, nsys, z, hget, exd⟩ := frz_at I1 e
  have ty : s1.TypeIs (.ref a) "dict" := ⟨_, hget, exd.1⟩
  have len := rel.length
  refine ⟨"dict", "dict.items", PySem.F.plainAttrs_dict, PySem.F.slot_dict_items, PySem.F.type_dict_items, ty, (fun b y => by cases y; exact ⟨ob, hget, exd.2.1⟩), Calls.callWith_builtin rfl (PySem.evalArgs_none ?_)⟩
  obtain ⟨o2, es2, y1, y2, y3, y4, y5, y6⟩ := id da
  refine wpAny_call (codeAny_call_builtin PySem.F.slot_dict_items.plain PySem.F.entry_dict_items (PySem.F.slot_dict_items.check _ _ _ _ _ _ _ _ ty (PySem.F.args_dict_items_1 _) (meets_dict_items (mixKind X.prog X.w) a nsys X.A (wants (fun v s1 => wpAny (model X.prog X.w) X.A (pyIter v) (PIE X pins σ (.Tuple elts kk tp) R) X.xe s1) X.xe) s1 ⟨⟨vs, o2, es2, ep, y1, y2, y3, y4, y5, y6⟩, ?_⟩)))
  show wpAny _ _ (pyIter _) _ _ _
  have hv : (s1.heap.push { cls := .type "dict_items", data := .fields #[.ref a] }).IsItemsView s1.heap.objs.size a := ⟨_, Heap.get?_push_size _ rfl, rfl, rfl⟩
  have da' : (s1.heap.push { cls := .type "dict_items", data := .fields #[.ref a] }).DictAt (mixKind X.prog X.w) a vs ep := ⟨o2, es2, Heap.get?_push_of_some _ y1, y2, y3, y4, y5, y6⟩
  refine wpAny_pyIter_items (s := { s1 with heap := s1.heap.push { cls := .type "dict_items", data := .fields #[.ref a] } }) hv da' ?_
  have k1 : ∀ b u, s1.heap.get? b = some u → ((s1.heap.push { cls := .type "dict_items", data := .fields #[.ref a] }).push { cls := .type "dict_itemiterator", data := .fields #[.none, .bool false, .ref a, .int 0 0, .int vs.length 0, .int ep 0, .none, .none] }).get? b = some u := fun b u y => Heap.get?_push_of_some _ (Heap.get?_push_of_some _ y)
  refine ⟨_, [(s1.heap.push { cls := .type "dict_items", data := .fields #[.ref a] }).objs.size], _, _, H1, rfl, I1.kept (t' := s1.toks) k1, turn_items a _ ob es ep kvs hd sz, ⟨_, _, by rw [len]; exact Heap.get?_push_size _ rfl⟩, fun b hb => ?_, q⟩
  have : b = (s1.heap.push { cls := .type "dict_items", data := .fields #[.ref a] }).objs.size := by simpa using hb
  subst this
  have ge : s1.heap.objs.size ≤ (s1.heap.push { cls := .type "dict_items", data := .fields #[.ref a] }).objs.size := by rw [Heap.size_push]; exact Nat.le_succ _
  exact I1.fpOk ge (I1.hok.fresh ge)
end
theorem for_items {a : Addr} {o : Obj} {kvs : List (Key × V)} {g : TG} {tb : TS} {D : Ends} {σ : St} {H : Hp} (Pv : Nat → St → Hp → Prop) (h0 : Pv 0 σ H) (hl : ∀ i σ H, i ≤ kvs.length → Pv i σ H → H a = some (.frz o (.dK kvs)))
    (hs : ∀ i k v σ H t, kvs[i]? = some (k, v) → Pv i σ H → H t = none → g (.ref t) σ (upd H t (.tup [kV k, v])) fun σ2 H2 => tb { D with nx := Pv (i + 1), ct := Pv (i + 1), bk := D.nx } σ2 H2) (hd : ∀ σ H, Pv kvs.length σ H → D.nx σ H) :
    ∃ W : Nat → Nat → St → Hp → Prop, (∃ m, W 0 m σ H) ∧ ∀ i m σ H, W i m σ H →
      ((Itm a o kvs).stop i H ∧ D.nx σ H) ∨ ((Itm a o kvs).go i H ∧ ∃ N : St → Hp → Prop, (∀ σ' H', N σ' H' → ∃ m', m' < m ∧ W (i + 1) m' σ' H') ∧ ∀ x H', (Itm a o kvs).yld i H x H' → g x σ H' fun σ2 H2 => tb { D with nx := N, ct := N, bk := D.nx } σ2 H2) := by
  refine ⟨fun i m σ H => m = kvs.length - i ∧ i ≤ kvs.length ∧ Pv i σ H, ⟨kvs.length, by simp, Nat.zero_le _, h0⟩, ?_⟩
  rintro i m σ H ⟨rfl, hi, p⟩
  by_cases hlt : i < kvs.length
  · refine .inr ⟨⟨hl i σ H hi p, hlt⟩, Pv (i + 1), fun σ' H' p' => ⟨_, ?_, rfl, hlt, p'⟩, fun x H' y => ?_⟩
    · show kvs.length - (i + 1) < kvs.length - i
      omega
    · obtain ⟨t, k, v, rfl, ft, ek, rfl⟩ := y
      exact hs i k v σ H t ek p ft
  · have e : i = kvs.length := by omega
    subst e
    exact .inl ⟨⟨hl _ σ H hi p, Nat.le_refl _⟩, hd σ H p⟩
end L2
set_option Elab.async false
set_option linter.all false
set_option maxRecDepth 100000
set_option maxHeartbeats 4000000
namespace L2
open PySem PySem.Spec PyProof.Rows
section
variable {X : Cx}
end
end L2
set_option Elab.async false
set_option linter.all false
set_option maxRecDepth 100000
set_option maxHeartbeats 4000000
namespace L2
open PySem PySem.Spec PyProof.Rows
section
variable {X : Cx}
end
end L2
set_option Elab.async false
set_option linter.all false
set_option maxRecDepth 100000
set_option maxHeartbeats 4000000
namespace L2
open PySem PySem.Spec PyProof.Rows
section
variable {X : Cx}
theorem strs_of : ∀ (vs : List Value) (ks : List Str), vs.length = ks.length → (∀ (j : Nat) (v : Value), vs[j]? = some v → ∃ x t, ks[j]? = some x ∧ v = .str x t) → StrsAre vs ks
  | [], [], _, _ => .nil
  | [], _ :: _, h, _ => by simp at h
  | _ :: _, [], h, _ => by simp at h
  | v :: vs, k :: ks, h, f => by
    obtain ⟨x, t, e1, e2⟩ := f 0 v rfl
    have e1 : k = x := by simpa using e1
    subst e1 e2
    exact .cons k t (strs_of vs ks (by simpa using h) fun j v e => by
      obtain ⟨x, t, e1, e2⟩ := f (j + 1) v (by simpa using e)
      exact ⟨x, t, by simpa using e1, e2⟩)
end
end L2
set_option Elab.async false
set_option linter.all false
set_option maxRecDepth 100000
set_option maxHeartbeats 4000000
namespace L2
open PySem PySem.Spec PyProof.Rows
section
variable {X : Cx}
end
end L2
set_option Elab.async false
set_option linter.all false
set_option maxRecDepth 100000
set_option maxHeartbeats 4000000
namespace ST
open PySem PyProof.Rows PySem.W
section
variable {prog : Program} {w : World} {A : Around} {E : Value → Shared → Prop} {s : Shared}
end
end ST
namespace L2
open PySem PySem.Spec PyProof.Rows
section
variable {X : Cx}
theorem op_mulB : OpR X (binaryOp .Mult) (rI (fun i j => i.natAbs < 10 ^ 100 ∧ j.natAbs < 10 ^ 100) fun i j => .int (i * j)) := opI fun i j _ _ _ _ _ hc q => mul_int q (by
  have h1 : Builtin.Int.intBits i ≤ 340 := PyProof.Rows.intBits_le (Nat.lt_of_lt_of_le hc.1 (by decide +kernel))
  have h2 : Builtin.Int.intBits j ≤ 340 := PyProof.Rows.intBits_le (Nat.lt_of_lt_of_le hc.2 (by decide +kernel))
  have h' : Builtin.Int.intTooBig (Builtin.Int.intBits i + Builtin.Int.intBits j) = false := by
    unfold Builtin.Int.intTooBig bitsLine
    exact decide_eq_false (by omega)
  unfold IntMulOk
  rw [h']; simp)
end
end L2
set_option Elab.async false
set_option linter.all false
set_option maxRecDepth 100000
set_option maxHeartbeats 4000000
namespace L2
open PySem PySem.Spec PyProof.Rows
def Itk (a : Addr) (o : Obj) (kvs : List (Key × V)) : It :=
  ⟨fun i H => H a = some (.frz o (.dK kvs)) ∧ i < kvs.length, fun i H v H' => H' = H ∧ ∃ k x, kvs[i]? = some (k, x) ∧ v = kV k, fun i H => H a = some (.frz o (.dK kvs)) ∧ kvs.length ≤ i⟩
theorem turn_keys {P : Program} {w : World} {K : PySem.W.Frag} {tg : Expr} (a it : Addr) (o : Obj) (es : Array DictEntry) (ep : Nat) (kvs : List (Key × V)) (hd : o.data = .dict es ep) : Turn P w K tg (Itk a o kvs) [it] it (fun i h => h.IsKeyIter it a i kvs.length ep) where
  mem := by simp
  obj := fun i h ⟨o, st, c, dt⟩ b hb => by
    have : b = it := by simpa using hb
    subst this
    exact ⟨_, st, fun v y => by rw [dt] at y; cases y⟩
  keep := fun i h h' st k => st.at fun o e => k it (by simp) o e
  item := by
    intro X hP hw hK hc i pins s σ H E I hf st hg
    subst hP hw hK
    obtain ⟨e, hi⟩ := hg
    obtain ⟨vs, es', ep', rel, hd', _, da, _, _, ho, _⟩ := frz_at I e
    have ee : ep' = ep := by rw [hd] at hd'; cases hd'; rfl
    subst ee
    have len := rel.length
    have ek : kvs[i]? = some (kvs[i].1, kvs[i].2) := List.getElem?_eq_getElem hi
    obtain ⟨v, ev, rv⟩ := kv_at rel ek
    rw [len] at st
    obtain ⟨f0, f1, f2, f3, f4, f5⟩ := hf it (by simp)
    refine wpAny_pyNext_dict_item st da ev fun key h' hk st' sb => ?_
    have I1 : Inv X pins σ H { s with heap := h', toks := s.toks } := I.turned (t' := s.toks) (fun b o hb y => sb.extBut b o hb y) f0 f1 f3 f4 f5
    rw [← len] at st'
    obtain ⟨o2, g1, g2, g3⟩ := id st'
    exact ⟨_, rfl, go_of (s := { s with heap := h' }) (n := "dict_keyiterator") g1 g2 g3 (by decide) ⟨kV kvs[i].1, H, I1, rel_key hk, ⟨rfl, _, _, ek, rfl⟩, st', fun b hb => (hf b hb).1⟩⟩
  done := by
    intro X hP hw hK hc i pins s σ H E I hf st hg
    subst hP hw hK
    obtain ⟨e, hi⟩ := hg
    obtain ⟨vs, es', ep', rel, hd', _, da, _, _, ho, _⟩ := frz_at I e
    have ee : ep' = ep := by rw [hd] at hd'; cases hd'; rfl
    subst ee
    have len := rel.length
    rw [len] at st
    obtain ⟨f0, f1, f2, f3, f4, f5⟩ := hf it (by simp)
    exact wpAny_pyNext_dict_end (I.ok.hd hc) st da (by simp; omega) fun h' eb => ⟨rfl, I.turned (t' := s.toks) (fun b o hb y => eb b o hb y) f0 f1 f3 f4 f5⟩
  self := fun _ _ _ _ _ st h => wpAny_pyIter_keyiter st h
section
variable {X : Cx}
theorem pi_keys {tg o : Expr} {to : TE} (ho : PE X o to) : PI X tg o (fun σ H R => to σ H fun x H1 => ∃ a ob kvs, x = .ref a ∧ H1 a = some (.frz ob (.dK kvs)) ∧ R (Itk a ob kvs) H1) := by
  intro pins s σ H R I h
  refine thn (ho pins s σ H _ I h) fun v s1 ⟨x, H1, I1, r1, a, ob, kvs, ex, e, q⟩ => ?_
  subst ex
  cases r1
  obtain ⟨vs, es, ep, rel, hd, sz, da, nsys, z, hget, exd⟩ := frz_at I1 e
  have len := rel.length
  refine wpAny_pyIter_dict nsys da ?_
  refine ⟨s1.heap.objs.size, [s1.heap.objs.size], _, _, H1, rfl, I1.kept (t' := s1.toks) fun b o e => Heap.get?_push_of_some _ e, turn_keys a _ ob es ep kvs hd, ⟨_, Heap.get?_push_size _ rfl, rfl, by rw [len]; rfl⟩, fun b hb => ?_, q⟩
  have e : b = s1.heap.objs.size := by simpa using hb
  subst e
  exact I1.fpOk (Nat.le_refl _) (I1.hok.fresh (Nat.le_refl _))
theorem comp_keys {a : Addr} {o : Obj} {kvs : List (Key × V)} {ix : List (Option Nat)} {g : TG} {tt : TT} {te : TE} {QD : Hp → Prop} {σ : St} {H1 : Hp} {D : Addr} (Pv : Nat → List V → St → Hp → Prop) (h0 : Pv 0 [] (blkSt σ ix) (upd H1 D (.lst [])))
    (hl : ∀ i ys τ H, Pv i ys τ H → H a = some (.frz o (.dK kvs)))
    (hs : ∀ i k v ys τ H, kvs[i]? = some (k, v) → Pv i ys τ H → g (kV k) τ H fun τ' H4 => tt τ' H4 fun b H5 => if b = true then te τ' H5 fun v H6 => H6 D = some (.lst ys) ∧ ys.length < sizeLine ∧ Pv (i + 1) (ys ++ [v]) τ' (upd H6 D (.lst (ys ++ [v]))) else Pv (i + 1) ys τ' H5)
    (hd : ∀ ys τ H, Pv kvs.length ys τ H → QD H) :
    ∃ W : Nat → Nat → List V → St → Hp → Prop, (∃ m, W 0 m [] (blkSt σ ix) (upd H1 D (.lst []))) ∧ ∀ i m ys τ H2, W i m ys τ H2 →
      ((Itk a o kvs).stop i H2 ∧ QD H2) ∨ ((Itk a o kvs).go i H2 ∧ ∃ N : List V → St → Hp → Prop, (∀ ys' τ' H', N ys' τ' H' → ∃ m', m' < m ∧ W (i + 1) m' ys' τ' H') ∧ ∀ x H3, (Itk a o kvs).yld i H2 x H3 → g x τ H3 fun τ' H4 => tt τ' H4 fun b H5 =>
        if b = true then te τ' H5 fun v H6 => H6 D = some (.lst ys) ∧ ys.length < sizeLine ∧ N (ys ++ [v]) τ' (upd H6 D (.lst (ys ++ [v])))
        else N ys τ' H5) := by
  refine ⟨fun i m ys τ H => m = kvs.length - i ∧ i ≤ kvs.length ∧ Pv i ys τ H, ⟨kvs.length, by simp, Nat.zero_le _, h0⟩, ?_⟩
  rintro i m ys τ H ⟨rfl, hi, p⟩
  by_cases hlt : i < kvs.length
  · refine .inr ⟨⟨hl i ys τ H p, hlt⟩, Pv (i + 1), fun ys' τ' H' p' => ⟨_, ?_, rfl, hlt, p'⟩, fun x H' y => ?_⟩
    · show kvs.length - (i + 1) < kvs.length - i
      omega
    · obtain ⟨rfl, k, v, ek, rfl⟩ := y
      exact hs i k v ys τ H' ek p
  · have e : i = kvs.length := by omega
    subst e
    exact .inl ⟨⟨hl _ ys τ H p, Nat.le_refl _⟩, hd ys τ H p⟩
theorem op_eqTA {n : Nat} (hu : X.A.units + 2 + n < cLine) : OpR X (compareOp .Eq) (rAlT X.K n true) := by
  intro pins s σ H x y v u Q I rx ry h
  obtain ⟨a, c, xs, ys, rfl, rfl, hx, hy, hl, he, q⟩ := h
  cases rx
  cases ry
  obtain ⟨its, r, pl, hz⟩ := I.tuple hx
  obtain ⟨its2, r2, pl2, hz2⟩ := I.tuple hy
  have e1 := r.length
  have e2 := r2.length
  refine SeqAt.eq_tupleAt (e := fun _ => true) (show s.heap.IsTuple a its.toArray from pl) (show s.heap.IsTuple c its2.toArray from pl2) (by omega) (ald_items I r r2 he (by show X.A.units + 1 + 1 + n < cLine; omega)) ?_
  rw [all_true, Bool.true_and, List.size_toArray, List.size_toArray, ← e1, ← e2, hl, beq_self_eq_true]
  exact ⟨.bl true, H, I, rfl, q⟩
end
end L2
set_option Elab.async false
set_option linter.all false
set_option maxRecDepth 100000
set_option maxHeartbeats 4000000
namespace L2
open PySem PySem.Spec PyProof.Rows
def cxLam (X : Cx) (N : List Str) (qual : Str) (scope : Scope) (f : Addr) (cd : Value) (cl : List (Str × Addr)) (A : Around) (s : Shared) (H : Hp) : Cx where
  prog := X.prog
  w := X.w
  K := X.K
  mg := X.mg
  base := X.base
  A := A.deeper (PySem.W.envX qual scope s.heap.objs.size f cd cl)
  N := N
  s₀ := s
  H₀ := H
  env := PySem.W.envX qual scope s.heap.objs.size f cd cl
  outer := X.stack
  stack := PySem.W.envX qual scope s.heap.objs.size f cd cl :: X.stack
  ex := []
  calm := true
  fn := fun _ => false
  pn := []
  xe := fun _ _ => False
structure LamScope (x y : Str) (sc : Scope) : Prop where
  kind : sc.kind = .function
  co : sc.isCoroutine = false
  gen : sc.isGenerator = false
  px : sc.names.lookup x = some .local
  fy : sc.names.lookup y = some .free
  nocell : ∀ z ∈ sc.names, z.2 ≠ .cell
  onlyy : ∀ z ∈ sc.names, z.2 = .free → z.1 = y
section
variable {X : Cx} {pins : List (Addr × Obj)} {σ : St} {H : Hp} {s : Shared}
theorem IsCell_keeps {h h' : Heap} {c : Addr} {v : Option Value} (x : h.IsCell c v) (k : ∀ b o, h.get? b = some o → h'.get? b = some o) : h'.IsCell c v := by
  obtain ⟨o, e, r⟩ := x
  exact ⟨o, k _ _ e, r⟩
theorem look1 {y z : Str} {c d : Addr} (h : ([(y, c)] : List (Str × Addr)).lookup z = some d) : z = y ∧ d = c := by
  rw [List.lookup_cons] at h
  cases e : (z == y) with
  | true => rw [e] at h; cases h; exact ⟨by simpa using e, rfl⟩
  | false => rw [e] at h; cases h
theorem inv_lam {A : Around} {f c : Addr} {cd : Value} {qual x y : Str} {scope : Scope} {vx vy : V} {ux uy : Value} {h₁ : Heap} {tk : Nat} (I : Inv X pins σ H s) (hA : A.frames = some X.stack) (hh : A.handled = none) (S : LamScope x y scope) (ne : x ≠ y)
    {y' : Str} (hy : X.env.cells.lookup y' = some c) (iy : s.heap.IsCell c (some uy)) (ry : RelV vy uy) (rx : RelV vx ux) (hns : h₁.Ns s.heap.objs.size (fun z => ([(x, ux)] : List (Str × Value)).reverse.lookup z)) (hk : ∀ b o, s.heap.get? b = some o → h₁.get? b = some o) :
    Inv (cxLam X [x, y] qual scope f cd [(y, c)] A s H) [] [some vx, some vy] H { s with heap := h₁, toks := tk } := by
  have e0 := I.env0
  have noA : ∀ b : Addr, b ∉ (cxLam X [x, y] qual scope f cd [(y, c)] A s H).ex := fun b z => absurd (show b ∈ ([] : List Addr) from z) (by simp)
  have hc0 := I.freeC y' c hy
  refine ⟨⟨e0.mod, S.kind, rfl, rfl, Nat.le_refl _, fun a b d h1 h2 => ?_, fun z hz => ?_, fun z d h _ => Bool.noConfusion h, fun _ => hh, Around.frames_deeper hA, .inr ⟨rfl, rfl⟩, fun b z => absurd z (noA b), e0.bs, e0.bsz, fun b _ _ => noA b, fun b z => absurd z (noA b), e0.funs, e0.frf⟩,
    rfl, e0.bare, Un.kept hk, ⟨_, hns, fun i z v h1 h2 h3 => ?_⟩, fun z d h => ?_, e0.hok.fresh (Nat.le_refl _), fun z d h => ?_, fun p hp => absurd (show p ∈ ([] : List (Addr × Obj)) from hp) (by simp), e0.hok.kept hk, rfl⟩
  · rw [(look1 h1).1, (look1 h2).1]
  · have hz : scope.names.lookup z = some .cell ∨ scope.names.lookup z = some .free := hz
    rcases hz with hz | hz
    · exact absurd rfl (S.nocell _ (PySem.mem_of_lookup hz))
    · have : z = y := S.onlyy _ (PySem.mem_of_lookup hz) rfl
      subst this
      exact ⟨c, by show ([(z, c)] : List (Str × Addr)).lookup z = some c; simp⟩
  · match i, h1, h2 with
    | 0, h1, h2 =>
      have h1 : some x = some z := h1
      have h2 : some (some vx) = some (some v) := h2
      cases h1
      cases h2
      exact ⟨ux, rx, .inl ⟨S.px, by simp⟩⟩
    | 1, h1, h2 =>
      have h1 : some y = some z := h1
      have h2 : some (some vy) = some (some v) := h2
      cases h1
      cases h2
      exact ⟨uy, ry, .inr ⟨.inr S.fy, c, by show ([(y, c)] : List (Str × Addr)).lookup y = some c; simp, IsCell_keeps iy hk⟩⟩
    | n + 2, h1, _ => exact absurd (show ([] : List Str)[n]? = some z from h1) (by simp)
  · obtain ⟨_, rfl⟩ := look1 h
    exact ⟨_, IsCell_keeps iy hk⟩
  · obtain ⟨_, rfl⟩ := look1 h
    exact hc0
theorem lam_call {A : Around} {f c c' : Addr} {qual x y : Str} {params : Arguments} {body : Expr} {scope : Scope} {pm ctv : Value} {vx vy : V} {ux uy : Value} {te : TE} {Q : VK} (I : Inv X pins σ H s) (hA : A.frames = some X.stack) (hh : A.handled = none) (room : A.depth < recursionLimit)
    (ho : s.heap.get? f = some (PySem.W.kla_obj "<lambda>" qual params body scope [(y, c)] pm c' ctv)) (hcd : s.heap.CodeRec (.ref c') qual) (S : LamScope x y scope) (ne : x ≠ y)
    (hb : bindArgs (PySem.W.kla_fn "<lambda>" qual params body scope [(y, c)] pm (.ref c') ctv) ⟨[ux], []⟩ = pure [(x, ux)])
    {y' : Str} (hy : X.env.cells.lookup y' = some c) (iy : s.heap.IsCell c (some uy)) (ry : RelV vy uy) (rx : RelV vx ux)
    (ht : PE (cxLam X [x, y] qual scope f (.ref c') [(y, c)] A s H) body te) (hq : te [some vx, some vy] H Q) :
    wpAny (model X.prog X.w) A (call (.ref f) [ux]) (CE X.stack X.prog X.w H s Q) (fun _ _ => False) s := by
  refine wpAny_call (PySem.W.kla_callFunE room ho rfl S.co S.gen rfl hcd ?_)
  rw [hb]
  refine wpAny_pure (wpAny_newFunctionEnv S.nocell (fun z hz => ?_) (fun h₁ hns hsb => ⟨I.nolimit.fresh _ hsb, ?_⟩) S.kind)
  · have : z = (x, ux) := by simpa using hz
    subst this
    exact S.px
  · show codeAny _ _ (.expr body (PySem.W.envX qual scope s.heap.objs.size f (.ref c') [(y, c)])) _ _
    have hk₁ : ∀ b o, s.heap.get? b = some o → h₁.get? b = some o := fun b o e => hsb.extBut b o (Nat.ne_of_lt (Heap.lt_size e)) (Heap.get?_push_of_some _ e)
    have J := inv_lam (qual := qual) (f := f) (cd := .ref c') (tk := s.toks + [(x, ux)].length) I hA hh S ne hy iy ry rx hns hk₁
    refine PySem.W.kla_codeExpr (wpAny_mono (ht [] _ _ H _ J hq) (fun v s' hs => ?_) fun _ _ h => h.elim)
    obtain ⟨v', H', J', rv, q⟩ := hs
    exact ⟨v', H', J'.os, J'.bare, J'.base, J'.hok, rv, q⟩
end
end L2
set_option Elab.async false
set_option linter.all false
set_option maxRecDepth 100000
set_option maxHeartbeats 4000000
namespace ST
open PySem PyProof.Rows
section
variable {prog : Program} {w : World} {A : Around} {E : Value → Shared → Prop} {s : Shared} {a kS : Addr} {vs : List Value} {kz : List Int} {keys : Array Value} {e e1 : Nat} {P : PySem.Fin → Shared → Prop}
end
end ST
set_option Elab.async false
set_option linter.all false
set_option maxRecDepth 100000
set_option maxHeartbeats 4000000
namespace L2
open PySem PySem.Spec PyProof.Rows
def BltAt (mg : Str → Option Value) (h : Heap) : Prop := ∃ bm o, mg "__builtins__" = some (.ref bm) ∧ bm ≠ builtinsNs ∧ h.get? bm = some o ∧ o.cls = .type "module" ∧ o.dict = some builtinsNs ∧ o.data = .plain
def codeO (c : Addr) (qual : Str) : HO := .ext fun h => h.CodeRec (.ref c) qual
def Tab1 (H : Hp) (P : Addr) (qual : Str) (pos : Pos) : Prop := ∃ c', H P = some (.tbl #[rawInt pos.line, rawInt pos.col, .ref c']) ∧ H c' = some (codeO c' qual)
def Tab0 (H : Hp) (P : Addr) (qual : Str) (pos : Pos) : Prop := H P = some (.tbl #[]) ∨ Tab1 H P qual pos
section
variable {X : Cx} {pins : List (Addr × Obj)} {σ : St} {H : Hp} {s : Shared}
theorem codeO_rec (I : Inv X pins σ H s) {c : Addr} {qual : Str} (e : H c = some (codeO c qual)) : s.heap.CodeRec (.ref c) qual := by
  obtain ⟨x, _, _⟩ : ObjOk X.prog X.w H s.heap c (codeO c qual) := I.hok c _ e
  exact x
theorem codeO_ok {P : Program} {w : World} {c : Addr} {qual : Str} {h : Heap} (x : h.CodeRec (.ref c) qual) : ObjOk P w H h c (codeO c qual) := by
  refine ⟨x, ?_, fun h1 h2 y k => ?_⟩
  · obtain ⟨d, o, vs, t, e, g, _⟩ := x
    cases e
    exact ⟨o, g⟩
  · obtain ⟨d, o, vs, t, e, g, r⟩ := y
    cases e
    exact ⟨c, o, vs, t, rfl, k o g, r⟩
theorem among1 (pos : Pos) (c : Addr) : codeAmong pos [rawInt pos.line, rawInt pos.col, .ref c] = some (.ref c) := by
  unfold rawInt codeAmong
  simp
theorem lam_make {E : Value → Shared → Prop} {qual : Str} {params : Arguments} {body : Expr} {scope : Scope} {clos : List (Str × Addr)} {c0 P : Addr} {pos : Pos} {Q : Value → Shared → Prop} (I : Inv X pins σ H s) (hcl : closureFor scope X.env = pure clos) (hcode : X.env.code = .ref c0) (C : PySem.W.CodeHd X.base c0 P) (B : BltAt X.mg X.base) (T : Tab0 H P qual pos)
    (h : ∀ f c' ctv pm H2 s2, Inv X pins σ H2 s2 → Kp [P] H H2 → Tab1 H2 P qual pos → H2 c' = some (codeO c' qual) → s2.heap.get? f = some (PySem.W.kla_obj "<lambda>" qual params body scope clos pm c' ctv) → FpOk X pins H2 f → Q (.ref f) s2) :
    wpAny (model X.prog X.w) X.A (makeFunction "<lambda>" qual params (.expr body) scope X.env [] [] [] pos pos.line) Q E s := by
  obtain ⟨bm, ob, b1, b2, b3, b4, b5, b6⟩ := B
  have tbl : ∃ ps, H P = some (.tbl ps) := by
    rcases T with e | ⟨c', e, _⟩
    · exact ⟨_, e⟩
    · exact ⟨_, e⟩
  obtain ⟨ps0, eP⟩ := tbl
  have pP : s.heap.get? P = some (PySem.W.tabObj ps0) := I.hok P _ eP
  have hgs : s.heap.Ns mainGlobals X.mg := I.mod.glob.keeps I.bk
  have hgP : mainGlobals ≠ P := fun q => by
    obtain ⟨o, es, ep, e, hd, _⟩ := hgs
    rw [q, pP] at e; cases e; cases hd
  have hbP : bm ≠ P := fun q => by
    have e := I.bk _ _ b3
    rw [q, pP] at e; cases e; cases b4
  have hbG : bm ≠ mainGlobals := fun q => by
    obtain ⟨o, es, ep, e, hd, _⟩ := I.mod.glob
    rw [q, e] at b3; cases b3; rw [hd] at b6; cases b6
  have hB : s.heap.BuiltinsAt X.mg P := ⟨bm, ob, b1, b2, hbG, hbP, I.bk _ _ b3, b4, b5, b6⟩
  rcases T with e | ⟨c', e, ec⟩
  · rw [e] at eP
    cases eP
    refine PySem.W.kla_makeFunction (mg := X.mg) hcl I.ok.glob hgs hcode (C.keeps I.bk) pP trivial rfl hgP hB fun c' ctv h' tk hx hge hlt hrec htb => ?_
    have htb : h'.get? P = some (PySem.W.tabObj #[rawInt pos.line, rawInt pos.col, .ref c']) := by simpa using htb
    have fc : H c' = none := I.hok.fresh hge
    have nPc : c' ≠ P := fun z => by rw [z, e] at fc; cases fc
    have hk : ∀ b o, b ≠ P → s.heap.get? b = some o → (h'.push (PySem.W.kla_obj "<lambda>" qual params body scope clos ((X.mg "__name__").getD .none) c' ctv)).get? b = some o := fun b o n q => Heap.get?_push_of_some _ (hx b o n q)
    have nP : ∀ b, H b = none → b ≠ P := fun b n z => by rw [z, e] at n; cases n
    have old : ∀ b, b ≠ P → b ≠ c' → upd (upd H P (.tbl #[rawInt pos.line, rawInt pos.col, .ref c'])) c' (codeO c' qual) b = H b := fun b n1 n2 => by rw [upd_ne n2, upd_ne n1]
    have eP2 : upd (upd H P (.tbl #[rawInt pos.line, rawInt pos.col, .ref c'])) c' (codeO c' qual) P = some (.tbl #[rawInt pos.line, rawInt pos.col, .ref c']) := by rw [upd_ne nPc.symm, upd_same]
    have ec2 : upd (upd H P (.tbl #[rawInt pos.line, rawInt pos.col, .ref c'])) c' (codeO c' qual) c' = some (codeO c' qual) := upd_same
    have un : Un (frs X.stack) [] H (upd (upd H P (.tbl #[rawInt pos.line, rawInt pos.col, .ref c'])) c' (codeO c' qual)) s.heap (h'.push (PySem.W.kla_obj "<lambda>" qual params body scope clos ((X.mg "__name__").getD .none) c' ctv)) := by
      refine ⟨fun b o q n _ _ => hk b o (nP b n) q, fun b o q n _ _ => ⟨o.slots, hk b o (nP b n) q⟩, fun b o q n _ => ?_, fun b o q _ => ?_, fun b xs q => ?_, fun b o u q => ?_, fun b ps q => ?_⟩
      · rw [old b (nP b n) (Nat.ne_of_lt (Nat.lt_of_lt_of_le (Heap.lt_size q) hge))]; exact n
      · by_cases z : b = P
        · rw [z]; exact ⟨_, Heap.get?_push_of_some _ htb⟩
        · exact ⟨o, hk b o z q⟩
      · rw [old b (fun z => by rw [z, e] at q; cases q) (fun z => by rw [z, fc] at q; cases q)]; exact q
      · rw [old b (fun z => by rw [z, e] at q; cases q) (fun z => by rw [z, fc] at q; cases q)]; exact q
      · by_cases z : b = P
        · rw [z, e] at q
          cases q
          exact ⟨#[rawInt pos.line, rawInt pos.col, .ref c'], by rw [z, eP2]; simp⟩
        · exact ⟨#[], by rw [old b z (fun z => by rw [z, fc] at q; cases q), q]; simp⟩
    have hok : HOk X.prog X.w (upd (upd H P (.tbl #[rawInt pos.line, rawInt pos.col, .ref c'])) c' (codeO c' qual)) (h'.push (PySem.W.kla_obj "<lambda>" qual params body scope clos ((X.mg "__name__").getD .none) c' ctv)) := fun b o q => by
      by_cases z1 : b = c'
      · subst z1
        rw [ec2] at q; cases q
        obtain ⟨d, oc, vs, t, e3, g, r⟩ := hrec
        exact codeO_ok ⟨d, oc, vs, t, e3, Heap.get?_push_of_some _ g, r⟩
      · by_cases z2 : b = P
        · subst z2
          rw [eP2] at q; cases q
          exact Heap.get?_push_of_some _ htb
        · rw [old b z2 z1] at q
          refine (I.hok b o q).stay (fun c v hc y => hk c v (fun z => ?_) y) (fun c y => ?_) fun c xs y => ?_
          · rcases hc with hc | hc
            · exact z2 (hc.symm.trans z)
            · rw [z, e] at hc; cases hc
          · rw [old c (fun z => by rw [z, e] at y; cases y) (fun z => by rw [z, fc] at y; cases y)]; exact y
          · rw [old c (fun z => by rw [z, e] at y; cases y) (fun z => by rw [z, fc] at y; cases y)]; exact y
    have J : Inv X pins σ (upd (upd H P (.tbl #[rawInt pos.line, rawInt pos.col, .ref c'])) c' (codeO c' qual)) { s with heap := h'.push (PySem.W.kla_obj "<lambda>" qual params body scope clos ((X.mg "__name__").getD .none) c' ctv), toks := tk } := I.call' rfl un hok I.bare fun b z => nomatch z
    have kp : Kp [P] H (upd (upd H P (.tbl #[rawInt pos.line, rawInt pos.col, .ref c'])) c' (codeO c' qual)) := fun b o q n => by
      rw [old b (fun z => n (by simp [z])) (fun z => by rw [z, fc] at q; cases q)]; exact q
    have fs : s.heap.objs.size ≤ h'.objs.size := Nat.le_trans hge (Nat.le_of_lt hlt)
    have ff : upd (upd H P (.tbl #[rawInt pos.line, rawInt pos.col, .ref c'])) c' (codeO c' qual) h'.objs.size = none := by
      have n1 : h'.objs.size ≠ P := fun z => by
        have := Heap.lt_size htb
        rw [← z] at this
        exact Nat.lt_irrefl _ this
      rw [old _ n1 (Nat.ne_of_gt hlt)]
      exact I.hok.fresh fs
    exact h h'.objs.size c' ctv _ _ _ J kp ⟨c', eP2, ec2⟩ ec2 (Heap.get?_push_size _ rfl) (I.fpOk fs ff)
  · rw [e] at eP
    cases eP
    refine PySem.W.kla_makeFunctionHit (mg := X.mg) hcl I.ok.glob hgs hcode (C.keeps I.bk) pP trivial (among1 pos c') hB fun ctv h' tk hk hsz => ?_
    have J : Inv X pins σ H { s with heap := h'.push (PySem.W.kla_obj "<lambda>" qual params body scope clos ((X.mg "__name__").getD .none) c' ctv), toks := tk } := I.kept fun b o q => Heap.get?_push_of_some _ (hk b o q)
    exact h h'.objs.size c' ctv _ _ _ J Kp.refl ⟨c', e, ec⟩ ec (Heap.get?_push_size _ rfl) (I.fpOk hsz (I.hok.fresh hsz))
end
end L2
set_option Elab.async false
set_option linter.all false
set_option maxRecDepth 100000
set_option maxHeartbeats 4000000
namespace L2
open PySem PySem.Spec PyProof.Rows
section
variable {X : Cx} {pins : List (Addr × Obj)} {σ : St} {H : Hp} {s : Shared}
theorem Inv.adopt {a : Addr} {o' : HO} (I : Inv X pins σ H s) (f : FpOk X pins H a) (new : ObjOk X.prog X.w (upd H a o') s.heap a o') : Inv X pins σ (upd H a o') s := by
  obtain ⟨f0, f1, f2, f3, f4, f5⟩ := f
  have ne : ∀ b u, H b = some u → b ≠ a := fun b u q z => by rw [z, f0] at q; cases q
  refine ⟨I.ok, I.os, I.bare, ⟨I.base.keep, I.base.slot, fun b o q n x => ?_, I.base.there, fun b xs q => ?_, fun b o v q => ?_, fun b ps q => ?_⟩, I.loc, I.cell, ?_, fun x c h => ?_, fun p hp => ?_, fun b o q => ?_, I.len⟩
  · have := I.base.free b o q n x
    have nb : b ≠ a := fun z => by
      rcases f3 with y | y
      · exact x (by rw [z]; exact y)
      · exact absurd (Nat.lt_of_lt_of_le (Heap.lt_size q) (by rw [z]; exact y)) (Nat.lt_irrefl _)
    rw [upd_ne nb]; exact this
  · have := I.base.tups b xs q
    rw [upd_ne (ne b _ this)]; exact this
  · have := I.base.frzs b o v q
    rw [upd_ne (ne b _ this)]; exact this
  · obtain ⟨more, this⟩ := I.base.tbls b ps q
    exact ⟨more, by rw [upd_ne (ne b _ this)]; exact this⟩
  · rw [upd_ne f1.symm]; exact I.free
  · rw [upd_ne (f4 x c h)]; exact I.freeC x c h
  · obtain ⟨h1, h2, h3⟩ := I.pin p hp
    exact ⟨h1, by rw [upd_ne (f5 p hp)]; exact h2, h3⟩
  · by_cases z : b = a
    · subst z; rw [upd_same] at q; cases q; exact new
    · rw [upd_ne z] at q
      refine (I.hok b o q).stay (fun c v _ y => y) (fun c y => ?_) fun c xs y => ?_
      · rw [upd_ne (ne c _ y)]; exact y
      · rw [upd_ne (ne c _ y)]; exact y
theorem FpOk.nstk {b : Addr} (I : Inv X pins σ H s) (f : FpOk X pins H b) : b ∉ frs X.stack := fun z => by
  obtain ⟨f0, f1, f2, _⟩ := f
  rcases List.mem_cons.mp (I.stkSub b z) with y | y
  · exact f1 y
  · exact f2 y
theorem Inv.cellAt {iy : Nat} {y : Str} {c : Addr} {vy : V} (I : Inv X pins σ H s) (hN : X.N[iy]? = some y) (hσ : σ[iy]? = some (some vy)) (hk : X.env.kindOf y = some .cell) (hy : X.env.cells.lookup y = some c) : ∃ u, RelV vy u ∧ s.heap.IsCell c (some u) := by
  obtain ⟨m, _, l⟩ := I.loc
  obtain ⟨u, r, lk⟩ := l iy y vy hN hσ (.inr (.inl hk))
  rcases lk with ⟨z, _⟩ | ⟨_, d, e, ic⟩
  · rw [hk] at z; cases z
  · rw [hy] at e; cases e
    exact ⟨u, r, ic⟩
theorem zip_strs {g : Str → Int} : ∀ {vs : List Value} {ks : List Str}, StrsAre vs ks → ∀ p ∈ (ks.map g).zip vs, ∃ x t, x ∈ ks ∧ p = (g x, .str x t)
  | _, _, .nil, p, hp => by simp at hp
  | _, _, .cons x t h, p, hp => by
    rw [List.map_cons, List.zip_cons_cons] at hp
    rcases List.mem_cons.mp hp with z | z
    · exact ⟨x, t, List.mem_cons_self, z⟩
    · obtain ⟨x', t', h1, h2⟩ := zip_strs h p z
      exact ⟨x', t', List.mem_cons_of_mem _ h1, h2⟩
end
end L2
set_option Elab.async false
set_option linter.all false
set_option maxRecDepth 100000
set_option maxHeartbeats 4000000
namespace L2
open PySem PySem.Spec PyProof.Rows
theorem law_callT {P : Program} {w : World} {K : PySem.W.Frag} {mg mb : Str → Option Value} {CX : CXT} {k : Nat} {fa a : Addr} {fd : FuncData} {x : Str} {sp : Sp} {s₁ : Shared} {vs : List Value} {ns : List Int} {tabs : List (Addr × Addr)}
    (KX : K.In s₁.heap) (hns : s₁.heap.Ns mainGlobals mg) (hb : s₁.heap.Ns builtinsNs mb) (hbb : ∀ x : Str, x ≠ "__name__" → mb x = bootBuiltins x) (hlim : s₁.heap.NoLimit) (hg : s₁.gens = #[]) (hB : BltAt mg s₁.heap) (hT : PySem.W.TabsAt tabs s₁.heap) (hKT : ∀ q ∈ tabs, K.lookup q.2 = none)
    (ha : s₁.heap.get? a = some { cls := .type "list", data := .seq vs.toArray }) (hi : IntsAre vs ns) (hl : ns.length ≤ sizeLine) (hr : Room k callerA)
    (F : ∀ base : Heap, K.In base → base.Ns mainGlobals mg → BltAt mg base → (∀ q ∈ tabs, PySem.W.CodeHd base q.1 q.2) → FnOk P w K mg base CX k fa fd [x] sp) (hbind : ∀ (s : Shared) (u : Value), BindsTo s fd ⟨[u], []⟩ [(x, u)])
    (hsp : ∀ H : Hp, SqL K H a (ns.map V.int) → (∀ q ∈ tabs, H q.2 = some (.tbl #[])) → sp [.ref a] H (fun v _ => v = .bl true) fun _ _ _ => False)
    (hCX : ∀ H e s', CX [] H s₁ (fun _ _ _ => False) e s' → False) :
    codeAny (model P w) callerA (.call (.ref fa) ⟨[.ref a], []⟩) (fun r s' => r = .ok (.ret (.bool true)) ∧ OldK s₁.heap s'.heap ∧ s'.os = s₁.os ∧ AllBare s'.gens) s₁ := by
  have rv := vals_ints hi
  have lenV := hi.length
  have naT : ∀ q ∈ tabs, q.2 ≠ a := fun q hq z => by
    have := (hT q hq).2
    rw [z, ha] at this; cases this
  have core : ∀ H : Hp, (∀ b, H b = none ∨ (∃ o xs, H b = some (.frz o (.lst xs))) ∨ (H b = some (.tbl #[]) ∧ ∃ q ∈ tabs, q.2 = b)) → SqL K H a (ns.map V.int) → (∀ q ∈ tabs, H q.2 = some (.tbl #[])) → HOk P w H s₁.heap → (∀ b, H b ≠ none → b = a ∨ ∃ q ∈ tabs, q.2 = b) → (H a ≠ none → K.lookup a = none) →
      codeAny (model P w) callerA (.call (.ref fa) ⟨[.ref a], []⟩) (fun r s' => r = .ok (.ret (.bool true)) ∧ OldK s₁.heap s'.heap ∧ s'.os = s₁.os ∧ AllBare s'.gens) s₁ := by
    intro H hO hS hH hok hA hK
    have base_of : ∀ {b : Addr} {o : Obj}, s₁.heap.get? b = some o → H b = none → (hidT s₁.heap H).get? b = some o := fun e n => hidT_get e n
    have non : ∀ {b : Addr} {o : Obj}, s₁.heap.get? b = some o → (∀ xs n, o.data ≠ .seq xs n) → (∀ ps, o.data ≠ .fields ps ∨ o.cls ≠ .none) → H b = none := fun {b o} e n1 n2 => by
      cases q : H b with
      | none => rfl
      | some u =>
        rcases hA b (by rw [q]; simp) with z | ⟨r, hr, z⟩
        · subst z
          rw [ha] at e; cases e
          exact absurd rfl (n1 _ _)
        · subst z
          rw [(hT r hr).2] at e; cases e
          rcases n2 #[] with z | z <;> exact absurd rfl z
    have noA : ∀ {b : Addr} {o : Obj} {es : Array DictEntry} {ep : Nat}, s₁.heap.get? b = some o → o.data = .dict es ep → H b = none := fun {b o es ep} e d => non e (fun xs n z => by rw [d] at z; cases z) fun ps => .inl fun z => by rw [d] at z; cases z
    have nsK : ∀ {b : Addr} {m : Str → Option Value}, s₁.heap.Ns b m → (hidT s₁.heap H).Ns b m := fun {b m} ⟨o, es, ep, e, d, r⟩ => ⟨o, es, ep, base_of e (noA e d), d, r⟩
    have hKb : K.In (hidT s₁.heap H) := fun b o e => base_of (KX b o e) (by
      cases q : H b with
      | none => rfl
      | some u =>
        rcases hA b (by rw [q]; simp) with z | ⟨r, hr, z⟩
        · subst z
          rw [hK (by rw [q]; simp)] at e; cases e
        · subst z
          rw [hKT r hr] at e; cases e)
    have hBb : BltAt mg (hidT s₁.heap H) := by
      obtain ⟨bm, o, b1, b2, b3, b4, b5, b6⟩ := hB
      exact ⟨bm, o, b1, b2, base_of b3 (non b3 (fun xs n z => by rw [b6] at z; cases z) fun ps => .inl fun z => by rw [b6] at z; cases z), b4, b5, b6⟩
    have hCb : ∀ q ∈ tabs, PySem.W.CodeHd (hidT s₁.heap H) q.1 q.2 := fun q hq => by
      obtain ⟨o, vs', file, tf, flags, tg, inF, text, tt, c1, c2, c3, c4⟩ := (hT q hq).1
      exact ⟨o, vs', file, tf, flags, tg, inF, text, tt, base_of c1 (non c1 (fun xs n z => by rw [c3] at z; cases z) fun ps => .inr fun z => by rw [c2] at z; cases z), c2, c3, c4⟩
    have hM : Mod K mg (hidT s₁.heap H) := ⟨hKb, nsK hns, ⟨mb, nsK hb, hbb⟩, let ⟨mc, h1, h2⟩ := hlim; ⟨mc, nsK h1, h2⟩⟩
    have e0 : Env0 P w K mg (hidT s₁.heap H) callerA [] s₁ H := ⟨rfl, hM, fun b o e => of_hidT e, Nat.le_of_eq (hidT_size _ _), trivial, fun b hb => absurd (show b ∈ ([] : List Addr) from hb) (by simp), hok, .of_eq hg⟩
    refine codeAny_mono ((F _ hKb (nsK hns) hBb hCb).run callerA [] s₁ H ⟨[.ref a], []⟩ [.ref a] [.ref a] _ _ hr e0 (hbind s₁ (.ref a)) (.cons rfl .nil) (hsp H hS hH)) fun r s' h => ?_
    cases r with
    | error e => exact (hCX H e s' h).elim
    | ok fl =>
      cases fl with
      | next => exact False.elim h
      | brk => exact False.elim h
      | cont => exact False.elim h
      | ret u =>
        obtain ⟨v, H', os, bare, un, hok', r', q⟩ := h
        have q' : v = .bl true := q
        subst q'
        obtain rfl : u = Value.bool true := r'
        have kept : ∀ b o, s₁.heap.get? b = some o → (∀ r ∈ tabs, r.2 ≠ b) → s'.heap.get? b = some o := fun b o e nt => by
          cases q : H b with
          | none => exact un.keep b o e q (by intro z; exact absurd (show b ∈ ([] : List Addr) from z) (by simp)) (by simp)
          | some u =>
            rcases hO b with z | ⟨ob, xs, z⟩ | ⟨z, r, hr, y⟩
            · rw [q] at z; cases z
            · have z2 := un.frzs b ob _ z
              obtain ⟨e1, _⟩ := hok b _ z
              obtain ⟨e2, _⟩ := hok' b _ z2
              rw [e] at e1; cases e1
              exact e2
            · exact absurd y (nt r hr)
        refine ⟨rfl, ⟨fun b o e => ?_, fun b o e => ?_⟩, os, bare⟩
        · by_cases t : ∃ r ∈ tabs, r.2 = b
          · obtain ⟨r, hr, rfl⟩ := t
            obtain ⟨c1, c2⟩ := hT r hr
            rw [c2] at e; cases e
            obtain ⟨more, z⟩ := un.tbls _ _ (hH r hr)
            have z2 : s'.heap.get? r.2 = some { cls := .none, data := .fields (#[] ++ more) } := hok' _ _ z
            exact .inr (.inl ⟨(c1.tab c2).isCodeTable, rfl, #[], more, rfl, z2⟩)
          · exact .inl (kept b o e fun r hr z => t ⟨r, hr, z⟩)
        · by_cases t : ∃ r ∈ tabs, r.2 = b
          · obtain ⟨r, hr, rfl⟩ := t
            obtain ⟨more, z⟩ := un.tbls _ _ (hH r hr)
            exact ⟨_, hok' _ _ z⟩
          · exact ⟨o, kept b o e fun r hr z => t ⟨r, hr, z⟩⟩
  have hTb : ∀ b : Addr, (∃ q ∈ tabs, q.2 = b) → s₁.heap.get? b = some (PySem.W.tabObj #[]) := fun b ⟨q, hq, e⟩ => by rw [← e]; exact (hT q hq).2
  open Classical in
  cases hk : K.lookup a with
  | some o =>
    have e := KX a o hk
    rw [ha] at e
    cases e
    refine core (fun b => if (∃ q ∈ tabs, q.2 = b) then some (.tbl #[]) else none) (fun b => ?_) (.inr ⟨_, vs.toArray, _, hk, rfl, rfl, rfl, by rw [List.size_toArray, lenV]; exact hl, by simpa using rv⟩) (fun q hq => if_pos ⟨q, hq, rfl⟩) (fun b u z => ?_) (fun b z => ?_) fun z => ?_
    · by_cases t : ∃ q ∈ tabs, q.2 = b
      · exact .inr (.inr ⟨if_pos t, t⟩)
      · exact .inl (if_neg t)
    · by_cases t : ∃ q ∈ tabs, q.2 = b
      · have z' := (if_pos t).symm.trans z
        cases z'
        exact hTb b t
      · have z' := (if_neg t).symm.trans z
        cases z'
    · by_cases t : ∃ q ∈ tabs, q.2 = b
      · exact .inr t
      · exact absurd (if_neg t) z
    · by_cases t : ∃ q ∈ tabs, q.2 = a
      · obtain ⟨q, hq, e⟩ := t
        exact absurd e (naT q hq)
      · exact absurd (if_neg t) z
  | none =>
    have nta : ¬ ∃ q ∈ tabs, q.2 = a := fun ⟨q, hq, e⟩ => naT q hq e
    refine core (fun b => if b = a then some (.frz { cls := .type "list", data := .seq vs.toArray } (.lst (ns.map V.int))) else if (∃ q ∈ tabs, q.2 = b) then some (.tbl #[]) else none) (fun b => ?_) (.inl (.inr ⟨{ cls := .type "list", data := .seq vs.toArray }, if_pos rfl⟩)) (fun q hq => (if_neg (naT q hq)).trans (if_pos ⟨q, hq, rfl⟩)) (fun b u z => ?_) (fun b z => ?_) fun _ => hk
    · by_cases hb : b = a
      · exact .inr (.inl ⟨_, _, if_pos hb⟩)
      · by_cases t : ∃ q ∈ tabs, q.2 = b
        · exact .inr (.inr ⟨(if_neg hb).trans (if_pos t), t⟩)
        · exact .inl ((if_neg hb).trans (if_neg t))
    · by_cases hb : b = a
      · have z' := (if_pos hb).symm.trans z
        cases z'
        subst hb
        exact ⟨ha, by rw [List.length_map]; exact hl, vs, _, rv, ha⟩
      · by_cases t : ∃ q ∈ tabs, q.2 = b
        · have z' := ((if_neg hb).trans (if_pos t)).symm.trans z
          cases z'
          exact hTb b t
        · have z' := ((if_neg hb).trans (if_neg t)).symm.trans z
          cases z'
    · by_cases hb : b = a
      · exact .inl hb
      · by_cases t : ∃ q ∈ tabs, q.2 = b
        · exact .inr t
        · exact absurd ((if_neg hb).trans (if_neg t)) z
theorem walk_ofT {l : PySem.W.OpenLaw} {n k : Nat} {q : Program} {loose : List Str} {XP : (Str → Option Value) → Heap → Prop} {YP : World → Heap → Prop} {d : DefRec} {K : Params → PySem.W.Frag} {CX : World → CXT} {sp : World → Sp} {x : Str} {tabs : List (Addr × Addr)}
    (hn : l.most = some n) (hn2 : n ≤ sizeLine) (hdf : d.params.defaults = []) (hr : Room k callerA)
    (hY : ∀ (w : World) (h : Heap), YP w h → (K w.params).In h) (hT : ∀ (w : World) (h : Heap), YP w h → PySem.W.TabsAt tabs h) (hKT : ∀ (w : World), ∀ q ∈ tabs, (K w.params).lookup q.2 = none)
    (F : ∀ (w : World) (mg : Str → Option Value) (fa : Addr) (h : Heap), (K w.params).In h → h.Ns mainGlobals mg → mg d.name = some (.ref fa) →
      ∃ fd : FuncData, (∀ (s : Shared) (u : Value), BindsTo s fd ⟨[u], []⟩ [(x, u)]) ∧
        ∀ base : Heap, (K w.params).In base → base.Ns mainGlobals mg → BltAt mg base → (∀ q ∈ tabs, PySem.W.CodeHd base q.1 q.2) → FnOk l.prog w (K w.params) mg base (CX w) k fa fd [x] (sp w))
    (hsp : ∀ (w : World) (H : Hp) (a : Addr) (ns : List Int), ns.length ≤ n → SqL (K w.params) H a (ns.map V.int) → (∀ q ∈ tabs, H q.2 = some (.tbl #[])) → sp w [.ref a] H (fun v _ => v = .bl true) fun _ _ _ => False)
    (hCX : ∀ (w : World) (H : Hp) (s : Shared) (e : Value) (s' : Shared), CX w [] H s (fun _ _ _ => False) e s' → False) :
    PySem.W.WalkO q loose XP YP l.row.toRowW d [] (fun f vs => PySem.call f vs) := by
  refine Att.attach_call hn hdf fun w s₀ s₁ mg mb fa o pm cd doc a vs ns G Y ho hd hcd hmg hobj hints hlen hg => ?_
  have KX := hY w _ Y
  obtain ⟨fd, hb, hF⟩ := F w mg fa _ KX G.T.g hmg
  exact law_callT KX G.T.g G.T.b G.T.builtins G.T.nolimit hg G.T.bmain (hT w _ Y) (hKT w) hobj hints (Nat.le_trans hlen hn2) hr hF hb (fun H hS hH => hsp w H a ns hlen hS hH) fun H e s' => hCX w H s₁ e s'
end L2
set_option Elab.async false
set_option linter.all false
set_option maxRecDepth 100000
set_option maxHeartbeats 4000000
namespace Stab
open PySem PyProof.Rows
theorem min_run (n : Nat) (h : n < 64) : minRun' n n 0 = n := by
  have : ∀ n, n < 64 → minRun' n n 0 = n := by decide +kernel
  exact this n h
structure IA (pf : Value → Nat) (arr : Array Keyed) (f : Nat → Int) (p : Nat → Nat) : Prop where
  at_ : ∀ i, i < arr.size → ∃ t v, arr[i]? = some (.int (f i) t, v) ∧ pf v = p i
structure G (pf : Value → Nat) (a₀ : Array Keyed) (st : SortSt) (f : Nat → Int) (p : Nat → Nat) : Prop where
  base : SBase a₀ st
  ia : IA pf (arrOf st) f p
theorem G.size {pf : Value → Nat} {a₀ : Array Keyed} {st : SortSt} {f : Nat → Int} {p : Nat → Nat} (g : G pf a₀ st f p) : (arrOf st).size = a₀.size := g.base.perm.size_eq
def SS (f : Nat → Int) (p : Nat → Nat) (i j : Nat) : Prop := f i < f j ∨ (f i = f j ∧ p i < p j)
def mir {α : Type} (i j : Nat) (f : Nat → α) : Nat → α := fun k => if i ≤ k ∧ k < j then f (i + j - 1 - k) else f k
def mov {α : Type} (l k : Nat) (f : Nat → α) : Nat → α := fun i => if i = l then f k else if l < i ∧ i ≤ k then f (i - 1) else f i
section
variable {prog : Program} {w : World} {A : Around} {E : Value → Shared → Prop} {s : Shared} {pf : Value → Nat} {a₀ : Array Keyed} {st : SortSt} {f : Nat → Int} {p : Nat → Nat}
theorem s_lt {i j i' j' : Nat} {Q : Option Bool → SortSt → Prop} (g : G pf a₀ st f p) (ei : i = i') (ej : j = j') (hi : i' < a₀.size) (hj : j' < a₀.size) (h : Q (some (decide (f i' < f j'))) st) : wpS (model prog w) A E s (ltAt' i j) Q st := by
  subst ei ej
  obtain ⟨t, v, e1, _⟩ := g.ia.at_ i (by rw [g.size]; exact hi)
  obtain ⟨u, v', e2, _⟩ := g.ia.at_ j (by rw [g.size]; exact hj)
  exact wpS_ltAt g.base.kind e1 e2 h
theorem s_rev {i j i' j' : Nat} {Q : Unit → SortSt → Prop} (g : G pf a₀ st f p) (ei : i = i') (ej : j = j') (hj : j' ≤ a₀.size) (h : ∀ st', G pf a₀ st' (mir i' j' f) (mir i' j' p) → Q () st') : wpS (model prog w) A E s (reverseSlice' i j) Q st := by
  subst ei ej
  refine wpS_reverse (h _ ⟨⟨(mirror_perm _ _ _ _).trans g.base.perm, g.base.kind, g.base.failed, g.base.pend⟩, ⟨fun k hk => ?_⟩⟩)
  have hz : (arrOf (setArr st (mirror (arrOf st) i j ((j - i) / 2)))).size = a₀.size := ((mirror_perm _ _ _ _).trans g.base.perm).size_eq
  rw [hz] at hk
  have e : (arrOf (setArr st (mirror (arrOf st) i j ((j - i) / 2))))[k]? = if i ≤ k ∧ k < j then (arrOf st)[i + j - 1 - k]? else (arrOf st)[k]? := getElem?_mirror_all (by rw [g.size]; exact hj) k
  rw [e]
  unfold mir
  by_cases c : i ≤ k ∧ k < j
  · rw [if_pos c, if_pos c, if_pos c]
    exact g.ia.at_ _ (by rw [g.size]; omega)
  · rw [if_neg c, if_neg c, if_neg c]
    exact g.ia.at_ _ (by rw [g.size]; omega)
theorem s_mov {k l k' l' : Nat} {Q : PUnit → SortSt → Prop} (g : G pf a₀ st f p) (ek : k = k') (el : l = l') (hk : k' < a₀.size) (hl : l' ≤ k') (h : ∀ st', G pf a₀ st' (mov l' k' f) (mov l' k' p) → Q ⟨⟩ st') : wpS (model prog w) A E s (moveDown' k l) Q st := by
  subst ek el
  rw [moveDown'_eq]
  refine wpS_modify (h _ ⟨⟨(bubble_perm _ _ _).trans g.base.perm, g.base.kind, g.base.failed, g.base.pend⟩, ⟨fun i hi => ?_⟩⟩)
  have hz : (arrOf (setArr st (bubble (arrOf st) k (k - l)))).size = a₀.size := ((bubble_perm _ _ _).trans g.base.perm).size_eq
  rw [hz] at hi
  have e : (arrOf (setArr st (bubble (arrOf st) k (k - l))))[i]? = if i = k - (k - l) then (arrOf st)[k]? else if k - (k - l) < i ∧ i ≤ k then (arrOf st)[i - 1]? else (arrOf st)[i]? := getElem?_bubble (by rw [g.size]; exact hk) _ (by omega) i
  rw [show k - (k - l) = l by omega] at e
  rw [e]
  unfold mov
  by_cases c : i = l
  · rw [if_pos c, if_pos c, if_pos c]
    exact g.ia.at_ _ (by rw [g.size]; omega)
  · rw [if_neg c, if_neg c, if_neg c]
    by_cases c2 : l < i ∧ i ≤ k
    · rw [if_pos c2, if_pos c2, if_pos c2]
      exact g.ia.at_ _ (by rw [g.size]; omega)
    · rw [if_neg c2, if_neg c2, if_neg c2]
      exact g.ia.at_ _ (by rw [g.size]; omega)
structure Up (N : Nat) (f : Nat → Int) (p : Nat → Nat) (n : Nat) : Prop where
  ord : ∀ i j, i < j → j < n → SS f p i j
  low : ∀ i, i < n → p i < n
  rest : ∀ k, n ≤ k → k < N → p k = k
theorem Up.more {N n : Nat} (u : Up N f p n) (hn : n < N) (h1 : 1 ≤ n) (h : f (n - 1) ≤ f n) : Up N f p (n + 1) := by
  have pn := u.rest n (Nat.le_refl _) hn
  refine ⟨fun i j hij hj => ?_, fun i hi => ?_, fun k hk => u.rest k (by omega)⟩
  · by_cases c : j < n
    · exact u.ord i j hij c
    · have ej : j = n := by omega
      subst ej
      have pi := u.low i hij
      by_cases ci : i = j - 1
      · subst ci
        unfold SS; omega
      · have q := u.ord i (j - 1) (by omega) (by omega)
        unfold SS at q ⊢; omega
  · by_cases c : i < n
    · have := u.low i c; omega
    · have : i = n := by omega
      subst this; omega
theorem s_asc {lo nrem n0 : Nat} {α : Type} {Q : α → SortSt → Prop} (g : G pf a₀ st f p) (h0 : lo = 0) (hn : nrem ≤ a₀.size) (h1 : 1 ≤ n0) (h2 : n0 ≤ nrem) (up : Up a₀.size f p n0)
    (F : Nat → Option (Option Nat) × Nat → StateT SortSt Sem (ForInStep (Option (Option Nat) × Nat))) (hF : ∀ x n, F x (none, n) = (do
      let c ← ltAt' (lo + n) (lo + n - 1)
      match c with
      | some c => if c = true then pure (ForInStep.done (none, n)) else pure (ForInStep.yield (none, n + 1))
      | _ => pure (ForInStep.done (some none, n)))) (K : Option (Option Nat) × Nat → StateT SortSt Sem α)
    (hK : ∀ n, n0 ≤ n → n ≤ nrem → Up a₀.size f p n → (n = nrem ∨ f n < f (n - 1)) → wpS (model prog w) A E s (K (none, n)) Q st) :
    wpS (model prog w) A E s (forIn [n0:nrem] ((none, n0) : Option (Option Nat) × Nat) F >>= K) Q st := by
  refine wpS_bind (wpS_forRange (I := fun x c st' => st' = st ∧ c = (none, x) ∧ x ≤ nrem ∧ Up a₀.size f p x) ?step ?fin ⟨rfl, rfl, h2, up⟩)
  case fin =>
    rintro c st' ⟨rfl, rfl, h3, h4⟩
    rw [show max n0 nrem = nrem by omega] at h4 ⊢
    exact hK nrem h2 (Nat.le_refl _) h4 (.inl rfl)
  case step =>
    rintro x c st' hx1 hx2 ⟨rfl, rfl, h3, h4⟩
    rw [hF]
    refine wpS_bind (s_lt g (i' := x) (j' := x - 1) (by omega) (by omega) (by omega) (by omega) ?_)
    by_cases e : f x < f (x - 1)
    · rw [decide_eq_true e]
      show wpS _ _ _ _ (if true = true then _ else _) _ _
      rw [if_pos rfl]
      exact wpS_pure (hK x hx1 h3 h4 (.inr e))
    · rw [decide_eq_false e]
      show wpS _ _ _ _ (if false = true then _ else _) _ _
      rw [if_neg (by decide)]
      exact wpS_pure ⟨rfl, rfl, by omega, h4.more (by omega) (by omega) (by omega)⟩
structure Dn (N : Nat) (f : Nat → Int) (p : Nat → Nat) (x q : Nat) : Prop where
  le : q + 1 ≤ x
  ord : ∀ i j, i < j → j < x → i + (q + 1) < x → SS f p j i
  eq : ∀ k, x ≤ k + (q + 1) → k < x → f k = f (x - 1)
  low : ∀ i, i + (q + 1) < x → p i + (q + 1) < x
  rest : ∀ k, x ≤ k + (q + 1) → k < N → p k = k
structure Fl (N : Nat) (f : Nat → Int) (p : Nat → Nat) (n : Nat) : Prop where
  ord : ∀ i j, i < j → j < n → SS f p j i
  low : ∀ i, i < n → p i < n
  rest : ∀ k, n ≤ k → k < N → p k = k
theorem Dn.fall {N x q : Nat} (d : Dn N f p x q) (hx : x ≤ N) : Fl N (mir (x - (q + 1)) x f) (mir (x - (q + 1)) x p) x := by
  have dl := d.le
  refine ⟨fun i j hij hj => ?_, fun i hi => ?_, fun k hk hk' => ?_⟩
  · by_cases ci : i + (q + 1) < x
    · have e1 : mir (x - (q + 1)) x f i = f i ∧ mir (x - (q + 1)) x p i = p i := by unfold mir; rw [if_neg (by omega), if_neg (by omega)]; exact ⟨rfl, rfl⟩
      by_cases cj : j + (q + 1) < x
      · have e2 : mir (x - (q + 1)) x f j = f j ∧ mir (x - (q + 1)) x p j = p j := by unfold mir; rw [if_neg (by omega), if_neg (by omega)]; exact ⟨rfl, rfl⟩
        have := d.ord i j hij hj ci
        unfold SS at this ⊢
        rw [e1.1, e1.2, e2.1, e2.2]; exact this
      · have e2 : mir (x - (q + 1)) x f j = f (x - (q + 1) + x - 1 - j) ∧ mir (x - (q + 1)) x p j = p (x - (q + 1) + x - 1 - j) := by unfold mir; rw [if_pos (by omega), if_pos (by omega)]; exact ⟨rfl, rfl⟩
        have := d.ord i (x - (q + 1) + x - 1 - j) (by omega) (by omega) ci
        unfold SS at this ⊢
        rw [e1.1, e1.2, e2.1, e2.2]; exact this
    · have e1 : mir (x - (q + 1)) x f i = f (x - (q + 1) + x - 1 - i) ∧ mir (x - (q + 1)) x p i = p (x - (q + 1) + x - 1 - i) := by unfold mir; rw [if_pos (by omega), if_pos (by omega)]; exact ⟨rfl, rfl⟩
      have e2 : mir (x - (q + 1)) x f j = f (x - (q + 1) + x - 1 - j) ∧ mir (x - (q + 1)) x p j = p (x - (q + 1) + x - 1 - j) := by unfold mir; rw [if_pos (by omega), if_pos (by omega)]; exact ⟨rfl, rfl⟩
      unfold SS
      rw [e1.1, e1.2, e2.1, e2.2]
      have a1 := d.eq (x - (q + 1) + x - 1 - i) (by omega) (by omega)
      have a2 := d.eq (x - (q + 1) + x - 1 - j) (by omega) (by omega)
      have b1 := d.rest (x - (q + 1) + x - 1 - i) (by omega) (by omega)
      have b2 := d.rest (x - (q + 1) + x - 1 - j) (by omega) (by omega)
      omega
  · unfold mir
    by_cases c : x - (q + 1) ≤ i ∧ i < x
    · rw [if_pos c]
      have := d.rest (x - (q + 1) + x - 1 - i) (by omega) (by omega)
      omega
    · rw [if_neg c]
      have := d.low i (by omega)
      omega
  · unfold mir
    rw [if_neg (by omega)]
    exact d.rest k (by omega) hk'
theorem mir_one {α : Type} {x : Nat} (f : Nat → α) (h : 1 ≤ x) : mir (x - (0 + 1)) x f = f := by
  funext k
  unfold mir
  by_cases c : x - (0 + 1) ≤ k ∧ k < x
  · rw [if_pos c]
    have : x - (0 + 1) + x - 1 - k = k := by omega
    rw [this]
  · rw [if_neg c]
theorem Fl.rise {N n : Nat} (d : Fl N f p n) (hn : n ≤ N) : Up N (mir 0 n f) (mir 0 n p) n := by
  refine ⟨fun i j hij hj => ?_, fun i hi => ?_, fun k hk hk' => ?_⟩
  · have := d.ord (0 + n - 1 - j) (0 + n - 1 - i) (by omega) (by omega)
    unfold SS mir at *
    rw [if_pos (by omega), if_pos (by omega), if_pos (by omega), if_pos (by omega)]
    exact this
  · unfold mir
    rw [if_pos (by omega)]
    exact d.low _ (by omega)
  · unfold mir
    rw [if_neg (by omega)]
    exact d.rest k hk hk'
theorem Fl.next {N n : Nat} (d : Fl N f p n) (h1 : 1 ≤ n) (hn : n < N) (h : f n < f (n - 1)) : Dn N f p (n + 1) 0 := by
  refine ⟨by omega, fun i j hij hj hi => ?_, fun k hk hk' => by rw [show k = n + 1 - 1 by omega], fun i hi => ?_, fun k hk hk' => d.rest k (by omega) hk'⟩
  · by_cases c : j < n
    · exact d.ord i j hij c
    · have : j = n := by omega
      subst this
      by_cases ci : i = j - 1
      · subst ci; unfold SS; omega
      · have := d.ord i (j - 1) (by omega) (by omega)
        unfold SS at this ⊢; omega
  · have := d.low i (by omega)
    omega
theorem Dn.same {N x q : Nat} (d : Dn N f p x q) (hx : x < N) (h : f x = f (x - 1)) : Dn N f p (x + 1) (q + 1) := by
  have dl := d.le
  refine ⟨by omega, fun i j hij hj hi => ?_, fun k hk hk' => ?_, fun i hi => ?_, fun k hk hk' => d.rest k (by omega) hk'⟩
  · by_cases c : j < x
    · exact d.ord i j hij c (by omega)
    · have : j = x := by omega
      subst this
      have a := d.ord i (j - 1) (by omega) (by omega) (by omega)
      have b := d.low i (by omega)
      have b2 := d.rest (j - 1) (by omega) (by omega)
      unfold SS at a ⊢; omega
  · rw [show x + 1 - 1 = x by omega]
    by_cases c : k = x
    · rw [c]
    · rw [h]; exact d.eq k (by omega) (by omega)
  · have := d.low i (by omega)
    omega
theorem s_tail {lo nrem n m : Nat} {Q : Option Nat → SortSt → Prop} (g : G pf a₀ st f p) (h0 : lo = 0) (hn : nrem ≤ a₀.size) (h1 : 1 ≤ n) (h2 : n ≤ nrem) (d : Fl a₀.size f p n)
    (F : Nat → Option (Option Nat) × Nat → StateT SortSt Sem (ForInStep (Option (Option Nat) × Nat))) (hF : ∀ x n, F x (none, n) = (do
      let c ← ltAt' (lo + n) (lo + n - 1)
      match c with
      | some c => if c = true then pure (ForInStep.done (none, n)) else pure (ForInStep.yield (none, n + 1))
      | _ => pure (ForInStep.done (some none, n)))) (K : Option (Option Nat) × Nat → StateT SortSt Sem (Option Nat)) (hK : ∀ n, K (none, n) = pure (some n))
    (h : ∀ m st' f' p', G pf a₀ st' f' p' → 1 ≤ m → m ≤ nrem → Up a₀.size f' p' m → Q (some m) st') :
    wpS (model prog w) A E s (reverseSlice' lo (lo + n) >>= fun _ => forIn [n:nrem] ((none, n) : Option (Option Nat) × Nat) F >>= K) Q st := by
  refine wpS_bind (s_rev g (i' := 0) (j' := n) h0 (by omega) (by omega) fun st1 g1 => ?_)
  refine s_asc g1 h0 hn h1 h2 (d.rise (by omega)) F hF K fun m m1 m2 m3 _ => ?_
  rw [hK]
  exact wpS_pure (h m _ _ _ g1 (by omega) m2 m3)
theorem s_desc {lo nrem n0 : Nat} {α : Type} {Q : α → SortSt → Prop} (g : G pf a₀ st f p) (h0 : lo = 0) (hn : nrem ≤ a₀.size) (h2 : n0 ≤ nrem) (dn : Dn a₀.size f p n0 0)
    (F : Nat → Option (Option Nat) × Nat × Nat → StateT SortSt Sem (ForInStep (Option (Option Nat) × Nat × Nat))) (hF : ∀ x n q, F x (none, n, q) = (ltAt' (lo + n) (lo + n - 1) >>= fun c => match c with
      | some c => (if c = true then (if q > 0 then (reverseSlice' (lo + n - (q + 1)) (lo + n) >>= fun _ => pure (ForInStep.yield (none, n + 1, 0))) else pure (ForInStep.yield (none, n + 1, 0)))
        else (ltAt' (lo + n - 1) (lo + n) >>= fun d => match d with
          | some d => (if d = true then pure (ForInStep.done (none, n, q)) else pure (ForInStep.yield (none, n + 1, q + 1)))
          | _ => pure (ForInStep.done (some none, n, q))))
      | _ => pure (ForInStep.done (some none, n, q)))) (K : Option (Option Nat) × Nat × Nat → StateT SortSt Sem α)
    (hK : ∀ n q st' f' p', G pf a₀ st' f' p' → n0 ≤ n → n ≤ nrem → Dn a₀.size f' p' n q → wpS (model prog w) A E s (K (none, n, q)) Q st') :
    wpS (model prog w) A E s (forIn [n0:nrem] ((none, n0, 0) : Option (Option Nat) × Nat × Nat) F >>= K) Q st := by
  refine wpS_bind (wpS_forRange (I := fun x c st' => ∃ q f' p', c = (none, x, q) ∧ x ≤ nrem ∧ G pf a₀ st' f' p' ∧ Dn a₀.size f' p' x q) ?step ?fin ⟨0, f, p, rfl, h2, g, dn⟩)
  case fin =>
    rintro c st' ⟨q, f', p', rfl, h3, g', d'⟩
    have e : max n0 nrem = nrem := by omega
    rw [e] at d' ⊢
    exact hK nrem q st' f' p' g' h2 (Nat.le_refl _) d'
  case step =>
    rintro x c st' hx1 hx2 ⟨q, f', p', rfl, h3, g', d'⟩
    have dl := d'.le
    rw [hF]
    refine wpS_bind (s_lt g' (i' := x) (j' := x - 1) (by omega) (by omega) (by omega) (by omega) ?_)
    by_cases e : f' x < f' (x - 1)
    · rw [decide_eq_true e]
      show wpS _ _ _ _ (if true = true then _ else _) _ _
      rw [if_pos rfl]
      by_cases hq : q > 0
      · rw [if_pos hq]
        have F1 := d'.fall (by omega)
        have e3 : mir (x - (q + 1)) x f' x < mir (x - (q + 1)) x f' (x - 1) := by
          have h1 : mir (x - (q + 1)) x f' x = f' x := by unfold mir; rw [if_neg (by omega)]
          have h2 : mir (x - (q + 1)) x f' (x - 1) = f' (x - 1) := by
            unfold mir; rw [if_pos (by omega)]
            exact d'.eq _ (by omega) (by omega)
          rw [h1, h2]; exact e
        exact wpS_bind (s_rev g' (i' := x - (q + 1)) (j' := x) (by omega) (by omega) (by omega) fun st1 g1 => wpS_pure ⟨0, _, _, rfl, by omega, g1, F1.next (by omega) (by omega) e3⟩)
      · rw [if_neg hq]
        have q0 : q = 0 := by omega
        subst q0
        have F1 := d'.fall (by omega)
        rw [mir_one f' (by omega), mir_one p' (by omega)] at F1
        exact wpS_pure ⟨0, _, _, rfl, by omega, g', F1.next (by omega) (by omega) e⟩
    · rw [decide_eq_false e]
      show wpS _ _ _ _ (if false = true then _ else _) _ _
      rw [if_neg (by decide)]
      refine wpS_bind (s_lt g' (i' := x - 1) (j' := x) (by omega) (by omega) (by omega) (by omega) ?_)
      by_cases e2 : f' (x - 1) < f' x
      · rw [decide_eq_true e2]
        show wpS _ _ _ _ (if true = true then _ else _) _ _
        rw [if_pos rfl]
        exact wpS_pure (hK x q st' f' p' g' hx1 h3 d')
      · rw [decide_eq_false e2]
        show wpS _ _ _ _ (if false = true then _ else _) _ _
        rw [if_neg (by decide)]
        exact wpS_pure ⟨q + 1, f', p', rfl, by omega, g', d'.same (by omega) (by omega)⟩
theorem s_count {lo nrem : Nat} {Q : Option Nat → SortSt → Prop} (g : G pf a₀ st f p) (h0 : lo = 0) (hn : nrem ≤ a₀.size) (h1 : 1 ≤ nrem) (hp : ∀ k, k < a₀.size → p k = k)
    (h : ∀ m st' f' p', G pf a₀ st' f' p' → 1 ≤ m → m ≤ nrem → Up a₀.size f' p' m → Q (some m) st') : wpS (model prog w) A E s (countRun' lo nrem) Q st := by
  have u1 : Up a₀.size f p 1 := ⟨fun i j h1 h2 => by omega, fun i hi => by rw [show i = 0 by omega, hp 0 (by omega)]; omega, fun k _ hk => hp k hk⟩
  refine s_asc g h0 hn (Nat.le_refl 1) h1 u1 _ (fun x n => rfl) _ fun n n1 n2 up ho => ?_
  show wpS _ _ _ _ (if (n == nrem) = true then _ else _) _ _
  by_cases c : (n == nrem) = true
  · rw [if_pos c]
    exact wpS_pure (h n st f p g n1 n2 up)
  rw [if_neg c]
  have c' : ¬ n = nrem := by simpa using c
  have hlt := ho.resolve_left c'
  have last : ∀ (m q : Nat) (st2 : SortSt) (f2 : Nat → Int) (p2 : Nat → Nat) (K : StateT SortSt Sem (Option Nat)), G pf a₀ st2 f2 p2 → m ≤ nrem → Dn a₀.size f2 p2 m q →
      (∀ st3 f3 p3, G pf a₀ st3 f3 p3 → Fl a₀.size f3 p3 m → wpS (model prog w) A E s K Q st3) → wpS (model prog w) A E s (if q > 0 then reverseSlice' (lo + m - (q + 1)) (lo + m) >>= fun _ => K else K) Q st2 := by
    intro m q st2 f2 p2 K g2 m2 d2 hk
    have dl := d2.le
    have F1 := d2.fall (by omega)
    by_cases hq : q > 0
    · rw [if_pos hq]
      exact wpS_bind (s_rev g2 (i' := m - (q + 1)) (j' := m) (by omega) (by omega) (by omega) fun st3 g3 => hk st3 _ _ g3 F1)
    · rw [if_neg hq]
      have q0 : q = 0 := by omega
      subst q0
      rw [mir_one f2 (by omega), mir_one p2 (by omega)] at F1
      exact hk st2 _ _ g2 F1
  show wpS _ _ _ _ (if n > 1 then _ else _) _ _
  by_cases gg : n > 1
  · rw [if_pos gg]
    refine wpS_bind (s_lt g (i' := 0) (j' := n - 1) (by omega) (by omega) (by omega) (by omega) ?_)
    by_cases e : f 0 < f (n - 1)
    · rw [decide_eq_true e]
      show wpS _ _ _ _ (if true = true then _ else _) _ _
      rw [if_pos rfl]
      exact wpS_pure (h n st f p g n1 n2 up)
    · rw [decide_eq_false e]
      show wpS _ _ _ _ (if false = true then _ else _) _ _
      rw [if_neg (by decide)]
      have hall : ∀ k, k < n → f k = f (n - 1) := fun k k2 => by
        by_cases c1 : k = 0
        · have a2 := up.ord 0 (n - 1) (by omega) (by omega)
          unfold SS at a2
          subst c1; omega
        · by_cases c2 : k = n - 1
          · rw [c2]
          · have a1 := up.ord 0 k (by omega) (by omega)
            have a2 := up.ord k (n - 1) (by omega) (by omega)
            unfold SS at a1 a2; omega
      have dz : Dn a₀.size f p n (n - 1) := ⟨by omega, fun i j i1 i2 i3 => by omega, fun k k1 k2 => hall k k2, fun i hi => by omega, fun k k1 k2 => hp k k2⟩
      have F1 := dz.fall (by omega)
      rw [show n - (n - 1 + 1) = 0 by omega] at F1
      refine wpS_bind (s_rev g (i' := 0) (j' := n) h0 (by omega) (by omega) fun st1 g1 => ?_)
      have e3 : mir 0 n f n < mir 0 n f (n - 1) := by
        have h1 : mir 0 n f n = f n := by unfold mir; rw [if_neg (by omega)]
        have h2 : mir 0 n f (n - 1) = f (n - 1) := by
          unfold mir; rw [if_pos (by omega)]
          exact hall _ (by omega)
        rw [h1, h2]; exact hlt
      refine wpS_bind (wpS_lift (wpAny_rule ⟨rfl, ?_⟩))
      refine s_desc g1 h0 hn (by omega) (F1.next (by omega) (by omega) e3) _ (fun x n q => rfl) _ fun m q st2 f2 p2 g2 m1 m2 d2 => ?_
      refine last m q st2 f2 p2 _ g2 m2 d2 fun st3 f3 p3 g3 F3 => ?_
      exact s_tail (m := 0) g3 h0 hn (by omega) m2 F3 _ (fun x n => rfl) _ (fun n => rfl) h
  · rw [if_neg gg]
    have en : n = 1 := by omega
    subst en
    have F1 : Fl a₀.size f p 1 := ⟨fun i j h1 h2 => by omega, up.low, up.rest⟩
    refine wpS_bind (wpS_lift (wpAny_rule ⟨rfl, ?_⟩))
    refine s_desc g h0 hn (by omega) (F1.next (by omega) (by omega) hlt) _ (fun x n q => rfl) _ fun m q st2 f2 p2 g2 m1 m2 d2 => ?_
    refine last m q st2 f2 p2 _ g2 m2 d2 fun st3 f3 p3 g3 F3 => ?_
    exact s_tail (m := 0) g3 h0 hn (by omega) m2 F3 _ (fun x n => rfl) _ (fun n => rfl) h
theorem Up.ins {N k l : Nat} (u : Up N f p k) (hk : k < N) (hl : l ≤ k) (a : ∀ i, i < l → f i ≤ f k) (b : ∀ i, l ≤ i → i < k → f k < f i) : Up N (mov l k f) (mov l k p) (k + 1) := by
  have pk := u.rest k (Nat.le_refl _) hk
  refine ⟨fun i j hij hj => ?_, fun i hi => ?_, fun m hm hm' => ?_⟩
  · unfold SS mov
    by_cases c1 : i = l
    · have c2 : ¬ j = l := by omega
      have c3 : l < j ∧ j ≤ k := by omega
      rw [if_pos c1, if_neg c2, if_pos c3]
      exact .inl (b (j - 1) (by omega) (by omega))
    · rw [if_neg c1, if_neg c1]
      by_cases c2 : j = l
      · have c3 : ¬ (l < i ∧ i ≤ k) := by omega
        rw [if_pos c2, if_neg c3, if_neg c3, if_pos c2]
        have h1 := a i (by omega)
        have h2 := u.low i (by omega)
        omega
      · rw [if_neg c2, if_neg c2]
        by_cases c3 : l < i ∧ i ≤ k
        · have c4 : l < j ∧ j ≤ k := by omega
          rw [if_pos c3, if_pos c3, if_pos c4, if_pos c4]
          exact u.ord (i - 1) (j - 1) (by omega) (by omega)
        · rw [if_neg c3, if_neg c3]
          by_cases c4 : l < j ∧ j ≤ k
          · rw [if_pos c4, if_pos c4]
            exact u.ord i (j - 1) (by omega) (by omega)
          · rw [if_neg c4, if_neg c4]
            exact u.ord i j hij (by omega)
  · unfold mov
    by_cases c1 : i = l
    · rw [if_pos c1]; omega
    · rw [if_neg c1]
      by_cases c3 : l < i ∧ i ≤ k
      · rw [if_pos c3]
        have := u.low (i - 1) (by omega); omega
      · rw [if_neg c3]
        have := u.low i (by omega); omega
  · unfold mov
    rw [if_neg (by omega), if_neg (by omega)]
    exact u.rest m (by omega) hm'
theorem s_ins {lo n ok : Nat} {Q : Bool → SortSt → Prop} (g : G pf a₀ st f p) (h0 : lo = 0) (hn : n ≤ a₀.size) (ho : ok ≤ n) (h1 : 1 ≤ ok) (up : Up a₀.size f p ok)
    (h : ∀ st' f' p', G pf a₀ st' f' p' → Up a₀.size f' p' n → Q true st') : wpS (model prog w) A E s (binarySort' lo n ok) Q st := by
  refine wpS_bind (wpS_mono (wpS_forRange (I := fun k c st' => c = (none, ()) ∧ k ≤ n ∧ ∃ f' p', G pf a₀ st' f' p' ∧ Up a₀.size f' p' k) (Q := fun c st' => c = (none, ()) ∧ ∃ f' p', G pf a₀ st' f' p' ∧ Up a₀.size f' p' n) ?step ?fin ⟨rfl, by omega, f, p, g, by rw [show max ok 1 = ok by omega]; exact up⟩) ?post)
  case post =>
    rintro c st' ⟨rfl, f', p', g', u⟩
    exact wpS_pure (h st' f' p' g' u)
  case fin =>
    rintro c st' ⟨hc, _, f', p', g', u⟩
    rw [show max (max ok 1) n = n by omega] at u
    exact ⟨hc, f', p', g', u⟩
  case step =>
    rintro k c st' hk1 hk2 ⟨rfl, _, f', p', g', u⟩
    refine wpS_bind (wpS_mono (wpS_forRange (I := fun x c st2 => st2 = st' ∧ ∃ l r, c = (none, l, r) ∧ l ≤ r ∧ r ≤ k ∧ r - l ≤ k - x ∧ (∀ i, i < l → f' i ≤ f' k) ∧ (∀ i, r ≤ i → i < k → f' k < f' i))
      (Q := fun c st2 => st2 = st' ∧ ∃ l r, c = (none, l, r) ∧ l ≤ k ∧ (∀ i, i < l → f' i ≤ f' k) ∧ (∀ i, l ≤ i → i < k → f' k < f' i)) ?s2 ?f2
      ⟨rfl, 0, k, rfl, by omega, by omega, by omega, fun i hi => by omega, fun i i1 i2 => by omega⟩) ?p2)
    case f2 =>
      rintro c st2 ⟨rfl, l, r, rfl, a1, a2, a3, a4, a5⟩
      have e : l = r := by omega
      subst e
      exact ⟨rfl, l, l, rfl, a2, a4, a5⟩
    case s2 =>
      rintro x c st2 _ hx ⟨rfl, l, r, rfl, a1, a2, a3, a4, a5⟩
      dsimp only
      by_cases gg : l ≥ r
      · rw [if_pos gg]
        have e : l = r := by omega
        subst e
        exact wpS_pure ⟨rfl, l, l, rfl, a2, a4, a5⟩
      · rw [if_neg gg]
        refine wpS_bind (s_lt g' (i' := k) (j' := (l + r) / 2) (by omega) (by omega) (by omega) (by omega) ?_)
        by_cases e : f' k < f' ((l + r) / 2)
        · rw [decide_eq_true e]
          show wpS _ _ _ _ (if true = true then _ else _) _ _
          rw [if_pos rfl]
          refine wpS_pure ⟨rfl, l, (l + r) / 2, rfl, by omega, by omega, by omega, a4, fun i i1 i2 => ?_⟩
          by_cases ci : i = (l + r) / 2
          · rw [ci]; exact e
          · have := u.ord ((l + r) / 2) i (by omega) i2
            unfold SS at this; omega
        · rw [decide_eq_false e]
          show wpS _ _ _ _ (if false = true then _ else _) _ _
          rw [if_neg (by decide)]
          refine wpS_pure ⟨rfl, (l + r) / 2 + 1, r, rfl, by omega, by omega, by omega, fun i i1 => ?_, a5⟩
          by_cases ci : i = (l + r) / 2
          · rw [ci]; omega
          · have := u.ord i ((l + r) / 2) (by omega) (by omega)
            unfold SS at this; omega
    case p2 =>
      rintro c st2 ⟨rfl, l, r, rfl, a1, a2, a3⟩
      show wpS _ _ _ _ (moveDown' (lo + k) (lo + l) >>= fun _ => pure (ForInStep.yield (none, ()))) _ _
      exact wpS_bind (s_mov g' (k' := k) (l' := l) (by omega) (by omega) (by omega) a1 fun st3 g3 => wpS_pure ⟨rfl, by omega, _, _, g3, u.ins (by omega) a1 a2 a3⟩)
theorem s_sort {Q : Unit → SortSt → Prop} (g : G pf a₀ st f p) (h2 : 2 ≤ a₀.size) (h64 : a₀.size < 64) (hp : ∀ k, k < a₀.size → p k = k)
    (h : ∀ st' f' p', (arrOf st').Perm a₀ → failedOf st' = none → IA pf (arrOf st') f' p' → (∀ i j, i < j → j < a₀.size → SS f' p' i j) → Q () st') : wpS (model prog w) A E s sortRuns' Q st := by
  have hz : (arrOf st).size = a₀.size := g.size
  refine wpS_bind (wpS_get ?_)
  refine wpS_bind (wpS_mono (wpS_forRange (I := fun x c st' => (c = ((none, 0) : Option Unit × Nat) ∧ x = 0 ∧ st' = st) ∨ (c = (none, a₀.size) ∧ (pendingOf st').size ≤ 1 ∧ failedOf st' = none ∧ (arrOf st').Perm a₀ ∧ ∃ f' p', IA pf (arrOf st') f' p' ∧ ∀ i j, i < j → j < a₀.size → SS f' p' i j))
    (Q := fun c st' => c = ((none, a₀.size) : Option Unit × Nat) ∧ (pendingOf st').size ≤ 1 ∧ failedOf st' = none ∧ (arrOf st').Perm a₀ ∧ ∃ f' p', IA pf (arrOf st') f' p' ∧ ∀ i j, i < j → j < a₀.size → SS f' p' i j) ?step ?fin (.inl ⟨rfl, rfl, rfl⟩)) ?post)
  case fin =>
    rintro c st' (⟨_, z, _⟩ | z)
    · have : max 0 (arrOf st).size = 0 := z
      omega
    · exact z
  case step =>
    rintro x c st1 _ hx (⟨rfl, rfl, rfl⟩ | ⟨rfl, z⟩)
    · show wpS _ _ _ _ (if 0 ≥ (arrOf st1).size then _ else _) _ _
      rw [if_neg (by omega)]
      have push : ∀ (n : Nat) (st3 : SortSt) (f3 : Nat → Int) (p3 : Nat → Nat), n = a₀.size → G pf a₀ st3 f3 p3 → Up a₀.size f3 p3 n → ((((none, 0 + n) : Option Unit × Nat) = (none, 0) ∧ 0 + 1 = 0 ∧ setPending st3 ((pendingOf st3).push (0, n, 0)) = st1) ∨ (((none, 0 + n) : Option Unit × Nat) = (none, a₀.size) ∧ (pendingOf (setPending st3 ((pendingOf st3).push (0, n, 0)))).size ≤ 1 ∧ failedOf (setPending st3 ((pendingOf st3).push (0, n, 0))) = none ∧ (arrOf (setPending st3 ((pendingOf st3).push (0, n, 0)))).Perm a₀ ∧ ∃ f' p', IA pf (arrOf (setPending st3 ((pendingOf st3).push (0, n, 0)))) f' p' ∧ ∀ i j, i < j → j < a₀.size → SS f' p' i j)) := by
        intro n st3 f3 p3 en g3 u3
        subst en
        refine .inr ⟨by rw [Nat.zero_add], ?_, g3.base.failed, g3.base.perm, f3, p3, g3.ia, u3.ord⟩
        show ((pendingOf st3).push (0, a₀.size, 0)).size ≤ 1
        rw [g3.base.pend]; simp
      refine wpS_bind (s_count g rfl (nrem := (arrOf st1).size - 0) (by omega) (by omega) hp fun m st2 f2 p2 g2 m1 m2 u2 => ?_)
      by_cases c1 : m < minRun' (arrOf st1).size (arrOf st1).size 0
      · refine (show wpS _ _ _ _ (if m < minRun' (arrOf st1).size (arrOf st1).size 0 then _ else _) _ _ from ?_)
        rw [if_pos c1]
        refine wpS_bind (wpS_lift (wpAny_rule ⟨rfl, ?_⟩))
        have em : min ((arrOf st1).size - 0) (minRun' (arrOf st1).size (arrOf st1).size 0) = a₀.size := by rw [min_run _ (by omega)]; omega
        refine wpS_bind (s_ins (n := min ((arrOf st1).size - 0) (minRun' (arrOf st1).size (arrOf st1).size 0)) g2 rfl (by omega) (by omega) m1 u2 fun st3 f3 p3 g3 u3 => ?_)
        show wpS _ _ _ _ (if false = true then _ else _) _ _
        rw [if_neg (by decide)]
        refine wpS_bind (wpS_get ?_)
        rcases hb : (pendingOf st3).back? with _ | ⟨s1, q1, t1⟩
        case some => rw [g3.base.pend] at hb; exact nomatch hb
        exact wpS_bind (wpS_modify (wpS_pure (push _ st3 f3 p3 em g3 u3)))
      · refine (show wpS _ _ _ _ (if m < minRun' (arrOf st1).size (arrOf st1).size 0 then _ else _) _ _ from ?_)
        rw [if_neg c1]
        rw [min_run _ (by omega)] at c1
        refine wpS_bind (wpS_get ?_)
        rcases hb : (pendingOf st2).back? with _ | ⟨s1, q1, t1⟩
        case some => rw [g2.base.pend] at hb; exact nomatch hb
        exact wpS_bind (wpS_modify (wpS_pure (push _ st2 f2 p2 (by omega) g2 u2)))
    · show wpS _ _ _ _ (if a₀.size ≥ (arrOf st).size then _ else _) _ _
      rw [if_pos (by omega)]
      exact wpS_pure ⟨rfl, z⟩
  case post =>
    rintro c st1 ⟨rfl, z1, z2, z3, f', p', z4, z5⟩
    refine wpS_bind (wpS_mono (wpS_forRange (I := fun x c st' => c = (none, ()) ∧ st' = st1) (Q := fun c st' => c = ((none, ()) : Option Unit × Unit) ∧ st' = st1) ?s3 ?f3 ⟨rfl, rfl⟩) ?p3)
    case f3 => exact fun c st' h => h
    case p3 =>
      rintro c st' ⟨rfl, rfl⟩
      exact wpS_pure (h st' f' p' z3 z2 z4 z5)
    case s3 =>
      rintro y c st2 _ hy ⟨rfl, rfl⟩
      refine wpS_bind (wpS_get ?_)
      show wpS _ _ _ _ (if (pendingOf st2).size ≤ 1 then _ else _) _ _
      rw [if_pos z1]
      exact wpS_pure ⟨rfl, rfl⟩
end
end Stab
set_option Elab.async false
set_option linter.all false
set_option maxRecDepth 100000
set_option maxHeartbeats 4000000
namespace SK
open PySem PyProof.Rows ST
def OutS (pf : Value → Nat) (kz : List Int) (vs out : List Value) : Prop := ∃ ps : List (Int × Value), ps.Perm (kz.zip vs) ∧ out = ps.map Prod.snd ∧ ps.Pairwise fun p q => p.1 < q.1 ∨ (p.1 = q.1 ∧ pf p.2 < pf q.2)
def iv : Value → Int
  | .int n _ => n
  | _ => 0
theorem ints_iv : ∀ {ks : List Value} {kz : List Int}, IntsAre ks kz → ks.map iv = kz
  | _, _, .nil => rfl
  | _, _, .cons n t h => by rw [List.map_cons, ints_iv h]; rfl
theorem ints_at : ∀ {ks : List Value} {kz : List Int}, IntsAre ks kz → ∀ i, i < ks.length → ∃ t, ks[i]? = some (.int (kz.getD i 0) t)
  | _, _, .nil, i, h => nomatch h
  | _, _, .cons n t h, 0, _ => ⟨t, rfl⟩
  | _, _, .cons n t h, i + 1, hi => by
    obtain ⟨t', e⟩ := ints_at h i (by simpa using hi)
    exact ⟨t', by rw [List.getElem?_cons_succ, e]; rfl⟩
theorem ia_of {pf : Value → Nat} {keys : Array Value} {vs : List Value} {kz : List Int} (hk : IntsAre keys.toList kz) (hlen : kz.length = vs.length) (hpf : ∀ (i : Nat) (v : Value), vs[i]? = some v → pf v = i) : Stab.IA pf (keys.zip vs.toArray) (fun i => kz.getD i 0) (fun i => i) := by
  refine ⟨fun i hi => ?_⟩
  have h1 : i < keys.size := by rw [Array.size_zip] at hi; omega
  have h2 : i < vs.length := by
    rw [Array.size_zip] at hi
    have h3 : vs.toArray.size = vs.length := List.size_toArray ..
    omega
  obtain ⟨t, e⟩ := ints_at hk i (by simpa using h1)
  have e2 : vs[i]? = some vs[i] := List.getElem?_eq_getElem h2
  refine ⟨t, vs[i], ?_, hpf i _ e2⟩
  rw [← Array.getElem?_toList, Array.toList_zip, List.getElem?_zip_eq_some]
  exact ⟨e, by simpa using e2⟩
theorem outS_of {pf : Value → Nat} {keys : Array Value} {vs : List Value} {kz : List Int} {xs : Array Keyed} {f : Nat → Int} {p : Nat → Nat} (hk : IntsAre keys.toList kz) (hpf : ∀ (i : Nat) (v : Value), vs[i]? = some v → pf v = i) (hp : xs.Perm (keys.zip vs.toArray)) (ia : Stab.IA pf xs f p) (ss : ∀ i j, i < j → j < xs.size → Stab.SS f p i j) : OutS pf kz vs (xs.map (·.2)).toList := by
  refine ⟨xs.toList.map fun q => (iv q.1, q.2), ?_, ?_, ?_⟩
  · have h1 := (Array.perm_iff_toList_perm.mp hp).map fun q : Keyed => (iv q.1, q.2)
    refine h1.trans (List.Perm.of_eq ?_)
    rw [Array.toList_zip, ← ints_iv hk]
    generalize keys.toList = l1
    show (l1.zip vs).map _ = (l1.map iv).zip vs
    rw [List.zip_map_left]; rfl
  · rw [Array.toList_map, List.map_map]; rfl
  · rw [List.pairwise_map, List.pairwise_iff_getElem]
    intro i j hi hj hij
    have hi' : i < xs.size := by simpa using hi
    have hj' : j < xs.size := by simpa using hj
    obtain ⟨t, v, e1, e2⟩ := ia.at_ i hi'
    obtain ⟨u, v', e3, e4⟩ := ia.at_ j hj'
    have := ss i j hij hj'
    unfold Stab.SS at this
    have g1 : xs.toList[i] = (.int (f i) t, v) := by
      rw [← Array.getElem?_toList, List.getElem?_eq_getElem hi] at e1
      exact Option.some.inj e1
    have g2 : xs.toList[j] = (.int (f j) u, v') := by
      rw [← Array.getElem?_toList, List.getElem?_eq_getElem hj] at e3
      exact Option.some.inj e3
    rw [g1, g2]
    show f i < f j ∨ (f i = f j ∧ pf v < pf v')
    rw [e2, e4]; exact this
section
variable {prog : Program} {w : World} {A : Around} {E : Value → Shared → Prop} {s : Shared} {a kS : Addr} {vs : List Value} {kz : List Int} {keys : Array Value} {e e1 : Nat} {P : PySem.Fin → Shared → Prop} {pf : Value → Nat}
theorem k_tail {st : SortSt} (nk : s.heap.get? kS = some (seqObj "list" keys e)) (na : s.heap.get? a = some (seqObj "list" #[] e1)) (hka : kS ≠ a)
    (hk : IntsAre keys.toList kz) (hlen : kz.length = vs.length) (h64 : vs.length < 64) (hp : (arrOf st).Perm (keys.zip vs.toArray)) (ko : OutS pf kz vs ((arrOf st).map (·.2)).toList) (hfl : failedOf st = none)
    (h : ∀ h' tk out c, (∀ b o, b ≠ kS → b ≠ a → s.heap.get? b = some o → h'.get? b = some o) → h'.get? a = some (seqObj "list" out c) → OutS pf kz vs out.toList → P (.done (.ret .none)) { s with heap := h', toks := tk }) :
    wpAny (model prog w) A (ksk_tail a false e1 (.ref kS) st) P E s := by
  have hsz : keys.size = vs.length := by
    have h1 := hk.length
    rw [Array.length_toList] at h1
    omega
  have hsz2 : (arrOf st).size = vs.length := by rw [hp.size_eq, Array.size_zip, hsz, List.size_toArray, Nat.min_self]
  have hout : ((arrOf st).map (·.2)).size = vs.length := by rw [Array.size_map]; exact hsz2
  unfold ksk_tail
  simp only [Bool.false_eq_true, if_false]
  generalize (arrOf st).map (·.2) = out at hout ko
  have s1 := Heap.SameBut.update s.heap kS (Obj.mapSeq fun _ => (#[] : Array Value))
  have na1 : (s.heap.update kS (Obj.mapSeq fun _ => (#[] : Array Value))).get? a = some (seqObj "list" #[] e1) := (s1.2 a hka.symm).trans na
  have s2 := Heap.SameBut.update (s.heap.update kS (Obj.mapSeq fun _ => (#[] : Array Value))) a (Obj.mapSeq fun _ => out)
  have hc2 := get?_update_seq na1 fun _ => out
  refine wpAny_bind (listUpdate_at nk rfl ?_ (by rw [hsz, sizeLine_eq]; omega) (Nat.zero_le _))
  refine wpAny_bind (wpAny_letGo ?_)
  refine wpAny_bind (seqEpoch_at na1 rfl ?_)
  refine wpAny_bind (listUpdate_at na1 rfl ?_ (Nat.zero_le _) (Nat.le_trans (Nat.le_of_eq hout) (by rw [sizeLine_eq]; omega)))
  rw [hfl]
  simp only [bne_self_eq_false, Bool.false_eq_true, if_false]
  exact wpAny_pure (h _ _ out _ (fun b o n1 n2 q => (s2.2 b n2).trans ((s1.2 b n1).trans q)) hc2 ko)
theorem k_end (hpf : ∀ (i : Nat) (v : Value), vs[i]? = some v → pf v = i) (nk : s.heap.get? kS = some (seqObj "list" keys e)) (na : s.heap.get? a = some (seqObj "list" #[] e1)) (hka : kS ≠ a)
    (hk : IntsAre keys.toList kz) (hlen : kz.length = vs.length) (h64 : vs.length < 64)
    (h : ∀ h' tk out c, (∀ b o, b ≠ kS → b ≠ a → s.heap.get? b = some o → h'.get? b = some o) → h'.get? a = some (seqObj "list" out c) → OutS pf kz vs out.toList → P (.done (.ret .none)) { s with heap := h', toks := tk }) :
    wpAny (model prog w) A (ksk_end a false vs.toArray e1 (.ref kS) keys) P E s := by
  have hsz : keys.size = vs.length := by
    have h1 := hk.length
    rw [Array.length_toList] at h1
    omega
  have hzs : (keys.zip vs.toArray).size = vs.length := by rw [Array.size_zip, hsz, List.size_toArray, Nat.min_self]
  unfold ksk_end
  simp only [Bool.false_eq_true, if_false]
  by_cases h2 : vs.toArray.size < 2
  · rw [if_pos h2, if_pos h2]
    refine wpAny_bind (wpAny_pure ?_)
    rw [StateT.run_pure]
    refine wpAny_bind (wpAny_pure ?_)
    try dsimp only
    refine k_tail (st := SortSt.mk' general' (keys.zip vs.toArray) #[] 7 none) nk na hka hk hlen h64 (Array.Perm.refl _) ?_ rfl h
    exact outS_of hk hpf (Array.Perm.refl _) (f := fun i => kz.getD i 0) (p := fun i => i) (ia_of hk hlen hpf) fun i j hij hj => by
      have hj2 : j < (keys.zip vs.toArray).size := hj
      rw [hzs] at hj2
      rw [List.size_toArray] at h2
      omega
  · rw [if_neg h2, if_neg h2]
    rw [List.size_toArray] at h2
    rw [ksk_kind hk (by rw [hsz]; omega)]
    refine wpAny_bind (wpAny_pure ?_)
    refine wpAny_bind (wpAny_mono (Stab.s_sort (a₀ := keys.zip vs.toArray) (st := SortSt.mk' oneType' (keys.zip vs.toArray) #[] 7 none) (f := fun i => kz.getD i 0) (p := fun i => i) (pf := pf)
      (Q := fun _ st' => (arrOf st').Perm (keys.zip vs.toArray) ∧ failedOf st' = none ∧ OutS pf kz vs ((arrOf st').map (·.2)).toList)
      ⟨⟨Array.Perm.refl _, rfl, rfl, rfl⟩, ia_of hk hlen hpf⟩ (by rw [hzs]; omega) (by rw [hzs]; exact h64) (fun k _ => rfl) fun st' f' p' a1 a2 a3 a4 => ⟨a1, a2, outS_of hk hpf a1 a3 (by rw [a1.size_eq]; exact a4)⟩) ?_ fun _ _ e => e)
    rintro ⟨⟨⟩, st'⟩ s' ⟨rfl, hp, hf, hs⟩
    try dsimp only
    exact k_tail nk na hka hk hlen h64 hp hs hf h
theorem k_rest {f : Value} (hpf : ∀ (i : Nat) (v : Value), vs[i]? = some v → pf v = i) (J : Shared → Prop) (hJ : J s) (nk : s.heap.get? kS = some (seqObj "list" #[] 0)) (na : s.heap.get? a = some (seqObj "list" #[] e1)) (hka : kS ≠ a) (hlen : kz.length = vs.length) (h64 : vs.length < 64)
    (turn : ∀ (i : Nat) (v : Value) (k : Int), vs[i]? = some v → kz[i]? = some k → ∀ s', J s' →
      wpAny (model prog w) A (call f [v]) (fun r s2 => (∃ t, r = .int k t) ∧ J s2 ∧ ∀ b, b = kS ∨ b = a → ∀ o, s'.heap.get? b = some o → s2.heap.get? b = some o) (fun _ _ => False) s')
    (put : ∀ s' h', J s' → (∀ b o, b ≠ kS → s'.heap.get? b = some o → h'.get? b = some o) → J { s' with heap := h' })
    (h : ∀ s' h' tk out c, J s' → (∀ b o, b ≠ kS → b ≠ a → s'.heap.get? b = some o → h'.get? b = some o) → h'.get? a = some (seqObj "list" out c) → OutS pf kz vs out.toList → P (.done (.ret .none)) { s' with heap := h', toks := tk }) :
    wpAny (model prog w) A (ksk_rest a f false vs.toArray e1 (.ref kS)) P E s := by
  unfold ksk_rest
  refine wpAny_bind (wpAny_rule ?_)
  first
    | rw [List.forIn_toArray]
    | (rw [← Array.forIn_toList]; simp only [List.toList_toArray])
    | rw [← Array.forIn_toList]
  refine wpAny_bind (ksk_fold (fun i s' => J s' ∧ ∃ kA e, s'.heap.get? kS = some (seqObj "list" kA e) ∧ s'.heap.get? a = some (seqObj "list" #[] e1) ∧ IntsAre kA.toList (kz.take i)) vs 0 s
    ⟨hJ, #[], 0, nk, na, by simpa using IntsAre.nil⟩ ?step ?done)
  case step =>
    rintro j x s' hx ⟨hJ', kA, e, nk', na', hk⟩
    simp only [Nat.zero_add] at hk ⊢
    have hj : j < vs.length := (List.getElem?_eq_some_iff.mp hx).1
    obtain ⟨k, hkj⟩ : ∃ k, kz[j]? = some k := ⟨_, List.getElem?_eq_getElem (by omega)⟩
    have hz : kA.size ≤ vs.length := by
      have h1 := hk.length
      rw [Array.length_toList, List.length_take] at h1
      omega
    refine wpAny_bind (wpAny_attempt (wpAny_mono (turn j x k hx hkj s' hJ') (fun v s'' he => ?_) fun _ _ hF => hF.elim))
    obtain ⟨⟨t2, rfl⟩, J2, kp⟩ := he
    try dsimp only
    have nk2 := kp kS (.inl rfl) _ nk'
    have na2 := kp a (.inr rfl) _ na'
    have s1 := Heap.SameBut.update s''.heap kS (Obj.mapSeq (·.push (.int k t2)))
    obtain ⟨c2, hc2⟩ : ∃ c2, (s''.heap.update kS (Obj.mapSeq (·.push (.int k t2)))).get? kS = some (seqObj "list" (kA.push (.int k t2)) c2) := ⟨_, get?_update_seq nk2 (·.push (.int k t2))⟩
    have ek : kz.take (j + 1) = kz.take j ++ [k] := by rw [List.take_add_one, hkj]; simp
    have ea : (kA.push (Value.int k t2)).toList = kA.toList ++ [Value.int k t2] := by simp
    refine wpAny_bind (listUpdate_at nk2 rfl ?_ (by rw [sizeLine_eq]; omega) (Nat.le_trans (Nat.le_of_eq (Array.size_push ..)) (by rw [sizeLine_eq]; omega)))
    exact wpAny_pure ⟨rfl, put s'' _ J2 (fun b o n q => (s1.2 b n).trans q), kA.push (.int k t2), c2, hc2, (s1.2 a hka.symm).trans na2, by rw [ea, ek]; exact ksk_snoc hk⟩
  case done =>
    rintro s' ⟨hJ', kA, e, nk', na', hk⟩
    have hk' : IntsAre kA.toList kz := by
      have e3 : kz.take (0 + vs.length) = kz := List.take_of_length_le (by omega)
      rw [e3] at hk
      exact hk
    try dsimp only
    refine wpAny_bind (listItems_at nk' rfl ?_)
    exact k_end hpf nk' na' hka hk' hlen h64 fun h3 tk3 out c k3 g3 o3 => h s' h3 tk3 out c hJ' k3 g3 o3
theorem w_sortedK {f : Addr} {v : Value} {Q : Value → Shared → Prop} {Jc : List Value → Shared → Prop} (hc : wpAny (model prog w) A.in1 (collect v) Jc E s)
    (hJ : ∀ vs s1, Jc vs s1 → vs.length < 64 ∧ ∃ (kz : List Int) (pf : Value → Nat) (J : Shared → Prop), (∀ (i : Nat) (v : Value), vs[i]? = some v → pf v = i) ∧ kz.length = vs.length ∧
      (∀ h', (∀ b o, s1.heap.get? b = some o → h'.get? b = some o) → J { s1 with heap := h' }) ∧
      (∀ (i : Nat) (v : Value) (k : Int), vs[i]? = some v → kz[i]? = some k → ∀ s', J s' → wpAny (model prog w) A.in1.in1 (call (.ref f) [v]) (fun r s2 => (∃ t, r = .int k t) ∧ J s2 ∧ ∀ b, b = s1.heap.objs.size + 2 ∨ b = s1.heap.objs.size → ∀ o, s'.heap.get? b = some o → s2.heap.get? b = some o) (fun _ _ => False) s') ∧
      (∀ s' h', J s' → (∀ b o, b ≠ s1.heap.objs.size + 2 → s'.heap.get? b = some o → h'.get? b = some o) → J { s' with heap := h' }) ∧
      ∀ s' h' tk out c, J s' → (∀ b o, b ≠ s1.heap.objs.size + 2 → b ≠ s1.heap.objs.size → s'.heap.get? b = some o → h'.get? b = some o) → h'.get? s1.heap.objs.size = some (seqObj "list" out c) → OutS pf kz vs out.toList → Q (.ref s1.heap.objs.size) { s' with heap := h', toks := tk }) :
    wpAny (model prog w) A (call (.builtin "sorted") [v] [(Str.ofString "key", .ref f)]) Q E s := by
  refine call_function_entry_kw kind_sorted plain_sorted entry_sorted (ksk_s1 _ _) ?_
  unfold Builtin.«sorted»
  refine wpAny_bind (m := checkCount "sorted" 1 1 _) (wpAny_pure ?_)
  refine wpAny_bind (wpAny_mono hc (fun vs s1 j => ?_) fun _ _ x => x)
  obtain ⟨j1, kz, pf, J, jp, j2, j3, j4, j5, j6⟩ := hJ vs s1 j
  refine wpAny_bind (wpAny_newList ?_ (by rw [sizeLine_eq]; omega))
  have hD : (s1.heap.push (seqObj "list" vs.toArray 0)).get? s1.heap.objs.size = some (seqObj "list" vs.toArray 0) := Heap.get?_push_size _ rfl
  change wpAny _ _ _ _ _ { s1 with heap := s1.heap.push (seqObj "list" vs.toArray 0) }
  have ne : ∀ b o, s1.heap.get? b = some o → b ≠ s1.heap.objs.size := fun b o q => Nat.ne_of_lt (Heap.lt_size q)
  refine wpAny_bind (wpAny_holding (wpAny_call_entry_kw slot_list_sort ⟨_, hD, rfl⟩ entry_list_sort ?body (ksk_l1 _ _)))
  case body =>
    rw [ksk_t1]
    have ha : s1.heap.objs.size < (s1.heap.push (seqObj "list" vs.toArray 0)).objs.size := Heap.lt_size hD
    have s2 := Heap.SameBut.update (s1.heap.push (seqObj "list" vs.toArray 0)) s1.heap.objs.size (Obj.mapSeq fun _ => (#[] : Array Value))
    obtain ⟨e1, ho1⟩ : ∃ e1, ((s1.heap.push (seqObj "list" vs.toArray 0)).update s1.heap.objs.size (Obj.mapSeq fun _ => (#[] : Array Value))).get? s1.heap.objs.size = some (seqObj "list" #[] e1) := ⟨_, get?_update_seq hD fun _ => #[]⟩
    have hkS : (((s1.heap.push (seqObj "list" vs.toArray 0)).update s1.heap.objs.size (Obj.mapSeq fun _ => (#[] : Array Value))).push (seqObj "tuple" vs.toArray 0)).objs.size = s1.heap.objs.size + 2 := by rw [size_push', Heap.size_update, size_push']
    unfold ksk_tree
    refine wpAny_bind (listItems_at hD rfl ?_)
    refine wpAny_bind (listUpdate_at hD rfl ?_ (by rw [List.size_toArray, sizeLine_eq]; omega) (Nat.zero_le _))
    refine wpAny_bind (seqEpoch_at ho1 rfl ?_)
    refine wpAny_bind (wpAny_newTuple ?_ (by show vs.length ≤ _; rw [sizeLine_eq]; omega))
    refine wpAny_bind (wpAny_newList ?_ (Nat.zero_le _))
    refine wpAny_holding ?_
    rw [hkS]
    refine k_rest (kS := s1.heap.objs.size + 2) (a := s1.heap.objs.size) (s := { s1 with heap := (((s1.heap.push (seqObj "list" vs.toArray 0)).update s1.heap.objs.size (Obj.mapSeq fun _ => (#[] : Array Value))).push (seqObj "tuple" vs.toArray 0)).push (seqObj "list" #[] 0) }) jp J (j3 _ fun b o q => ?_) (by rw [← hkS]; exact Heap.get?_push_size _ rfl) (Heap.get?_push_of_some _ (Heap.get?_push_of_some _ ho1)) (Nat.ne_of_gt (Nat.lt_succ_of_lt (Nat.lt_succ_self _))) j2 j1 j4 j5 fun s' h' tk out c jj kk gg oo => ?_
    · exact Heap.get?_push_of_some _ (Heap.get?_push_of_some _ ((s2.2 b (ne b o q)).trans (Heap.get?_push_of_some _ q)))
    · exact ⟨_, rfl, wpAny_pure ⟨_, rfl, j6 s' h' tk out c jj kk gg oo⟩⟩
end
end SK
set_option Elab.async false
set_option linter.all false
set_option maxRecDepth 100000
set_option maxHeartbeats 4000000
namespace L2
open PySem PySem.Spec PyProof.Rows
def posOf : List Str → Str → Nat
  | [], _ => 0
  | y :: l, x => if y = x then 0 else posOf l x + 1
theorem posOf_at : ∀ {ks : List Str}, ks.Nodup → ∀ {i : Nat} {x : Str}, ks[i]? = some x → posOf ks x = i
  | y :: l, nd, 0, x, e => by
    have e : y = x := by simpa using e
    show (if y = x then 0 else _) = 0
    rw [if_pos e]
  | y :: l, nd, i + 1, x, e => by
    obtain ⟨n1, n2⟩ := List.nodup_cons.mp nd
    have e : l[i]? = some x := by simpa using e
    show (if y = x then 0 else posOf l x + 1) = i + 1
    rw [if_neg (fun z => n1 (by rw [z]; exact List.mem_of_getElem? e)), posOf_at n2 e]
def sOrd (ks : List Str) (g : Str → Int) (x y : Str) : Prop := g x < g y ∨ (g x = g y ∧ posOf ks x < posOf ks y)
section
variable {X : Cx} {pins : List (Addr × Obj)} {σ : St} {H : Hp} {s : Shared}
def tSortS (ta : TA) (iy : Nat) (P : Addr) (qual : Str) (lp : Pos) (te : TE) : TE := fun σ H Q => ta σ H fun xs H1 => ∃ (a : Addr) (kvs : List (Key × V)) (ks : List Str) (g : Str → Int) (vy : V), xs = [.ref a] ∧ σ[iy]? = some (some vy) ∧ H1 a = some (.dK kvs) ∧ kvs.map (·.1) = ks.map Sum.inr ∧ ks.length < 64 ∧ ks.Nodup ∧ Tab0 H1 P qual lp ∧
  ∀ H2, Kp [P] H1 H2 → Tab1 H2 P qual lp → (∀ x ∈ ks, te [some (.str x), some vy] H2 fun r H3 => r = .int (g x) ∧ H3 = H2) ∧ ∀ (b : Addr) (zs : List Str), H2 b = none → zs.Perm ks → zs.Pairwise (sOrd ks g) → Q (.ref b) (upd H2 b (.lst (zs.map V.str)))
theorem pe_sortedS {e : Expr} {ta : TA} {p pos kp lp : Pos} {params : Arguments} {body : Expr} {scope : Scope} {x y qual : Str} {c c0 P : Addr} {iy : Nat} {te : TE} {k : Nat} (hr : Room (k + 2) X.A) (hc' : X.calm = true) (hg : Gl X "sorted") (hm : X.mg "sorted" = none) (hb : bootBuiltins "sorted" = some (.builtin "sorted")) (ha : PA X [e] ta)
    (S : LamScope x y scope) (ne : x ≠ y) (hN : X.N[iy]? = some y) (hk : X.env.kindOf y = some .cell) (hy : X.env.cells.lookup y = some c) (hcl : closureFor scope X.env = pure [(y, c)]) (hq : X.env.qual ++ "<lambda>" = qual) (hcode : X.env.code = .ref c0) (C : PySem.W.CodeHd X.base c0 P) (B : BltAt X.mg X.base)
    (hdef : defaultsOf params X.env = ([], [])) (hbind : ∀ (pm : Value) (c' : Addr) (ctv u : Value), bindArgs (PySem.W.kla_fn "<lambda>" qual params body scope [(y, c)] pm (.ref c') ctv) ⟨[u], []⟩ = pure [(x, u)])
    (ht : ∀ (f : Addr) (cd : Value) (A : Around) (s : Shared) (H : Hp), A.units + 3 ≤ X.A.units + 6 → PE (cxLam X [x, y] qual scope f cd [(y, c)] A s H) body te) (hs : starEach [e] X.env = [(false, eval e X.env)] := by rfl) :
    PE X (.Call (.Name "sorted" p) [e] [⟨some (Str.ofString "key"), .Lambda params body scope lp, kp⟩] pos) (tSortS ta iy P qual lp te) := by
  intro pins s σ H Q I h
  refine wpAny_Call_Name_kw (ld_blt I hg hm hb ?_)
  refine callWith_builtin_kwB (by rw [hs]; rfl) rfl ?_
  have ha' := ha pos pins s σ H _ I h
  have e0 : backTo pos (starEach [e] X.env) = (false, eval e X.env) :: [] := by rw [hs]; rfl
  rw [e0] at ha' ⊢
  refine evalArgs_kwB rfl (thn ha' fun us s1 ⟨vs, H1, I1, r1, q1⟩ => ?_)
  obtain ⟨a, kvs, ks, g, vy, e1, hσ, ea, ek, hl64, knd, T, q⟩ := q1
  subst e1
  obtain ⟨u, rfl, ru⟩ := r1.one
  cases ru
  show wpAny _ _ (evalAll ((do let v ← eval (.Lambda params body scope lp) X.env; standAt pos; pure v) :: [])) _ _ s1
  refine wpAny_evalAll_cons (wpAny_bind (PySem.W.kla_eval hdef ?_))
  rw [hq]
  refine lam_make I1 hcl hcode C B T fun f c' ctv pm H2 s2 I2 k2 T2 ec fo ff => ?_
  refine wpAny_bind (wpAny_standAt (wpAny_pure (wpAny_evalAll_nil ?_)))
  obtain ⟨qb, qr⟩ := q H2 k2 T2
  have naP : a ≠ P := fun z => by
    rcases T with t | ⟨_, t, _⟩
    · rw [z, t] at ea; cases ea
    · rw [z, t] at ea; cases ea
  have ea2 : H2 a = some (.dK kvs) := k2 a _ ea (by simp [naP])
  obtain ⟨z, hd, vs, rel, dd⟩ := dk_of I2.hok ea2
  obtain ⟨o, es, ep', y1, y2, y3, y4, y5, y6⟩ := id dd
  have len := rel.length
  have kl : ks.length = kvs.length := by have := congrArg List.length ek; simpa using this.symm
  have K0 := PySem.W.kdl_dict (prog := X.prog) (w := X.w) (knd := mixKind X.prog X.w) (d := a) (kvs := vs) (ep := ep') hd
  have hok : s2.heap.DictAt (mixKind X.prog X.w) a vs ep' := ⟨o, es, y1, y2, y3, y4, y5, y6⟩
  refine SK.w_sortedK
    (Jc := fun its s1 => StrsAre its ks ∧ ∃ h1 tk, s1 = { s2 with heap := h1, toks := tk } ∧ ∀ b o, s2.heap.get? b = some o → h1.get? b = some o)
    (PySem.W.kdu_collect (A := X.A.in1) K0 (I2.ok.hd hc') hok (by rw [sizeLine_eq]; omega) fun h' tk acc hk hacc => ⟨?_, h', tk, rfl, hk⟩) fun its s3 ⟨hS, h1, tk, v2, v3⟩ => ?_
  · refine strs_of _ ks (by rw [Array.length_toList, hacc.1]; omega) fun j v e => ?_
    obtain ⟨k, x, e1, e2⟩ := hacc.2 j v (by simpa using e)
    have jl : j < kvs.length := by rw [len]; exact (List.getElem?_eq_some_iff.mp e1).1
    obtain ⟨u, e3, _⟩ := kv_at rel (List.getElem?_eq_getElem jl)
    rw [e1] at e3
    have e3 : k = kvs[j].1 := by cases e3; rfl
    have e4 : (kvs.map (·.1))[j]? = (ks.map Sum.inr)[j]? := by rw [ek]
    rw [List.getElem?_map, List.getElem?_map, List.getElem?_eq_getElem jl, List.getElem?_eq_getElem (by omega)] at e4
    have e4 : kvs[j].1 = Sum.inr ks[j] := by simpa using e4
    rw [e3, e4] at e2
    obtain ⟨t, rfl⟩ : RelV (V.str ks[j]) v := rel_key e2
    exact ⟨ks[j], t, List.getElem?_eq_getElem (by omega), rfl⟩
  · subst v2
    have hln : its.length = ks.length := ST.strs_len hS
    have hposs : ∀ (i : Nat) (v : Value), its[i]? = some v → posOf ks (strOf v) = i := fun i v hv => by
      refine posOf_at knd ?_
      have h2 : (its.map strOf)[i]? = some (strOf v) := by rw [List.getElem?_map, hv]; rfl
      rw [hS.strs] at h2
      exact h2
    have I3 : Inv X pins σ H2 { s2 with heap := h1, toks := tk } := I2.kept v3
    have fo3 : h1.get? f = some _ := v3 _ _ fo
    have flt : f < h1.objs.size := Heap.lt_size fo3
    have fa : FpOk X pins H2 h1.objs.size := I3.fpOk (Nat.le_refl _) (I3.hok.fresh (Nat.le_refl _))
    have fk : FpOk X pins H2 (h1.objs.size + 2) := I3.fpOk (Nat.le_add_right _ _) (I3.hok.fresh (Nat.le_add_right _ _))
    refine ⟨by omega, ks.map g, fun v => posOf ks (strOf v), fun s' => Inv X pins σ H2 s' ∧ s'.heap.get? f = some (PySem.W.kla_obj "<lambda>" qual params body scope [(y, c)] pm c' ctv), hposs, by rw [List.length_map, hln], fun h' up => ⟨I3.kept (t' := tk) up, up _ _ fo3⟩, ?_, ?_, ?_⟩
    · rintro i v kx hv hkx s' ⟨I4, fo4⟩
      rw [List.getElem?_map] at hkx
      obtain ⟨x', ex', rfl⟩ := Option.map_eq_some_iff.mp hkx
      obtain ⟨t, rfl⟩ : ∃ t, v = .str x' t := by
        have h1 := hS.all v (List.mem_of_getElem? hv)
        obtain ⟨x2, t, rfl⟩ := h1
        have h2 : (its.map strOf)[i]? = some x2 := by rw [List.getElem?_map, hv]; rfl
        rw [hS.strs, ex'] at h2
        cases h2
        exact ⟨t, rfl⟩
      obtain ⟨uy, ry, iy'⟩ := I4.cellAt hN hσ hk hy
      have hr2 : Room k X.A.in1.in1 := Room.in1 (Room.in1 hr)
      refine wpAny_mono (lam_call (A := X.A.in1.in1) (vx := .str x') I4 I4.ok.frames hr2.hd hr2.depth fo4 (codeO_rec I4 ec) S ne (hbind _ _ _ _) hy iy' ry ⟨t, rfl⟩ (ht _ _ _ _ _ ?_) (qb x' (List.mem_of_getElem? ex'))) (fun r s5 hE => ?_) fun _ _ hF => hF
      · show X.A.in1.in1.units + 3 ≤ X.A.units + 6
        show X.A.units + 1 + 1 + 3 ≤ X.A.units + 6
        omega
      · obtain ⟨v, H5, os, bare, un, hok5, rv, qv, qh⟩ := hE
        subst qv qh
        obtain ⟨t', rfl⟩ := rv
        refine ⟨⟨t', rfl⟩, ⟨I4.call' os un hok5 bare (fun b z => nomatch z), un.keep _ _ fo4 ff.1 (ff.nstk I4) (by simp)⟩, fun b hb o qo => ?_⟩
        rcases hb with rfl | rfl
        · exact un.keep _ _ qo fk.1 (fk.nstk I4) (by simp)
        · exact un.keep _ _ qo fa.1 (fa.nstk I4) (by simp)
    · rintro s' h' ⟨I4, fo4⟩ kk
      refine ⟨I4.turned (t' := s'.toks) kk fk.1 fk.2.1 fk.2.2.2.1 fk.2.2.2.2.1 fk.2.2.2.2.2, kk _ _ (Nat.ne_of_lt (Nat.lt_of_lt_of_le flt (Nat.le_add_right _ _))) fo4⟩
    · rintro s' h' tk' out c2 ⟨I4, fo4⟩ kk gg ⟨ps, pp, po, pw⟩
      have hp' : ∀ p ∈ ps, ∃ x t, x ∈ ks ∧ p = (g x, .str x t) := fun p hp => zip_strs hS p (pp.mem_iff.mp hp)
      have hall : ∀ v ∈ out.toList, ∃ x t, v = .str x t := fun v hv => by
        rw [po] at hv
        obtain ⟨p, hp, rfl⟩ := List.mem_map.mp hv
        obtain ⟨x, t, _, e⟩ := hp' p hp
        exact ⟨x, t, by rw [e]⟩
      have hO := strsAre_map out.toList hall
      have hpz : (out.toList.map strOf).Perm ks := by
        have h1 : (ps.map Prod.snd).Perm its := by
          have := pp.map Prod.snd
          rwa [List.map_snd_zip (by rw [List.length_map, hln]; exact Nat.le_refl _)] at this
        rw [po]
        have := h1.map strOf
        rwa [hS.strs] at this
      have hsr : (out.toList.map strOf).Pairwise (sOrd ks g) := by
        rw [po, List.map_map, List.pairwise_map]
        refine pw.imp_of_mem fun {p q} hp hq z => ?_
        obtain ⟨x, t, _, e⟩ := hp' p hp
        obtain ⟨x', t', _, e'⟩ := hp' q hq
        subst e e'
        exact z
      have hz : ((out.toList.map strOf).map V.str).length ≤ sizeLine := by rw [List.length_map, hpz.length_eq, sizeLine_eq]; omega
      have un : Un (frs X.stack) [h1.objs.size + 2, h1.objs.size] H2 H2 s'.heap h' := by
        have k' : ∀ b o, b ∉ ([h1.objs.size + 2, h1.objs.size] : List Addr) → s'.heap.get? b = some o → h'.get? b = some o := fun b o n q => kk b o (fun z => n (by simp [z])) (fun z => n (by simp [z])) q
        exact ⟨fun b o q n _ x => k' b o x q, fun b o q n _ x => ⟨o.slots, k' b o x q⟩, fun b o q n _ => n, fun b o q x => ⟨o, k' b o x q⟩, fun _ _ q => q, fun _ _ _ q => q, fun b ps q => ⟨#[], by rw [q]; simp⟩⟩
      have hok2 : HOk X.prog X.w H2 h' := fun b o q => by
        refine (I4.hok b o q).stay (fun d v hd y => ?_) (fun _ y => y) fun _ _ y => y
        have nn : H2 d ≠ none := by
          rcases hd with rfl | hd
          · rw [q]; simp
          · rw [hd]; simp
        exact kk d v (fun z => nn (by rw [z]; exact fk.1)) (fun z => nn (by rw [z]; exact fa.1)) y
      have I5 : Inv X pins σ H2 { s' with heap := h', toks := tk' } := I4.call' rfl un hok2 I4.bare fun b hb => by
        have : b = h1.objs.size + 2 ∨ b = h1.objs.size := by simpa using hb
        rcases this with rfl | rfl
        · exact ⟨fk.2.2.2.1, fk.2.1, fk.2.2.2.2.1, fk.2.2.2.2.2⟩
        · exact ⟨fa.2.2.2.1, fa.2.1, fa.2.2.2.2.1, fa.2.2.2.2.2⟩
      have new : ObjOk X.prog X.w (upd H2 h1.objs.size (.lst ((out.toList.map strOf).map V.str))) h' h1.objs.size (.lst ((out.toList.map strOf).map V.str)) := ⟨hz, out.toList, c2, strs_vals hO, by simpa using gg⟩
      exact ⟨.ref h1.objs.size, _, I5.adopt fa new, rfl, qr _ _ fa.1 hpz hsr⟩
end
end L2
set_option Elab.async false
set_option linter.all false
set_option maxRecDepth 100000
set_option maxHeartbeats 4000000
namespace RV
open PySem
section
variable {P : Program} {w : World} {A : Around} {E : Value → Shared → Prop} {s : Shared}
end
end RV
namespace L2
open PySem PySem.Spec PyProof.Rows
def Itv (a : Addr) (o : Obj) (kvs : List (Key × V)) : It :=
  ⟨fun i H => H a = some (.frz o (.dK kvs)) ∧ i < kvs.length, fun i H v H' => H' = H ∧ ∃ k, kvs[i]? = some (k, v), fun i H => H a = some (.frz o (.dK kvs)) ∧ kvs.length ≤ i⟩
theorem turn_vals {P : Program} {w : World} {K : PySem.W.Frag} {tg : Expr} (a it : Addr) (o : Obj) (es : Array DictEntry) (ep : Nat) (kvs : List (Key × V)) (hd : o.data = .dict es ep) : Turn P w K tg (Itv a o kvs) [it] it (fun i h => h.IsValIter it a i kvs.length ep) where
  mem := by simp
  obj := fun i h ⟨o, st, c, dt⟩ b hb => by
    have : b = it := by simpa using hb
    subst this
    exact ⟨_, st, fun v y => by rw [dt] at y; cases y⟩
  keep := fun i h h' st k => st.at fun o e => k it (by simp) o e
  item := by
    intro X hP hw hK hc i pins s σ H E I hf st hg
    subst hP hw hK
    obtain ⟨e, hi⟩ := hg
    obtain ⟨vs, es', ep', rel, hd', _, da, _, _, ho, _⟩ := frz_at I e
    have ee : ep' = ep := by rw [hd] at hd'; cases hd'; rfl
    subst ee
    have len := rel.length
    have ek : kvs[i]? = some (kvs[i].1, kvs[i].2) := List.getElem?_eq_getElem hi
    obtain ⟨v, ev, rv⟩ := kv_at rel ek
    rw [len] at st
    obtain ⟨f0, f1, f2, f3, f4, f5⟩ := hf it (by simp)
    refine wpAny_pyNext_values_item st da ev fun h' st' sb => ?_
    have I1 : Inv X pins σ H { s with heap := h', toks := s.toks } := I.turned (t' := s.toks) (fun b o hb y => sb.extBut b o hb y) f0 f1 f3 f4 f5
    rw [← len] at st'
    obtain ⟨o2, g1, g2, g3⟩ := id st'
    exact ⟨_, rfl, go_of (s := { s with heap := h' }) (n := "dict_valueiterator") g1 g2 g3 (by decide) ⟨kvs[i].2, H, I1, rv, ⟨rfl, _, ek⟩, st', fun b hb => (hf b hb).1⟩⟩
  done := by
    intro X hP hw hK hc i pins s σ H E I hf st hg
    subst hP hw hK
    obtain ⟨e, hi⟩ := hg
    obtain ⟨vs, es', ep', rel, hd', _, da, _, _, ho, _⟩ := frz_at I e
    have ee : ep' = ep := by rw [hd] at hd'; cases hd'; rfl
    subst ee
    have len := rel.length
    rw [len] at st
    obtain ⟨f0, f1, f2, f3, f4, f5⟩ := hf it (by simp)
    exact wpAny_pyNext_values_end (I.ok.hd hc) st da (by simp; omega) fun h' eb => ⟨rfl, I.turned (t' := s.toks) (fun b o hb y => eb b o hb y) f0 f1 f3 f4 f5⟩
  self := fun _ _ _ _ _ st h => wpAny_pyIter_valiter st h
section
variable {X : Cx}
theorem pi_vals {tg o : Expr} {to : TE} {apos cpos : Pos} (ho : PE X o to) (hbase : attributeBase o "values" X.env (eval o X.env) = eval o X.env := by rfl) (hline : (apos.endLine == cpos.line) = true := by rfl) :
    PI X tg (.Call (.Attribute o "values" apos) [] [] cpos) (fun σ H R => to σ H fun x H1 => ∃ a ob kvs, x = .ref a ∧ H1 a = some (.frz ob (.dK kvs)) ∧ R (Itv a ob kvs) H1) := by
  intro pins s σ H R I h
  refine wpAny_Call_method0_late hbase hline (thn (ho pins s σ H _ I h) fun v s1 ⟨x, H1, I1, r1, a, ob, kvs, ex, e, q⟩ => ?_)
  subst ex
  cases r1
  obtain ⟨vs, es, ep, rel, hd, sz, da, nsys, z, hget, exd⟩ := frz_at I1 e
  have ty : s1.TypeIs (.ref a) "dict" := ⟨_, hget, exd.1⟩
  have len := rel.length
  refine ⟨"dict", "dict.values", PySem.F.plainAttrs_dict, PySem.F.slot_dict_values, PySem.F.type_dict_values, ty, (fun b y => by cases y; exact ⟨ob, hget, exd.2.1⟩), Calls.callWith_builtin rfl (PySem.evalArgs_none ?_)⟩
  obtain ⟨o2, es2, y1, y2, y3, y4, y5, y6⟩ := id da
  refine wpAny_call (codeAny_call_builtin PySem.F.slot_dict_values.plain PySem.F.entry_dict_values (PySem.F.slot_dict_values.check _ _ _ _ _ _ _ _ ty (PySem.F.args_dict_values_1 _) (meets_dict_values (mixKind X.prog X.w) a nsys X.A (wants (fun v s1 => wpAny (model X.prog X.w) X.A (pyIter v) (PIE X pins σ tg R) X.xe s1) X.xe) s1 ⟨⟨vs, o2, es2, ep, y1, y2, y3, y4, y5, y6⟩, ?_⟩)))
  show wpAny _ _ (pyIter _) _ _ _
  have hv : (s1.heap.push { cls := .type "dict_values", data := .fields #[.ref a] }).IsValuesView s1.heap.objs.size a := ⟨_, Heap.get?_push_size _ rfl, rfl, rfl⟩
  have da' : (s1.heap.push { cls := .type "dict_values", data := .fields #[.ref a] }).DictAt (mixKind X.prog X.w) a vs ep := ⟨o2, es2, Heap.get?_push_of_some _ y1, y2, y3, y4, y5, y6⟩
  refine wpAny_pyIter_values (s := { s1 with heap := s1.heap.push { cls := .type "dict_values", data := .fields #[.ref a] } }) hv da' ?_
  have k1 : ∀ b u, s1.heap.get? b = some u → ((s1.heap.push { cls := .type "dict_values", data := .fields #[.ref a] }).push { cls := .type "dict_valueiterator", data := .fields #[.ref a, .int 0 0, .int vs.length 0, .int ep 0] }).get? b = some u := fun b u y => Heap.get?_push_of_some _ (Heap.get?_push_of_some _ y)
  refine ⟨_, [(s1.heap.push { cls := .type "dict_values", data := .fields #[.ref a] }).objs.size], _, _, H1, rfl, I1.kept (t' := s1.toks) k1, turn_vals a _ ob es ep kvs hd, ⟨_, Heap.get?_push_size _ rfl, rfl, by rw [len]; rfl⟩, fun b hb => ?_, q⟩
  have : b = (s1.heap.push { cls := .type "dict_values", data := .fields #[.ref a] }).objs.size := by simpa using hb
  subst this
  have ge : s1.heap.objs.size ≤ (s1.heap.push { cls := .type "dict_values", data := .fields #[.ref a] }).objs.size := by rw [Heap.size_push]; exact Nat.le_succ _
  exact I1.fpOk ge (I1.hok.fresh ge)
theorem comp_vals {a : Addr} {o : Obj} {kvs : List (Key × V)} {ix : List (Option Nat)} {g : TG} {tt : TT} {te : TE} {QD : Hp → Prop} {σ : St} {H1 : Hp} {D : Addr} (Pv : Nat → List V → St → Hp → Prop) (h0 : Pv 0 [] (blkSt σ ix) (upd H1 D (.lst [])))
    (hl : ∀ i ys τ H, Pv i ys τ H → H a = some (.frz o (.dK kvs)))
    (hs : ∀ i k v ys τ H, kvs[i]? = some (k, v) → Pv i ys τ H → g v τ H fun τ' H4 => tt τ' H4 fun b H5 => if b = true then te τ' H5 fun v H6 => H6 D = some (.lst ys) ∧ ys.length < sizeLine ∧ Pv (i + 1) (ys ++ [v]) τ' (upd H6 D (.lst (ys ++ [v]))) else Pv (i + 1) ys τ' H5)
    (hd : ∀ ys τ H, Pv kvs.length ys τ H → QD H) :
    ∃ W : Nat → Nat → List V → St → Hp → Prop, (∃ m, W 0 m [] (blkSt σ ix) (upd H1 D (.lst []))) ∧ ∀ i m ys τ H2, W i m ys τ H2 →
      ((Itv a o kvs).stop i H2 ∧ QD H2) ∨ ((Itv a o kvs).go i H2 ∧ ∃ N : List V → St → Hp → Prop, (∀ ys' τ' H', N ys' τ' H' → ∃ m', m' < m ∧ W (i + 1) m' ys' τ' H') ∧ ∀ x H3, (Itv a o kvs).yld i H2 x H3 → g x τ H3 fun τ' H4 => tt τ' H4 fun b H5 =>
        if b = true then te τ' H5 fun v H6 => H6 D = some (.lst ys) ∧ ys.length < sizeLine ∧ N (ys ++ [v]) τ' (upd H6 D (.lst (ys ++ [v])))
        else N ys τ' H5) := by
  refine ⟨fun i m ys τ H => m = kvs.length - i ∧ i ≤ kvs.length ∧ Pv i ys τ H, ⟨kvs.length, by simp, Nat.zero_le _, h0⟩, ?_⟩
  rintro i m ys τ H ⟨rfl, hi, p⟩
  by_cases hlt : i < kvs.length
  · refine .inr ⟨⟨hl i ys τ H p, hlt⟩, Pv (i + 1), fun ys' τ' H' p' => ⟨_, ?_, rfl, hlt, p'⟩, fun x H' y => ?_⟩
    · show kvs.length - (i + 1) < kvs.length - i
      omega
    · obtain ⟨rfl, k, ek⟩ := y
      exact hs i k x ys τ H' ek p
  · have e : i = kvs.length := by omega
    subst e
    exact .inl ⟨⟨hl _ ys τ H p, Nat.le_refl _⟩, hd ys τ H p⟩
end
end L2
set_option Elab.async false
set_option linter.all false
set_option maxRecDepth 100000
set_option maxHeartbeats 4000000
local macro_rules | `(tactic| walk_at "lc") => `(tactic| first | exact Or.inl rfl | exact Or.inr rfl)
local macro_rules | `(tactic| walk_at "nm") => `(tactic| first | assumption | exact List.not_mem_nil | (refine L2.nm1 ?_; walk_at "ne") | (refine L2.nm2 ?_ ?_ <;> walk_at "ne") | (refine L2.nm3 ?_ ?_ ?_ <;> walk_at "ne"))
local macro_rules | `(tactic| walk_at "lk") => `(tactic| first | assumption | exact L2.upd_same | (refine (L2.upd_ne ?_).trans ?_; walk_at "ne"; walk_at "lk") | (refine L2.Kp.look (by assumption) ?_ ?_; walk_at "lk"; walk_at "nm"))
local macro_rules | `(tactic| walk_at "ne") => `(tactic| first | assumption | (refine Ne.symm ?_; assumption) | (refine L2.ne_fre (by assumption) ?_; walk_at "lk") | (refine Ne.symm (L2.ne_fre (by assumption) ?_); walk_at "lk"))
local macro_rules | `(tactic| walk_at "bd") => `(tactic| first | decide | omega | (dsimp only; first | decide | omega))
local macro_rules | `(tactic| walk_at "ml") => `(tactic| first | exact Or.inr ⟨by decide, by decide⟩ | exact Or.inl ⟨by omega, by omega⟩ | exact Or.inr ⟨by omega, by omega⟩)
local macro_rules | `(tactic| walk_at "ln") => `(tactic| first | decide | (have hsz := PySem.sizeLine_eq; simp only [List.length_cons, List.length_nil, List.length_map, List.length_append] at *; omega))
local macro_rules | `(tactic| walk_at "ix") => `(tactic| first | rfl | assumption | (refine L2.atI_natc ?_; assumption))
local macro_rules | `(tactic| walk_at "vs") => `(tactic| first | exact Or.inl rfl | exact Or.inr (Or.inl rfl) | exact Or.inr (Or.inr rfl))
local macro_rules | `(tactic| walk_at "vk") => `(tactic| first | exact Or.inl rfl | exact Or.inr rfl)
local macro_rules | `(tactic| walk_at "vf") => `(tactic| first | decide +kernel | (simp only [List.mem_cons]; decide))
namespace My
open PySem L2
def top (i : Nat) : Stmt := PySem.Challenge.pw_levelbench_k71_whole_windows_or_a_crowd.main.body.getD i (.Pass ⟨0, 0, 0, 0⟩)
structure Txt (K : PySem.W.Frag) (mg : Str → Option Value) : Prop where
  z_len : mg "len" = none
  z_max : mg "max" = none
  z_range : mg "range" = none
  z_int : mg "int" = none
  z_list : mg "list" = none
  z_min : mg "min" = none
  z_dict : mg "dict" = none
  z_enumerate : mg "enumerate" = none
  z_bool : mg "bool" = none
  z_sum : mg "sum" = none
  z_sorted : mg "sorted" = none
  z_str : mg "str" = none
  z_all : mg "all" = none
  z_tuple : mg "tuple" = none
  z_isinstance : mg "isinstance" = none
  c_LONGEST_NAME : ∃ t, mg "LONGEST_NAME" = some (.int 8 t)
  c_MOST_WINDOWS : ∃ t, mg "MOST_WINDOWS" = some (.int 20 t)
section
variable {P : Program} {w : World} {K : PySem.W.Frag} {mg : Str → Option Value} {base : Heap}
def Purse (H : Hp) (p : Addr) : Prop := ∃ a b : Int, H p = some (.lst [.int a, .int b]) ∧ 0 ≤ a ∧ 0 ≤ b ∧ b < 2147483629
theorem Purse.kp {M : List Addr} {H H' : Hp} {p : Addr} (h : Purse H p) (k : Kp M H H') (n : p ∉ M) : Purse H' p := by
  obtain ⟨a, b, e, r⟩ := h
  exact ⟨a, b, k p _ e n, r⟩
def spTake : Sp := fun vs H Q _ => ∃ (p : Addr) (m : Int), vs = [.ref p, .int m] ∧ Purse H p ∧ 1 ≤ m ∧ m < 10 ^ 100 ∧ ∀ (d : Int) (H' : Hp), 0 ≤ d → d < m → Purse H' p → Kp [p] H H' → Q (.int d) H'
abbrev s_take : Stmt := top 20
theorem sc_take : FnScope ["_law_purse_here", "_law_many", "_law_digit"] ["_law_purse_here", "_law_many"] (defScope s_take) := ⟨rfl, rfl, rfl, by decide +kernel, rfl, by decide +kernel, by decide +kernel⟩
theorem ok_take {f : Addr} {fd : FuncData} (F : Fun K "_law_take" "_law_take" s_take f fd) : FnOk P w K mg base CX0 1 f fd ["_law_purse_here", "_law_many"] spTake := by
  refine F.ok sc_take (fun vs H Q E h => ?_) (fun cdv A outer s H vs Q E hr h => ?_)
  · obtain ⟨p, m, rfl, _⟩ := h
    rfl
  · obtain ⟨p, m, rfl, ⟨a, b, hp, ha, hb, hb'⟩, hm, hm', k⟩ := h
    refine ⟨_, (pss_cons (ps_if (pt_cmpR op_gt (pe_ix ix_list (pv 0) pe_int (fun _ _ => rfl)) pe_int (nomark _))
        (pss_cons (ps_set (i := 2) sc_take.nd rfl (by walk_at "lc") (pe_op op_mod (pe_ix ix_list (pv 0) pe_int (fun _ _ => rfl)) (pv 1)))
        (pss_cons (ps_asg (pe_op op_fdivB (pe_ix ix_list (pv 0) pe_int (fun _ _ => rfl)) (pv 1)) (pg_sub (pv 0) pe_int set_list))
        (pss_one (ps_ret (pv 2)))))
        pss_nil)
      (pss_cons (ps_asg (pe_op op_mod (pe_op op_add (pe_op op_mul (pe_ix ix_list (pv 0) pe_int (fun _ _ => rfl)) pe_int) pe_int) pe_int) (pg_sub (pv 0) pe_int set_list))
      (pss_one (ps_ret (pe_op op_mod (pe_op op_fdiv (pe_op op_mod (pe_op op_mul (pe_ix ix_list (pv 0) pe_int (fun _ _ => rfl)) (pe_ix ix_list (pv 0) pe_int (fun _ _ => rfl))) pe_int) pe_int) (pv 1)))))), ?_⟩
    refine ⟨_, rfl, _, _, _, _, rfl, rfl, SqL.of (by walk_at "lk"), (by walk_at "ix"), _, _, rfl, rfl, _, rfl, ?_⟩
    refine ite2 (fun c => ?_) (fun c => ?_)
    · have c' : 0 < a := by simpa using c
      refine ⟨_, rfl, _, _, _, _, rfl, rfl, SqL.of (by walk_at "lk"), (by walk_at "ix"), _, rfl, _, _, rfl, rfl, (by walk_at "bd"), ?_⟩
      refine ⟨_, rfl, _, _, _, _, rfl, rfl, SqL.of (by walk_at "lk"), (by walk_at "ix"), _, rfl, _, _, rfl, rfl, ⟨by walk_at "bd", hm'⟩, _, rfl, _, _, _, _, rfl, rfl, (by walk_at "lk"), (by walk_at "ix"), ?_⟩
      refine ⟨_, rfl, ?_⟩
      refine k _ _ (Int.emod_nonneg _ (by omega)) (Int.emod_lt_of_pos _ (by omega)) ⟨a / m, b, upd_same, Int.ediv_nonneg ha (by omega), hb, hb'⟩ (Kp.put Kp.refl (by simp))
    · refine ⟨_, rfl, _, _, _, _, rfl, rfl, SqL.of (by walk_at "lk"), (by walk_at "ix"), _, _, rfl, rfl, (by walk_at "ml"), _, _, rfl, rfl, _, _, rfl, rfl, (by walk_at "bd"), _, rfl, _, _, _, _, rfl, rfl, (by walk_at "lk"), (by walk_at "ix"), ?_⟩
      have h1 := Int.emod_nonneg (b * 39373 + 7919) (show (2147483629 : Int) ≠ 0 by decide)
      have h2 := Int.emod_lt_of_pos (b * 39373 + 7919) (show (0 : Int) < 2147483629 by decide)
      refine ⟨_, rfl, _, _, _, _, rfl, rfl, SqL.of (by walk_at "lk"), (by walk_at "ix"), _, rfl, _, _, _, _, rfl, rfl, SqL.of (by walk_at "lk"), (by walk_at "ix"), _, _, rfl, rfl, (by walk_at "ml"), _, _, rfl, rfl, (by walk_at "bd"), _, _, rfl, rfl, ⟨by walk_at "bd", by walk_at "bd"⟩, _, rfl, _, _, rfl, rfl, (by walk_at "bd"), ?_⟩
      refine k _ _ (Int.emod_nonneg _ (by omega)) (Int.emod_lt_of_pos _ (by omega)) ⟨a, _, upd_same, ha, h1, h2⟩ (Kp.put Kp.refl (by simp))
def spPurse : Sp := fun vs H Q _ => ∃ (c k : Int), vs = [.int c, .int k] ∧ -(2 ^ 31) < k ∧ k < 2 ^ 31 ∧ ∀ (p : Addr) (H' : Hp), Fre H p → Purse H' p → Kp [] H H' → Q (.ref p) H'
abbrev s_purse : Stmt := top 19
theorem sc_purse : FnScope ["_law_cell_here", "_law_k", "_law_number"] ["_law_cell_here", "_law_k"] (defScope s_purse) := ⟨rfl, rfl, rfl, by decide +kernel, rfl, by decide +kernel, by decide +kernel⟩
theorem ok_purse {f : Addr} {fd : FuncData} (F : Fun K "_law_purse" "_law_purse" s_purse f fd) (T : Txt K mg) : FnOk P w K mg base CX0 1 f fd ["_law_cell_here", "_law_k"] spPurse := by
  refine F.ok sc_purse (fun vs H Q E h => ?_) (fun cdv A outer s H vs Q E hr h => ?_)
  · obtain ⟨p, m, rfl, _⟩ := h
    rfl
  · obtain ⟨c, n, rfl, hn, hn', k⟩ := h
    refine ⟨_, (pss_cons (ps_set (i := 2) sc_purse.nd rfl (by walk_at "lc") (pe_op op_mod (pe_op op_add (pe_op op_add (pe_op op_mul (pe_op op_mod (pv 0) pe_int) pe_int) (pe_op op_mul (pe_op op_mul (pv 1) (pv 1)) pe_int)) pe_int) pe_int))
      (pss_one (ps_ret (pe_lst (pa_cons (pe_callB (call_max2 rfl) (by rfl) T.z_max bo_max (pa_cons pe_int (pa_cons (pe_op op_sub (pv 0) (pe_op op_pow pe_int pe_int)) pa_nil))) (pa_cons (pe_op op_mod (pe_op op_mul (pv 2) (pv 2)) pe_int) pa_nil)))))), ?_⟩
    refine ⟨_, rfl, _, _, rfl, rfl, (by walk_at "bd"), _, _, rfl, rfl, (by walk_at "ml"), _, rfl, _, rfl, _, _, rfl, rfl, (by walk_at "ml"), _, _, rfl, rfl, (by walk_at "ml"), _, _, rfl, rfl, _, _, rfl, rfl, _, _, rfl, rfl, (by walk_at "bd"), ?_⟩
    generalize c % 2147483629 * 48271 + n * n * 69623 + 11 = y
    have h1 := Int.emod_nonneg y (show (2147483647 : Int) ≠ 0 by decide)
    have h2 := Int.emod_lt_of_pos y (show (0 : Int) < 2147483647 by decide)
    refine ⟨_, rfl, _, _, rfl, rfl, ⟨by decide, by decide, by decide⟩, _, _, rfl, rfl, _, _, rfl, _, rfl, _, rfl, _, _, rfl, rfl, (by walk_at "ml"), _, _, rfl, rfl, (by walk_at "bd"), (by walk_at "ln"), fun p hp => ?_⟩
    refine k p _ hp ⟨_, _, upd_same, ?_, Int.emod_nonneg _ (by decide), Int.emod_lt_of_pos _ (by decide)⟩ (Kp.new Kp.refl hp)
    split <;> omega
def spCell (K : PySem.W.Frag) : Sp := fun vs H Q _ => ∃ (a : Addr) (ns : List Int) (k : Int), vs = [.ref a, .int k] ∧ SqL K H a (ns.map V.int) ∧ 0 ≤ k ∧ ∀ c : Int, Q (.int c) H
abbrev s_cell : Stmt := top 22
theorem sc_cell : FnScope ["_law_script", "_law_k"] ["_law_script", "_law_k"] (defScope s_cell) := ⟨rfl, rfl, rfl, by decide +kernel, rfl, by decide +kernel, by decide +kernel⟩
theorem ok_cell {f : Addr} {fd : FuncData} (F : Fun K "_law_cell" "_law_cell" s_cell f fd) (T : Txt K mg) : FnOk P w K mg base CX0 1 f fd ["_law_script", "_law_k"] (spCell K) := by
  refine F.ok sc_cell (fun vs H Q E h => ?_) (fun cdv A outer s H vs Q E hr h => ?_)
  · obtain ⟨p, m, n, rfl, _⟩ := h
    rfl
  · obtain ⟨a, ns, n, rfl, hS, hn, k⟩ := h
    refine ⟨_, (pss_one (ps_ret (pe_ifExp (pt_cmpR op_lt (pv 1) (pe_callB call_len_seq (by rfl) T.z_len bo_len (pa_cons (pv 0) pa_nil)) (nomark _)) (pe_ix ix_list (pv 0) (pv 1) (fun _ _ => rfl)) pe_int))), ?_⟩
    refine ⟨_, rfl, _, rfl, _, _, rfl, .inl hS, _, _, rfl, rfl, _, rfl, ?_⟩
    refine ite2 (fun c => ?_) (fun c => ?_)
    · have c' : n < ns.length := by simpa using c
      have hx : (ns.map V.int)[n.toNat]? = some (V.int (ns[n.toNat]'(by omega))) := by simp
      refine ⟨_, rfl, _, rfl, _, _, _, _, rfl, rfl, hS, atI_at hn hx, k _⟩
    · exact k _
end
end My
set_option Elab.async false
set_option linter.all false
set_option maxRecDepth 100000
set_option maxHeartbeats 4000000
namespace My
open PySem L2
def NameS (s : Str) : Prop := 1 ≤ s.length ∧ s.length ≤ 8 ∧ ∀ c ∈ s.cps.toList, 97 ≤ c ∧ c ≤ 122
def WordS (n : Nat) (s : Str) : Prop := s.length = n ∧ ∀ c ∈ s.cps.toList, 97 ≤ c ∧ c ≤ 122
theorem len_app (a b : Str) : (a ++ b).length = a.length + b.length := by
  show (a ++ b).cps.size = _
  rw [Str.cps_append, Array.size_append]; rfl
theorem WordS.more {n : Nat} {s : Str} (h : WordS n s) {c : Nat} (h1 : 97 ≤ c) (h2 : c ≤ 122) : WordS (n + 1) (s ++ ⟨#[c]⟩) := by
  refine ⟨by rw [len_app, h.1]; rfl, fun x hx => ?_⟩
  rw [Str.cps_append, Array.toList_append] at hx
  rcases List.mem_append.mp hx with z | z
  · exact h.2 x z
  · have : x = c := by simpa using z
    omega
def letters : Str := "abcdefghijklmnopqrstuvwxyz"
theorem letters_list : letters.cps.toList = (List.range 26).map (97 + ·) := by decide +kernel
theorem letters_at {d : Int} (h0 : 0 ≤ d) (h1 : d < 26) : atI letters.cps.toList d = some (97 + d.toNat) := by
  refine atI_at h0 ?_
  have : d.toNat < 26 := by omega
  rw [letters_list, List.getElem?_map, List.getElem?_range this]
  rfl
theorem one_sign_le (a c : Nat) : (!(decide (([c] : List Nat) < [a]))) = decide (a ≤ c) := by
  have : (([c] : List Nat) < [a]) ↔ c < a := by
    constructor
    · intro h
      cases h with
      | rel h => exact h
      | cons h => cases h
    · intro h
      exact List.Lex.rel h
  by_cases h : c < a
  · rw [decide_eq_true (this.mpr h), decide_eq_false (by omega)]; rfl
  · rw [decide_eq_false (fun z => h (this.mp z)), decide_eq_true (by omega)]; rfl
section
variable {P : Program} {w : World} {K : PySem.W.Frag} {mg : Str → Option Value} {base : Heap}
def nameB (s : Str) : Bool := decide (1 ≤ s.length) && decide (s.length ≤ 8) && s.cps.toList.all fun c => decide (97 ≤ c) && decide (c ≤ 122)
theorem nameB_iff (s : Str) : nameB s = true ↔ NameS s := by
  unfold nameB NameS
  simp only [Bool.and_eq_true, decide_eq_true_eq, List.all_eq_true]
  exact ⟨fun ⟨⟨a, b⟩, c⟩ => ⟨a, b, c⟩, fun ⟨a, b, c⟩ => ⟨⟨a, b⟩, c⟩⟩
def spIsName : Sp := fun vs H Q _ => ∃ (x : Str), vs = [.str x] ∧ x.length ≤ 1000000 ∧ ∀ H', Kp [] H H' → Q (.bl (nameB x)) H'
abbrev s_is_name : Stmt := top 8
theorem sc_is_name : FnScope ["thing"] ["thing"] (defScope s_is_name) := ⟨rfl, rfl, rfl, by decide +kernel, rfl, by decide +kernel, by decide +kernel⟩
theorem ok_is_name {f : Addr} {fd : FuncData} (F : Fun K "is_name" "is_name" s_is_name f fd) (T : Txt K mg) : FnOk P w K mg base CX0 1 f fd ["thing"] spIsName := by
  refine F.ok sc_is_name (fun vs H Q E h => ?_) (fun cdv A outer s H vs Q E hr h => ?_)
  · obtain ⟨x, rfl, _⟩ := h
    rfl
  · obtain ⟨x, rfl, hx, k⟩ := h
    obtain ⟨tL, hL⟩ := T.c_LONGEST_NAME
    refine ⟨_, (pss_cons (ps_if (PW.pt (pw_or (pt_not (pt_val (pe_callB call_isT (by rfl) T.z_isinstance bo_isinstance (pa_cons (pv 0) (pa_cons (pe_bltn (by rfl) T.z_str bo_str (v := .ty "str") rfl) pa_nil))))) (pw_or1 (pt_not (pt_chain op_le op_le pe_int (pe_callB call_len_str (by rfl) T.z_len bo_len (pa_cons (pv 0) pa_nil)) (pe_glob rfl hL (v := .int 8) ⟨_, rfl⟩))))))
        (pss_one (ps_ret pe_bl))
        pss_nil)
      (pss_one (ps_ret (pe_callB (call_all _ rfl) (by rfl) T.z_all bo_all (pa_cons (pe_comp rfl (blk_mk (sc := defScope s_is_name) rfl (by decide +kernel)) (Draws.own (x := "sign") Draws.nil) (pi_str (pv 0)) (fun C s₀ H₀ ex => (pg_name (i := 0) (show List.Nodup (["sign"] : List Str) by decide +kernel) rfl (by walk_at "lc"))) (fun C s₀ H₀ ex => pts_nil) (fun C s₀ H₀ ex => (pe_chain op_le_str op_le_str pe_str (pv 0) pe_str))) pa_nil))))), ?_⟩
    refine ⟨_, rfl, _, _, _, _, rfl, TyOf.str x, kit_same, _, rfl, iteF ?_⟩
    refine ⟨_, rfl, _, rfl, ?_, _, _, rfl, rfl, _, rfl, ?_⟩
    · rw [sizeLine_eq]; omega
    refine ite2 (fun c => ?_) (fun c => ?_)
    · have c1 : 1 ≤ x.length := by
        have := of_decide_eq_true c
        omega
      refine ⟨_, _, rfl, rfl, _, rfl, ?_⟩
      refine ite2 (fun c => ?_) (fun c => ?_)
      · -- too long
        have c2 : ¬ (x.length ≤ 8) := fun z => by
          have : decide ((x.length : Int) ≤ 8) = true := decide_eq_true (by omega)
          rw [this] at c; cases c
        have e : nameB x = false := by
          unfold nameB
          rw [decide_eq_false c2]; simp
        rw [← e]; exact k H Kp.refl
      · have c2 : x.length ≤ 8 := by
          by_cases z : (x.length : Int) ≤ 8
          · omega
          · rw [decide_eq_false z] at c; exact absurd rfl c
        refine ⟨_, rfl, _, rfl, fun D hD => comp_str0 (z := x) (fun i ys τ H' => (∃ o0, τ = [o0]) ∧ ys = ((x.cps.toList.take i).map fun c => V.bl (decide (97 ≤ c) && decide (c ≤ 122))) ∧ H' = upd H D (.lst ys)) ⟨⟨_, rfl⟩, rfl, rfl⟩ ?_ ?_⟩
        · rintro i c ys τ H' hc ⟨⟨o0, rfl⟩, rfl, rfl⟩
          have ei : x.cps.toList.take (i + 1) = x.cps.toList.take i ++ [c] := by rw [List.take_succ, hc]; rfl
          have hi : i < x.cps.toList.length := (List.getElem?_eq_some_iff.mp hc).1
          have hlen : x.cps.toList.length = x.length := by simp [Str.length]
          have fin : ∀ b : Bool, b = (decide (97 ≤ c) && decide (c ≤ 122)) → (upd H D (.lst ((x.cps.toList.take i).map fun c => V.bl (decide (97 ≤ c) && decide (c ≤ 122))))) D = some (.lst ((x.cps.toList.take i).map fun c => V.bl (decide (97 ≤ c) && decide (c ≤ 122)))) ∧ ((x.cps.toList.take i).map fun c => V.bl (decide (97 ≤ c) && decide (c ≤ 122))).length < sizeLine ∧
              ((∃ o0, ([some (V.str ⟨#[c]⟩)] : St) = [o0]) ∧ ((x.cps.toList.take i).map fun c => V.bl (decide (97 ≤ c) && decide (c ≤ 122))) ++ [V.bl b] = ((x.cps.toList.take (i + 1)).map fun c => V.bl (decide (97 ≤ c) && decide (c ≤ 122))) ∧
              upd (upd H D (.lst ((x.cps.toList.take i).map fun c => V.bl (decide (97 ≤ c) && decide (c ≤ 122))))) D (.lst (((x.cps.toList.take i).map fun c => V.bl (decide (97 ≤ c) && decide (c ≤ 122))) ++ [V.bl b])) = upd H D (.lst (((x.cps.toList.take i).map fun c => V.bl (decide (97 ≤ c) && decide (c ≤ 122))) ++ [V.bl b]))) := fun b hb => by
            refine ⟨upd_same, ?_, ⟨_, rfl⟩, ?_, upd_upd⟩
            · rw [List.length_map, List.length_take, sizeLine_eq]; omega
            · rw [ei, List.map_append, hb]; rfl
          refine ⟨_, rfl, _, _, rfl, rfl, _, rfl, ?_⟩
          refine ite2 (fun c1 => ?_) (fun c1 => ?_)
          · refine ⟨_, _, rfl, rfl, fin _ ?_⟩
            have c1 : (!(decide (([c] : List Nat) < [97]))) = true := c1
            rw [one_sign_le] at c1
            show (!(decide (([122] : List Nat) < [c]))) = _
            rw [one_sign_le, c1]; rfl
          · refine fin _ ?_
            have c1 : ¬ (!(decide (([c] : List Nat) < [97]))) = true := c1
            rw [one_sign_le] at c1
            rw [Bool.not_eq_true] at c1
            rw [c1]; rfl
        · rintro ys τ H' ⟨⟨o0, rfl⟩, rfl, rfl⟩
          have hlen : x.cps.toList.take x.length = x.cps.toList := List.take_of_length_le (by simp [Str.length])
          refine ⟨D, x.cps.toList.map (fun c => decide (97 ≤ c) && decide (c ≤ 122)), rfl, SqL.of ?_, ?_⟩
          · rw [upd_same, hlen, List.map_map]; rfl
          · have e : ((x.cps.toList.map (fun c => decide (97 ≤ c) && decide (c ≤ 122))).all id) = nameB x := by
              unfold nameB
              rw [decide_eq_true c1, decide_eq_true c2, List.all_map]; rfl
            rw [e]
            exact k _ (Kp.new Kp.refl hD)
    · -- empty
      have c1 : ¬ (1 ≤ x.length) := fun z => c (decide_eq_true (by omega))
      refine ⟨_, rfl, ?_⟩
      refine iteT ?_
      have e : nameB x = false := by
        unfold nameB
        rw [decide_eq_false c1]; simp
      rw [← e]; exact k H Kp.refl
end
end My
set_option Elab.async false
set_option linter.all false
set_option maxRecDepth 100000
set_option maxHeartbeats 4000000
namespace My
open PySem L2
abbrev Txs (H : Hp) (l : Addr) (ns : List Str) : Prop := H l = some (.lst (ns.map V.str))
theorem inV_str (x : Str) (ns : List Str) : inV (.str x) (ns.map V.str) = decide (x ∈ ns) := by
  unfold inV
  induction ns with
  | nil => rfl
  | cons n r ih =>
    rw [List.map_cons, List.any_cons, ih]
    show ((n == x) || _) = _
    by_cases e : n = x
    · subst e; simp
    · have e' : ¬ x = n := fun z => e z.symm
      rw [beq_eq_false_iff_ne.mpr e]
      simp [e']
theorem flat_strs (ns : List Str) : (ns.map V.str).all flatV = true := by simp [flatV]
theorem take_snoc {α : Type} {xs : List α} {i : Nat} {x : α} (h : xs[i]? = some x) : xs.take (i + 1) = xs.take i ++ [x] := by rw [List.take_succ, h]; rfl
theorem str_at {ns : List Str} {i : Nat} {v : V} (h : (ns.map V.str)[i]? = some v) : ∃ n, ns[i]? = some n ∧ v = .str n := by
  rw [List.getElem?_map] at h
  obtain ⟨n, e, r⟩ := Option.map_eq_some_iff.mp h
  exact ⟨n, e, r.symm⟩
theorem sub_len : ∀ {A B : List Str}, A.Nodup → (∀ x ∈ A, x ∈ B) → A.length ≤ B.length
  | [], B, _, _ => Nat.zero_le _
  | a :: A, B, h, hs => by
    obtain ⟨h1, h2⟩ := List.nodup_cons.mp h
    have hb := hs a List.mem_cons_self
    have := sub_len (B := B.erase a) h2 fun x hx => (List.mem_erase_of_ne fun e => h1 (by rw [← e]; exact hx)).mpr (hs x (List.mem_cons_of_mem _ hx))
    rw [List.length_erase_of_mem hb] at this
    have := List.length_pos_of_mem hb
    rw [List.length_cons]; omega
theorem filt_yes {α : Type} {p : α → Bool} {xs : List α} {i : Nat} {x : α} (e : xs[i]? = some x) (h : p x = true) : (xs.take (i + 1)).filter p = (xs.take i).filter p ++ [x] := by
  rw [take_snoc e, List.filter_append, List.filter_cons, if_pos h]; rfl
theorem filt_no {α : Type} {p : α → Bool} {xs : List α} {i : Nat} {x : α} (e : xs[i]? = some x) (h : ¬ p x = true) : (xs.take (i + 1)).filter p = (xs.take i).filter p := by
  rw [take_snoc e, List.filter_append, List.filter_cons, if_neg h]; simp
theorem filt_len {α : Type} {p : α → Bool} {xs : List α} {i : Nat} (h : xs.length ≤ 4096) : (((xs.take i).filter p)).length < sizeLine := by
  have h1 := List.length_filter_le p (xs.take i)
  rw [List.length_take] at h1
  rw [sizeLine_eq]; omega
def singles : List Str := letters.cps.toList.map fun c => ⟨#[c]⟩
theorem singles_len : singles.length = 26 := by
  unfold singles
  rw [letters_list]; simp
theorem singles_nd : singles.Nodup := by decide +kernel
theorem single_ok {x : Str} (h : x ∈ singles) : NameS x := by
  unfold singles at h
  rw [letters_list] at h
  obtain ⟨c, hc, rfl⟩ := List.mem_map.mp h
  obtain ⟨i, hi, rfl⟩ := List.mem_map.mp hc
  have := List.mem_range.mp hi
  refine ⟨Nat.le_refl 1, by show 1 ≤ 8; decide, fun d hd => ?_⟩
  have : d = 97 + i := by simpa using hd
  omega
theorem some_single {found : List Str} (h : found.length ≤ 20) : (singles.filter fun x => decide (x ∉ found)) ≠ [] := fun z => by
  have : singles.length ≤ found.length := sub_len singles_nd fun x hx => by
    apply Classical.byContradiction
    intro y
    have : x ∈ singles.filter fun x => decide (x ∉ found) := List.mem_filter.mpr ⟨hx, decide_eq_true y⟩
    rw [z] at this; exact nomatch this
  rw [singles_len] at this
  omega
section
variable {P : Program} {w : World} {K : PySem.W.Frag} {mg : Str → Option Value} {base : Heap}
def spLNames : Sp := fun vs H Q _ => ∃ (p : Addr) (m : Int), vs = [.ref p, .int m] ∧ Purse H p ∧ 0 ≤ m ∧ m ≤ 20 ∧ ∀ (l : Addr) (ns : List Str) (H' : Hp), Fre H l → Txs H' l ns → ns.length = m.toNat → ns.Nodup → (∀ n ∈ ns, NameS n) → Purse H' p → Kp [p] H H' → Q (.ref l) H'
abbrev s_names : Stmt := top 21
theorem sc_names : FnScope ["_law_purse_here", "_law_many", "_law_letters", "_law_found", "_law_k", "_law_word", "_law_j"] ["_law_purse_here", "_law_many"] (defScope s_names) := ⟨rfl, rfl, rfl, by decide +kernel, rfl, by decide +kernel, by decide +kernel⟩
theorem ok_names {f : Addr} {fd : FuncData} (F : Fun K "_law_names" "_law_names" s_names f fd) (T : Txt K mg) (C_take : Cal P w K mg base "_law_take" 1 ["_law_purse_here", "_law_many"] spTake) : FnOk P w K mg base CX0 2 f fd ["_law_purse_here", "_law_many"] spLNames := by
  refine F.ok sc_names (fun vs H Q E h => ?_) (fun cdv A outer s H vs Q E hr h => ?_)
  · obtain ⟨p, m, rfl, _⟩ := h
    rfl
  · obtain ⟨p, m, rfl, hP, h0, h1, k⟩ := h
    have HR_take := hr
    refine ⟨_, (pss_cons (ps_set (i := 2) sc_names.nd rfl (by walk_at "lc") pe_str)
      (pss_cons (ps_set (i := 3) sc_names.nd rfl (by walk_at "lc") (pe_lst pa_nil))
      (pss_cons (ps_for PassesOwn.never rfl (pi_range1 rfl T.z_range (pa_cons (pv 1) pa_nil)) (pg_name (i := 4) sc_names.nd rfl (by walk_at "lc"))
        (pss_cons (ps_set (i := 5) sc_names.nd rfl (by walk_at "lc") pe_str)
        (pss_cons (ps_for PassesOwn.never rfl (pi_range1 rfl T.z_range (pa_cons (pe_op op_add pe_int (pe_op op_mul (pe_callC C_take HR_take rfl (pa_cons (pv 0) (pa_cons pe_int pa_nil))) (pe_callC C_take HR_take rfl (pa_cons (pv 0) (pa_cons pe_int pa_nil))))) pa_nil)) (pg_name (i := 6) sc_names.nd rfl (by walk_at "lc"))
          (pss_one (ps_set (i := 5) sc_names.nd rfl (by walk_at "lc") (pe_op op_add_str (pv 5) (pe_ix ix_str (pv 2) (pe_callC C_take HR_take rfl (pa_cons (pv 0) (pa_cons pe_int pa_nil))) (fun _ _ => rfl))))))
        (pss_cons (ps_if (pt_cmpR op_in_seq (pv 5) (pv 3) (by rfl))
          (pss_one (ps_set (i := 5) sc_names.nd rfl (by walk_at "lc") (pe_ix ix_list (pe_comp rfl (blk_mk (sc := defScope s_names) rfl (by decide +kernel)) (Draws.own (x := "_law_letter") (Draws.tk (i := 3) rfl (by walk_at "vs") (by walk_at "vk") (by walk_at "vf") Draws.nil)) (pi_str (pv 2)) (fun C s₀ H₀ ex => (pg_name (i := 0) (show List.Nodup (["_law_letter", "_law_found"] : List Str) by decide +kernel) rfl (by walk_at "lc"))) (fun C s₀ H₀ ex => (pts_one (pt_cmpR (op_notIn_seqK (K := K)) (pv 0) (pv 1) (by rfl)))) (fun C s₀ H₀ ex => (pv 0))) pe_int (fun _ _ => rfl))))
          pss_nil)
        (pss_one (ps_expr (pe_bm PySem.F.plainAttrs_list PySem.F.slot_list_append PySem.F.type_list_append mt_append (pv 3) (pa_cons (pv 5) pa_nil))))))))
      (pss_one (ps_ret (pv 3)))))), ?_⟩
    refine ⟨(by walk_at "ln"), fun l hl => ?_⟩
    have fl : Fre H l := hl
    have npl : p ≠ l := by obtain ⟨a, b, e, _⟩ := hP; exact ne_fre fl e
    have hP1 : Purse (upd H l (.lst [])) p := hP.kp (M := []) (Kp.new Kp.refl fl) (by simp)
    refine ⟨_, rfl, _, rfl, by omega, by omega, for_range (lo := 0) (n := m.toNat) (fun i σ H2 => ∃ (o4 o5 o6 : Option V) (ws : List Str), σ = [some (.ref p), some (.int m), some (.str letters), some (.ref l), o4, o5, o6] ∧ Purse H2 p ∧ Kp [p] H H2 ∧ Txs H2 l ws ∧ ws.length = i ∧ ws.Nodup ∧ ∀ s ∈ ws, NameS s)
      ⟨none, none, none, [], rfl, hP1, Kp.new Kp.refl fl, upd_same, rfl, List.nodup_nil, fun s h => nomatch h⟩ ?_ ?_⟩
    · rintro i σ H2 hi ⟨o4, o5, o6, ws, rfl, P2, K2, R2, e2, n2, q2⟩
      refine ⟨_, rfl, p, 2, rfl, P2, by decide, by decide, fun d1 H3 a0 a1 P3 K3 => ?_⟩
      refine ⟨_, rfl, p, 8, rfl, P3, by decide, by decide, fun d2 H4 b0 b1 P4 K4 => ?_⟩
      have hm0 : 0 ≤ d1 * d2 := Int.mul_nonneg a0 b0
      have hm1 : d1 * d2 ≤ 7 := by
        have : d1 * d2 ≤ 1 * 7 := Int.mul_le_mul (by omega) (by omega) b0 (by decide)
        omega
      have K24 : Kp [p] H2 H4 := K3.trans K4
      refine ⟨_, _, rfl, rfl, (by walk_at "ml"), _, _, rfl, rfl, _, rfl, by omega, by omega, for_range (lo := 0) (n := (1 + d1 * d2).toNat) (fun n σ H7 => ∃ (o4 o6 : Option V) (x : Str), σ = [some (.ref p), some (.int m), some (.str letters), some (.ref l), o4, some (.str x), o6] ∧ Purse H7 p ∧ Kp [p] H2 H7 ∧ WordS n x)
        ⟨_, _, _, rfl, P4, K24, rfl, (fun c h => absurd (show c ∈ ([] : List Nat) from h) (by simp))⟩ ?_ ?_⟩
      · rintro n σ H7 hn ⟨o4, o6, x, rfl, P8, K7, W⟩
        refine ⟨_, rfl, _, rfl, _, rfl, p, 26, rfl, P8, by decide, by decide, fun d4 H8 e0 e1 P9 K8 => ?_⟩
        refine ⟨_, _, _, rfl, rfl, by decide, letters_at e0 e1, _, _, rfl, rfl, ?_, ?_⟩
        · rw [W.1]
          show n + 1 ≤ sizeLine
          rw [sizeLine_eq]; omega
        · exact ⟨_, _, _, rfl, P9, K7.trans K8, W.more (by omega) (by omega)⟩
      · rintro σ H7 ⟨o4, o6, x, rfl, P8, K7, W⟩
        have h7 : Txs H7 l ws := K7 l _ R2 (nm1 npl.symm)
        have NX : NameS x := ⟨by have := W.1; omega, by have := W.1; omega, W.2⟩
        refine ⟨_, rfl, _, rfl, _, _, rfl, .inl (SqL.of h7), rfl, flat_strs ws, _, rfl, ?_⟩
        rw [if_neg (by decide), inV_str]
        refine if_mid (fun σ H8 => ∃ (y : Str), σ = [some (.ref p), some (.int m), some (.str letters), some (.ref l), o4, some (.str y), o6] ∧ Kp [] H7 H8 ∧ NameS y ∧ y ∉ ws) (fun N hN => ite2 (fun c => ?_) (fun c => ?_)) ?_
        · -- _law_word = [..][0]
          refine ⟨_, rfl, _, rfl, fun B hB => comp_str (z := letters) (fun i ys τ H8 => (∃ o0, τ = [o0, some (.ref l)]) ∧ ys = ((singles.take i).filter fun x => decide (x ∉ ws)).map V.str ∧ H8 = upd H7 B (.lst ys)) ⟨⟨_, rfl⟩, rfl, rfl⟩ ?_ ?_⟩
          · rintro i c ys τ H8 hc ⟨⟨o0, rfl⟩, rfl, rfl⟩
            have en : singles[i]? = some ⟨#[c]⟩ := by unfold singles; rw [List.getElem?_map, hc]; rfl
            refine ⟨_, rfl, _, rfl, _, _, rfl, .inl (SqL.of ((upd_ne (ne_fre (show Fre H7 B from hB) h7)).trans h7)), rfl, flat_strs ws, _, rfl, ?_⟩
            rw [if_pos rfl, inV_str]
            have ed : (!decide ((⟨#[c]⟩ : Str) ∈ ws)) = decide ((⟨#[c]⟩ : Str) ∉ ws) := by
              by_cases z : (⟨#[c]⟩ : Str) ∈ ws
              · simp [z]
              · simp [z]
            rw [ed]
            refine ite2 (fun c => ?_) (fun c => ?_)
            · refine ⟨_, rfl, upd_same, ?_, ⟨_, rfl⟩, ?_, upd_upd⟩
              · rw [List.length_map]; exact filt_len (by rw [singles_len]; decide)
              · rw [filt_yes (p := fun x => decide (x ∉ ws)) en c, List.map_append]; rfl
            · refine ⟨⟨_, rfl⟩, ?_, ?_⟩
              · rw [filt_no (p := fun x => decide (x ∉ ws)) en c]
              · rfl
          · rintro ys τ H8 ⟨_, rfl, rfl⟩
            have eT : singles.take letters.length = singles := List.take_of_length_le (by rw [singles_len]; decide)
            rw [eT]
            have hne := some_single (found := ws) (by omega)
            have hmm : ∀ y, y ∈ (singles.filter fun x => decide (x ∉ ws)) → NameS y ∧ y ∉ ws := fun y hy => by
              have := List.mem_filter.mp hy
              exact ⟨single_ok this.1, of_decide_eq_true this.2⟩
            generalize (singles.filter fun x => decide (x ∉ ws)) = L at hne hmm
            obtain ⟨y, r, rfl⟩ : ∃ y r, L = y :: r := by
              cases L with
              | nil => exact absurd rfl hne
              | cons y r => exact ⟨y, r, rfl⟩
            refine ⟨_, _, _, .str y, rfl, rfl, SqL.of upd_same, atI_at (by decide) rfl, ?_⟩
            exact hN _ _ ⟨y, rfl, Kp.new Kp.refl hB, (hmm y List.mem_cons_self).1, (hmm y List.mem_cons_self).2⟩
        · exact hN _ _ ⟨x, rfl, Kp.refl, NX, fun z => c (decide_eq_true z)⟩
        · rintro σ H8 ⟨y, rfl, K8, NY, ny⟩
          have h8 : Txs H8 l ws := K8 l _ h7 (by simp)
          refine ⟨_, rfl, .inl ⟨rfl, _, SqL.of h8⟩, _, rfl, _, _, _, rfl, rfl, h8, ?_, ?_⟩
          · rw [sizeLine_eq, List.length_map]; omega
          · refine ⟨_, _, _, ws ++ [y], rfl, (P8.kp K8 (by simp)).kp (M := [l]) (Kp.put Kp.refl (by simp)) (nm1 npl), Kp.new (K2.trans (K7.trans (K8.weak (by simp)))) fl, ?_, by simp [e2], ?_, fun s hs => ?_⟩
            · show upd H8 l _ l = some (.lst ((ws ++ [y]).map V.str))
              rw [upd_same, List.map_append]; rfl
            · refine List.nodup_append.mpr ⟨n2, by simp, fun a ha b hb => ?_⟩
              rw [List.mem_singleton.mp hb]
              rintro rfl
              exact ny ha
            · rcases List.mem_append.mp hs with z | z
              · exact q2 s z
              · rw [List.mem_singleton.mp z]; exact NY
    · rintro σ H2 ⟨o4, o5, o6, ws, rfl, P2, K2, R2, e2, n2, q2⟩
      exact ⟨_, rfl, k l ws H2 fl R2 e2 n2 q2 P2 K2⟩
end
end My
set_option Elab.async false
set_option linter.all false
set_option maxRecDepth 100000
set_option maxHeartbeats 4000000
namespace My
open PySem L2
theorem lt_big {n : Int} (h : n < 1000) : n < 10 ^ 100 := Int.lt_trans h (by decide +kernel)
theorem ifT {a b : Prop} (h : a) : (if true = true then a else b) := by rw [if_pos rfl]; exact h
theorem kp_drop {M : List Addr} {e : Addr} {H H1 H2 : Hp} (a : Kp M H H1) (f : Fre H e) (b : Kp [e] H1 H2) : Kp M H H2 := fun c o h n => b c o (a c o h n) (nm1 (ne_fre f h))
theorem bo_sorted : bootBuiltins "sorted" = some (.builtin "sorted") := by decide +kernel
theorem kit_ib {K : PySem.W.Frag} : PySem.W.kitOne K (.type "int") (.type "bool") = some false := by rfl
theorem thaw_kp {H H2 : Hp} {d : Addr} {kvs : List (Key × V)} (hd : H d = some (.dK kvs)) (k : Kp [d] H H2) : Kp [] H (upd H2 d (.dK kvs)) := fun c o h n => by
  by_cases e : c = d
  · subst e
    rw [hd] at h; cases h
    exact upd_same
  · rw [upd_ne e]; exact k c o h (nm1 e)
section
variable {P : Program} {w : World} {K : PySem.W.Frag} {mg : Str → Option Value} {base : Heap}
def spWhole : Sp := fun vs H Q _ => ∃ i : Int, vs = [.int i] ∧ Q (.bl true) H
abbrev s_is_whole : Stmt := top 7
theorem sc_is_whole : FnScope ["thing"] ["thing"] (defScope s_is_whole) := ⟨rfl, rfl, rfl, by decide +kernel, rfl, by decide +kernel, by decide +kernel⟩
theorem ok_is_whole {f : Addr} {fd : FuncData} (F : Fun K "is_whole" "is_whole" s_is_whole f fd) (T : Txt K mg) : FnOk P w K mg base CX0 1 f fd ["thing"] spWhole := by
  refine F.ok sc_is_whole (fun vs H Q E h => ?_) (fun cdv A outer s H vs Q E hr h => ?_)
  · obtain ⟨v, rfl, _⟩ := h
    rfl
  · obtain ⟨i, rfl, k⟩ := h
    refine ⟨_, (pss_one (ps_ret (pe_and (pe_callB call_isT (by rfl) T.z_isinstance bo_isinstance (pa_cons (pv 0) (pa_cons (pe_bltn (by rfl) T.z_int bo_int (v := .ty "int") rfl) pa_nil))) (pe_one (pe_not (pe_callB call_isT (by rfl) T.z_isinstance bo_isinstance (pa_cons (pv 0) (pa_cons (pe_bltn (by rfl) T.z_bool bo_bool (v := .ty "bool") rfl) pa_nil)))))))), ?_⟩
    refine ⟨_, rfl, _, _, _, _, rfl, TyOf.int i, kit_same, _, rfl, iteT ?_⟩
    exact ⟨_, rfl, _, _, _, _, rfl, TyOf.int i, kit_ib, _, rfl, k⟩
def spCheckB : Sp := fun vs H Q _ => ∃ i : Int, vs = [.int i] ∧ 1 ≤ i ∧ Q .non H
abbrev s_check_benches : Stmt := top 9
theorem sc_check_benches : FnScope ["benches"] ["benches"] (defScope s_check_benches) := ⟨rfl, rfl, rfl, by decide +kernel, rfl, by decide +kernel, by decide +kernel⟩
theorem ok_check_benches {f : Addr} {fd : FuncData} (F : Fun K "check_benches" "check_benches" s_check_benches f fd) (C_is_whole : Cal P w K mg base "is_whole" 1 ["thing"] spWhole) : FnOk P w K mg base CX0 2 f fd ["benches"] spCheckB := by
  refine F.ok sc_check_benches (fun vs H Q E h => ?_) (fun cdv A outer s H vs Q E hr h => ?_)
  · obtain ⟨v, rfl, _⟩ := h
    rfl
  · obtain ⟨i, rfl, hi, k⟩ := h
    have HR_is_whole := hr
    refine ⟨_, (pss_one (ps_if (PW.pt (pw_or (pt_not (pt_val (pe_callC C_is_whole HR_is_whole rfl (pa_cons (pv 0) pa_nil)))) (pw_or1 (pt_cmpR op_lt (pv 0) pe_int (nomark _)))))
        (pss_one ps_never)
        pss_nil)), ?_⟩
    refine ⟨_, rfl, i, rfl, _, rfl, iteF ?_⟩
    refine ⟨_, rfl, _, _, rfl, rfl, _, rfl, ?_⟩
    refine ite2 (fun c => ?_) (fun c => ?_)
    · have := of_decide_eq_true c
      omega
    · exact k
end
end My
set_option Elab.async false
set_option linter.all false
set_option maxRecDepth 100000
set_option maxHeartbeats 4000000
namespace My
open PySem L2
theorem kp_drop2 {H H1 H2 : Hp} {p d : Addr} (a : Kp [p] H H1) (f : Fre H d) (b : Kp [p, d] H1 H2) : Kp [p] H H2 := fun c o h n => b c o (a c o h n) (by
  have n1 : c ≠ p := fun e => n (by simp [e])
  have n2 := ne_fre f h
  simp [n1, n2])
theorem fre_back {H H' : Hp} {p d : Addr} (P : Purse H' p) (k : Kp [p] H H') (f : Fre H' d) : Fre H d := by
  cases z : H d with
  | none => exact z
  | some o =>
    by_cases c : d = p
    · subst c
      obtain ⟨x, y, e, _⟩ := P
      rw [show H' d = none from f] at e; cases e
    · have := k d o z (nm1 c)
      rw [show H' d = none from f] at this; cases this
theorem fre_old {H H' : Hp} {d : Addr} (k : Kp [] H H') (f : Fre H' d) : Fre H d := by
  cases z : H d with
  | none => exact z
  | some o => have := k d o z (by simp); rw [show H' d = none from f] at this; cases this
theorem nd_map {α β : Type} {f : α → β} (hf : ∀ a b, f a = f b → a = b) : ∀ {l : List α}, l.Nodup → (l.map f).Nodup
  | [], _ => List.nodup_nil
  | x :: l, h => by
    obtain ⟨h1, h2⟩ := List.nodup_cons.mp h
    rw [List.map_cons]
    refine List.nodup_cons.mpr ⟨fun z => ?_, nd_map hf h2⟩
    obtain ⟨y, hy, e⟩ := List.mem_map.mp z
    exact h1 (by rw [← hf _ _ e]; exact hy)
section
variable {P : Program} {w : World} {K : PySem.W.Frag} {mg : Str → Option Value} {base : Heap}
def spLBenches : Sp := fun vs H Q _ => ∃ p : Addr, vs = [.ref p] ∧ Purse H p ∧ ∀ (b : Int) (H' : Hp), 1 ≤ b → b < 10 ^ 60 → Purse H' p → Kp [p] H H' → Q (.int b) H'
abbrev s_benches : Stmt := top 23
theorem sc_benches : FnScope ["_law_purse_here"] ["_law_purse_here"] (defScope s_benches) := ⟨rfl, rfl, rfl, by decide +kernel, rfl, by decide +kernel, by decide +kernel⟩
theorem ok_benches {f : Addr} {fd : FuncData} (F : Fun K "_law_benches" "_law_benches" s_benches f fd) (C_take : Cal P w K mg base "_law_take" 1 ["_law_purse_here", "_law_many"] spTake) : FnOk P w K mg base CX0 2 f fd ["_law_purse_here"] spLBenches := by
  refine F.ok sc_benches (fun vs H Q E h => ?_) (fun cdv A outer s H vs Q E hr h => ?_)
  · obtain ⟨p, rfl, _⟩ := h
    rfl
  · obtain ⟨p, rfl, hP, k⟩ := h
    have HR_take := hr
    refine ⟨_, (pss_cons (ps_if (pt_cmpR op_eq (pe_callC C_take HR_take rfl (pa_cons (pv 0) (pa_cons pe_int pa_nil))) pe_int (nomark _))
        (pss_one (ps_ret (pe_op op_add pe_int (pe_callC C_take HR_take rfl (pa_cons (pv 0) (pa_cons (pe_op op_sub (pe_op op_pow pe_int pe_int) pe_int) pa_nil))))))
        pss_nil)
      (pss_one (ps_ret (pe_op op_add pe_int (pe_callC C_take HR_take rfl (pa_cons (pv 0) (pa_cons pe_int pa_nil))))))), ?_⟩
    refine ⟨_, rfl, p, 8, rfl, hP, by decide, by decide, fun d1 H1 a0 a1 P1 K1 => ?_⟩
    refine ⟨rfl, _, rfl, ?_⟩
    have t1 : (10 : Int) < 10 ^ 60 := by decide +kernel
    refine ite2 (fun c => ?_) (fun c => ?_)
    · refine ⟨_, rfl, _, _, rfl, rfl, ⟨by decide, by decide, by decide⟩, _, _, rfl, rfl, p, _, rfl, P1, by decide +kernel, by decide +kernel, fun d2 H2 b0 b1 P2 K2 => ?_⟩
      have b1 : d2 < 10 ^ 60 - 1 := b1
      exact ⟨_, _, rfl, rfl, k _ H2 (by omega) (by omega) P2 (K1.trans K2)⟩
    · refine ⟨_, rfl, p, 4, rfl, P1, by decide, by decide, fun d2 H2 b0 b1 P2 K2 => ?_⟩
      exact ⟨_, _, rfl, rfl, k _ H2 (by omega) (by omega) P2 (K1.trans K2)⟩
theorem val_of {k : Key} {v : V} : ∀ {kvs : List (Key × V)}, (kvs.map (·.1)).Nodup → (k, v) ∈ kvs → valV kvs k = some v
  | y :: r, nd, h => by
    obtain ⟨n1, n2⟩ := List.nodup_cons.mp nd
    show ((y :: r).find? fun kv => decide (kv.1 = k)).map (·.2) = some v
    rw [List.find?_cons]
    rcases List.mem_cons.mp h with z | z
    · subst z; simp
    · have : y.1 ≠ k := fun e => n1 (List.mem_map.mpr ⟨_, z, e.symm⟩)
      rw [decide_eq_false this]
      exact val_of n2 z
end
end My
set_option Elab.async false
set_option linter.all false
set_option maxRecDepth 100000
set_option maxHeartbeats 4000000
namespace My
open PySem L2
abbrev Wn := Str × Addr × Int × Int
def kvW (rs : List Wn) : List (Key × V) := rs.map fun r => (Sum.inr r.1, V.ref r.2.1)
structure WinAt (H : Hp) (d : Addr) (rs : List Wn) : Prop where
  top : H d = some (.dK (kvW rs))
  row : ∀ r ∈ rs, H r.2.1 = some (.tup [.int r.2.2.1, .int r.2.2.2])
structure WinOk (B : Nat) (rs : List Wn) : Prop where
  nd : (rs.map (·.1)).Nodup
  nm : ∀ r ∈ rs, NameS r.1
  bs : ∀ r ∈ rs, r.2.2.1.natAbs < B
  be : ∀ r ∈ rs, r.2.2.2.natAbs < B
  len : rs.length ≤ 20
theorem WinOk.mono {B B' : Nat} {rs : List Wn} (h : WinOk B rs) (l : B ≤ B') : WinOk B' rs := ⟨h.nd, h.nm, fun r hr => Nat.lt_of_lt_of_le (h.bs r hr) l, fun r hr => Nat.lt_of_lt_of_le (h.be r hr) l, h.len⟩
theorem kvW_keys (rs : List Wn) : (kvW rs).map (·.1) = (rs.map (·.1)).map Sum.inr := by simp [kvW]
theorem kvW_len (rs : List Wn) : (kvW rs).length = rs.length := by simp [kvW]
theorem kvW_at {rs : List Wn} {i : Nat} {k : Key} {v : V} (h : (kvW rs)[i]? = some (k, v)) : ∃ r, rs[i]? = some r ∧ k = Sum.inr r.1 ∧ v = .ref r.2.1 := by
  unfold kvW at h
  rw [List.getElem?_map] at h
  obtain ⟨r, e, q⟩ := Option.map_eq_some_iff.mp h
  cases q
  exact ⟨r, e, rfl, rfl⟩
theorem valW {rs : List Wn} (nd : (rs.map (·.1)).Nodup) {r : Wn} (hr : r ∈ rs) : valV (kvW rs) (Sum.inr r.1) = some (.ref r.2.1) := by
  refine val_of ?_ (by unfold kvW; exact List.mem_map.mpr ⟨r, hr, rfl⟩)
  rw [kvW_keys]
  exact nd_map (fun a b e => Sum.inr.inj e) nd
theorem WinAt.kp {M : List Addr} {H H' : Hp} {d : Addr} {rs : List Wn} (h : WinAt H d rs) (k : Kp M H H') (n : d ∉ M) (n' : ∀ r ∈ rs, r.2.1 ∉ M) : WinAt H' d rs :=
  ⟨k d _ h.top n, fun r hr => k _ _ (h.row r hr) (n' r hr)⟩
theorem WinAt.kp0 {H H' : Hp} {d : Addr} {rs : List Wn} (h : WinAt H d rs) (k : Kp [] H H') : WinAt H' d rs := h.kp k (by simp) (fun _ _ => by simp)
structure WinFz (H : Hp) (d : Addr) (o : Obj) (rs : List Wn) : Prop where
  top : H d = some (.frz o (.dK (kvW rs)))
  row : ∀ r ∈ rs, H r.2.1 = some (.tup [.int r.2.2.1, .int r.2.2.2])
theorem WinAt.fz {H : Hp} {d : Addr} {rs : List Wn} (h : WinAt H d rs) (o : Obj) : WinFz (upd H d (.frz o (.dK (kvW rs)))) d o rs :=
  ⟨upd_same, fun r hr => by
    rw [upd_ne (fun e => by have := h.row r hr; rw [e, h.top] at this; cases this)]
    exact h.row r hr⟩
theorem WinFz.kp0 {H H' : Hp} {d : Addr} {o : Obj} {rs : List Wn} (h : WinFz H d o rs) (k : Kp [] H H') : WinFz H' d o rs :=
  ⟨k d _ h.top (by simp), fun r hr => k _ _ (h.row r hr) (by simp)⟩
theorem WinFz.get {H : Hp} {d : Addr} {o : Obj} {rs : List Wn} (h : WinFz H d o rs) (nd : (rs.map (·.1)).Nodup) {r : Wn} (hr : r ∈ rs) : DGet H d (.str r.1) (some (.ref r.2.1)) :=
  .inl ⟨kvW rs, Sum.inr r.1, .inr ⟨o, h.top⟩, rfl, (valW nd hr).symm⟩
theorem WinAt.get {H : Hp} {d : Addr} {rs : List Wn} (h : WinAt H d rs) (nd : (rs.map (·.1)).Nodup) {r : Wn} (hr : r ∈ rs) : DGet H d (.str r.1) (some (.ref r.2.1)) :=
  .inl ⟨kvW rs, Sum.inr r.1, .inl h.top, rfl, (valW nd hr).symm⟩
def mx (a : Int) : Int := if 0 > a then 0 else a
def inW (s e : Int) (q : Int × Int) : Bool := decide (s ≤ q.1) && decide (q.2 ≤ e)
def crowdP (b : Int) (ps : List (Int × Int)) : Bool := ps.any fun r => ps.any fun q => decide (((ps.filter (inW r.1 q.2)).length : Int) > b * mx (q.2 - r.1 + 1))
def rowW (rs : List Wn) (s e : Int) : List Wn := rs.filter fun r => inW s e r.2.2
def crowdB (b : Int) (rs : List Wn) : Bool := crowdP b (rs.map (·.2.2))
theorem rowW_len (rs : List Wn) (s e : Int) : (rowW rs s e).length = ((rs.map (·.2.2)).filter (inW s e)).length := by
  unfold rowW
  rw [List.filter_map, List.length_map]; rfl
def condB (b : Int) (rs : List Wn) (r q : Wn) : Bool := decide (((rowW rs r.2.2.1 q.2.2.2).length : Int) > b * mx (q.2.2.2 - r.2.2.1 + 1))
def firstC (b : Int) (rs : List Wn) : Option (Int × Int) := rs.findSome? fun r => (rs.find? (condB b rs r)).map fun q => (r.2.2.1, q.2.2.2)
theorem parts_at {α : Type} {l : List α} {i : Nat} {x : α} (h : l[i]? = some x) : l = l.take i ++ x :: l.drop (i + 1) := by
  have hi := (List.getElem?_eq_some_iff.mp h).1
  have e := (List.getElem?_eq_some_iff.mp h).2
  rw [← e, ← List.drop_eq_getElem_cons hi, List.take_append_drop]
theorem find_at {α : Type} {p : α → Bool} {l : List α} {i : Nat} {x : α} (h : l[i]? = some x) (no : ∀ y ∈ l.take i, ¬ p y = true) (hx : p x = true) : l.find? p = some x := by
  rw [parts_at h, List.find?_append, List.find?_eq_none.mpr no, List.find?_cons, hx]; rfl
theorem findSome_at {α β : Type} {f : α → Option β} {l : List α} {i : Nat} {x : α} {y : β} (h : l[i]? = some x) (no : ∀ z ∈ l.take i, f z = none) (hx : f x = some y) : l.findSome? f = some y := by
  rw [parts_at h, List.findSome?_append, List.findSome?_eq_none_iff.mpr no, List.findSome?_cons, hx]; rfl
theorem firstC_none {b : Int} {rs : List Wn} (h : ∀ r ∈ rs, ∀ q ∈ rs, ¬ (((rowW rs r.2.2.1 q.2.2.2).length : Int) > b * mx (q.2.2.2 - r.2.2.1 + 1))) : firstC b rs = none := by
  unfold firstC
  refine List.findSome?_eq_none_iff.mpr fun r hr => ?_
  rw [(List.find?_eq_none (p := condB b rs r)).mpr fun q hq z => h r hr q hq (of_decide_eq_true z)]; rfl
theorem firstC_some {b : Int} {rs : List Wn} {i j : Nat} {r q : Wn} (hi : rs[i]? = some r) (hj : rs[j]? = some q) (n1 : ∀ r' ∈ rs.take i, ∀ q' ∈ rs, ¬ (((rowW rs r'.2.2.1 q'.2.2.2).length : Int) > b * mx (q'.2.2.2 - r'.2.2.1 + 1))) (n2 : ∀ q' ∈ rs.take j, ¬ (((rowW rs r.2.2.1 q'.2.2.2).length : Int) > b * mx (q'.2.2.2 - r.2.2.1 + 1))) (c : ((rowW rs r.2.2.1 q.2.2.2).length : Int) > b * mx (q.2.2.2 - r.2.2.1 + 1)) : firstC b rs = some (r.2.2.1, q.2.2.2) := by
  unfold firstC
  refine findSome_at hi (fun z hz => ?_) ?_
  · rw [(List.find?_eq_none (p := condB b rs z)).mpr fun q hq y => n1 z hz q hq (of_decide_eq_true y)]; rfl
  · rw [find_at (p := condB b rs r) hj (fun y hy z => n2 y hy (of_decide_eq_true z)) (decide_eq_true c)]; rfl
theorem firstC_is {b : Int} {rs : List Wn} {s e : Int} (h : firstC b rs = some (s, e)) : ((rowW rs s e).length : Int) > b * mx (e - s + 1) := by
  unfold firstC at h
  obtain ⟨r, _, h⟩ := List.exists_of_findSome?_eq_some h
  obtain ⟨q, hq, z⟩ := Option.map_eq_some_iff.mp h
  cases z
  have := List.find?_some hq
  exact of_decide_eq_true this
theorem firstC_crowd {b : Int} {rs : List Wn} (h : firstC b rs = none) : crowdB b rs = false := by
  cases z : crowdB b rs with
  | false => rfl
  | true =>
    unfold crowdB crowdP at z
    rw [List.any_eq_true] at z
    obtain ⟨p, hp, z⟩ := z
    rw [List.any_eq_true] at z
    obtain ⟨p', hp', z⟩ := z
    obtain ⟨r, hr, rfl⟩ := List.mem_map.mp hp
    obtain ⟨q, hq, rfl⟩ := List.mem_map.mp hp'
    have z := of_decide_eq_true z
    rw [← rowW_len] at z
    have h1 := List.findSome?_eq_none_iff.mp h r hr
    have h2 := List.find?_eq_none.mp (Option.map_eq_none_iff.mp h1) q hq
    exact absurd (decide_eq_true z) h2
section
variable {P : Program} {w : World} {K : PySem.W.Frag} {mg : Str → Option Value} {base : Heap}
def spIsWin : Sp := fun vs H Q _ => ∃ (a : Addr) (x y : Int), vs = [.ref a] ∧ H a = some (.tup [.int x, .int y]) ∧ ∀ H', Kp [] H H' → Q (.bl true) H'
abbrev s_is_window : Stmt := top 13
theorem sc_is_window : FnScope ["thing"] ["thing"] (defScope s_is_window) := ⟨rfl, rfl, rfl, by decide +kernel, rfl, by decide +kernel, by decide +kernel⟩
theorem ok_is_window {f : Addr} {fd : FuncData} (F : Fun K "is_window" "is_window" s_is_window f fd) (T : Txt K mg) (C_is_whole : Cal P w K mg base "is_whole" 1 ["thing"] spWhole) : FnOk P w K mg base CX0 2 f fd ["thing"] spIsWin := by
  refine F.ok sc_is_window (fun vs H Q E h => ?_) (fun cdv A outer s H vs Q E hr h => ?_)
  · obtain ⟨a, x, y, rfl, _⟩ := h
    rfl
  · obtain ⟨a, x, y, rfl, ha, k⟩ := h
    have HR_is_whole := hr
    refine ⟨_, (pss_one (ps_ret (pe_and (pe_callB call_isT (by rfl) T.z_isinstance bo_isinstance (pa_cons (pv 0) (pa_cons (pe_bltn (by rfl) T.z_tuple bo_tuple (v := .ty "tuple") rfl) pa_nil))) (pe_and (pe_cmpR op_eq (pe_callB call_len_seq (by rfl) T.z_len bo_len (pa_cons (pv 0) pa_nil)) pe_int (nomark _)) (pe_one (pe_callB (call_all _ rfl) (by rfl) T.z_all bo_all (pa_cons (pe_comp rfl (blk_mk (sc := defScope s_is_window) rfl (by decide +kernel)) (Draws.own (x := "part") Draws.nil) (pi_tup (pv 0)) (fun C s₀ H₀ ex => (pg_name (i := 0) (show List.Nodup (["part"] : List Str) by decide +kernel) rfl (by walk_at "lc"))) (fun C s₀ H₀ ex => pts_nil) (fun C s₀ H₀ ex => (pe_callC C_is_whole HR_is_whole rfl (pa_cons (pv 0) pa_nil)))) pa_nil))))))), ?_⟩
    refine ⟨_, rfl, _, _, _, _, rfl, TyOf.tup ha, kit_same, _, rfl, iteT ?_⟩
    refine ⟨_, rfl, _, _, rfl, .inr (SqT.of ha), rfl, _, rfl, iteT ?_⟩
    refine ⟨_, rfl, _, rfl, ⟨_, SqT.of ha⟩, fun D hD => comp_tup [.int x, .int y] (fun i ys τ H4 => (∃ o0, τ = [o0]) ∧ ys = List.replicate i (.bl true) ∧ H4 = upd H D (.lst ys)) ⟨⟨_, rfl⟩, rfl, rfl⟩ (fun i ys τ H4 ⟨_, _, z⟩ => by subst z; exact SqT.of ((Kp.new (M := []) Kp.refl hD) _ _ ha (by simp))) ?_ ?_⟩
    · rintro i v ys τ H4 hv ⟨⟨o0, rfl⟩, rfl, rfl⟩
      have hi : i < 2 := (List.getElem?_eq_some_iff.mp hv).1
      obtain ⟨z, rfl⟩ : ∃ z, v = .int z := by
        match i, hv with
        | 0, hv => cases hv; exact ⟨x, rfl⟩
        | 1, hv => cases hv; exact ⟨y, rfl⟩
        | n + 2, hv => simp at hv
      unfold gName tTrue
      refine ifT ⟨_, rfl, z, rfl, upd_same, by rw [List.length_replicate, sizeLine_eq]; omega, ⟨_, rfl⟩, by rw [List.replicate_succ'], upd_upd⟩
    · rintro ys τ H4 ⟨_, rfl, rfl⟩
      exact ⟨D, [true, true], rfl, SqL.of upd_same, k _ (Kp.new Kp.refl hD)⟩
def spCheckW : Sp := fun vs H Q _ => ∃ (d : Addr) (rs : List Wn) (B : Nat), vs = [.ref d] ∧ WinAt H d rs ∧ WinOk B rs ∧ ∀ H', Kp [] H H' → Q .non H'
abbrev s_check_windows : Stmt := top 12
theorem sc_check_windows : FnScope ["windows", "name", "window"] ["windows"] (defScope s_check_windows) := ⟨rfl, rfl, rfl, by decide +kernel, rfl, by decide +kernel, by decide +kernel⟩
theorem ok_check_windows {f : Addr} {fd : FuncData} (F : Fun K "check_windows" "check_windows" s_check_windows f fd) (T : Txt K mg) (C_is_name : Cal P w K mg base "is_name" 1 ["thing"] spIsName) (C_is_window : Cal P w K mg base "is_window" 2 ["thing"] spIsWin) : FnOk P w K mg base CX0 3 f fd ["windows"] spCheckW := by
  refine F.ok sc_check_windows (fun vs H Q E h => ?_) (fun cdv A outer s H vs Q E hr h => ?_)
  · obtain ⟨d, rs, B, rfl, _⟩ := h
    rfl
  · obtain ⟨d, rs, B, rfl, hd, ok, k⟩ := h
    have HR_is_window := hr
    have HR_is_name := hr.mono (j := 1) (by decide)
    obtain ⟨tL, hL⟩ := T.c_MOST_WINDOWS
    refine ⟨_, (pss_cons (ps_if (pt_cmpR op_gt (pe_callB call_lenD (by rfl) T.z_len bo_len (pa_cons (pv 0) pa_nil)) (pe_glob rfl hL (v := .int 20) ⟨_, rfl⟩) (nomark _))
        (pss_one ps_never)
        pss_nil)
      (pss_one (ps_frz (ps_for PassesOwn.never rfl (pi_items (pv 0)) (pg_tup rfl (pgs_cons (pg_name (i := 1) sc_check_windows.nd rfl (by walk_at "lc")) (pgs_cons (pg_name (i := 2) sc_check_windows.nd rfl (by walk_at "lc")) pgs_nil)))
        (pss_cons (ps_if (pt_not (pt_val (pe_callC C_is_name HR_is_name rfl (pa_cons (pv 1) pa_nil))))
          (pss_one ps_never)
          pss_nil)
        (pss_one (ps_if (pt_not (pt_val (pe_callC C_is_window HR_is_window rfl (pa_cons (pv 2) pa_nil))))
          (pss_one ps_never)
          pss_nil))))))), ?_⟩
    refine ⟨_, rfl, _, _, rfl, hd.top, _, _, rfl, rfl, _, rfl, ?_⟩
    refine ite2 (fun c => ?_) (fun c => ?_)
    · have := of_decide_eq_true c
      have := ok.len
      rw [kvW_len] at *
      omega
    refine ⟨d, kvW rs, hd.top, fun o => ?_⟩
    have Z0 := hd.fz o
    have kf : Kp [d] H (upd H d (.frz o (.dK (kvW rs)))) := Kp.put Kp.refl (by simp)
    refine ⟨_, rfl, d, o, kvW rs, rfl, upd_same, for_items (fun i σ H2 => (∃ o1 o2, σ = [some (.ref d), o1, o2]) ∧ Kp [d] H H2 ∧ WinFz H2 d o rs) ⟨⟨_, _, rfl⟩, kf, Z0⟩ (fun i σ H2 _ h => h.2.2.top) ?_ ?_⟩
    · rintro i kk v σ H2 t hv ⟨⟨o1, o2, rfl⟩, k2, Z2⟩ ht
      have ft : Fre H2 t := ht
      obtain ⟨r, ei, rfl, rfl⟩ := kvW_at hv
      have mr : r ∈ rs := List.mem_of_getElem? ei
      have kt : Kp [] H2 (upd H2 t (.tup [kV (Sum.inr r.1), .ref r.2.1])) := Kp.new Kp.refl ft
      refine ⟨_, _, rfl, .inl (.inl upd_same), rfl, _, _, rfl, _, _, rfl, rfl, ?_⟩
      have Z3 := Z2.kp0 kt
      have k3 : Kp [d] H (upd H2 t (.tup [kV (Sum.inr r.1), .ref r.2.1])) := k2.trans (kt.weak (by simp))
      generalize upd H2 t (.tup [kV (Sum.inr r.1), .ref r.2.1]) = H3 at k3 Z3
      refine ⟨_, rfl, r.1, rfl, by have := (ok.nm _ mr).2.1; omega, fun H4 k4 => ?_⟩
      rw [(nameB_iff r.1).mpr (ok.nm _ mr)]
      refine ⟨_, rfl, iteF ?_⟩
      have Z4 := Z3.kp0 k4
      refine ⟨_, rfl, r.2.1, _, _, rfl, Z4.row r mr, fun H5 k5 => ?_⟩
      exact ⟨_, rfl, iteF ⟨⟨_, _, rfl⟩, k3.trans ((k4.trans k5).weak (by simp)), Z4.kp0 k5⟩⟩
    · rintro σ H2 ⟨⟨o1, o2, rfl⟩, k2, Z2⟩
      exact ⟨Z2.top, k _ (thaw_kp hd.top k2)⟩
theorem fre_dict {H H' : Hp} {d a : Addr} {o o' : HO} (hd : H d = some o) (k : Kp [d] H H') (hd' : H' d = some o') (f : Fre H' a) : Fre H a := by
  cases z : H a with
  | none => exact z
  | some o2 =>
    by_cases c : a = d
    · rw [← c, show H' a = none from f] at hd'; cases hd'
    · have := k a o2 z (nm1 c)
      rw [show H' a = none from f] at this; cases this
def spFind : Sp := fun vs H Q _ => ∃ (b : Int) (d : Addr) (rs : List Wn), vs = [.int b, .ref d] ∧ WinAt H d rs ∧ WinOk (10 ^ 80) rs ∧ 1 ≤ b ∧ b < 10 ^ 80 ∧
  (firstC b rs = none → ∀ H', Kp [] H H' → Q .non H') ∧
  (∀ s e : Int, firstC b rs = some (s, e) → ∀ (t l : Addr) (H' : Hp), Kp [] H H' → H' t = some (.tup [.str "crowd", .int s, .int e, .ref l]) → H' l = some (.lst ((rowW rs s e).map fun r => V.str r.1)) → Fre H l → Q (.ref t) H')
abbrev s_find_crowd : Stmt := top 15
theorem sc_find_crowd : FnScope ["benches", "windows", "start", "end", "row"] ["benches", "windows"] (defScope s_find_crowd) := ⟨rfl, rfl, rfl, by decide +kernel, rfl, by decide +kernel, by decide +kernel⟩
theorem mx_big {s e : Int} (hs : s.natAbs < 10 ^ 80) (he : e.natAbs < 10 ^ 80) : (mx (e - s + 1)).natAbs < 10 ^ 100 := by
  have t : 2 * (10 : Nat) ^ 80 + 1 < 10 ^ 100 := by decide +kernel
  unfold mx
  split <;> omega
theorem b_big {b : Int} (h1 : 1 ≤ b) (h2 : b < 10 ^ 80) : b.natAbs < 10 ^ 100 := by
  have t : (10 : Int) ^ 80 < 10 ^ 100 := by decide +kernel
  omega
theorem int_at {ns : List Int} {i : Nat} {v : V} (h : (ns.map V.int)[i]? = some v) : ∃ n, ns[i]? = some n ∧ v = .int n := by
  rw [List.getElem?_map] at h
  obtain ⟨n, e, r⟩ := Option.map_eq_some_iff.mp h
  exact ⟨n, e, r.symm⟩
theorem ok_find_crowd {f : Addr} {fd : FuncData} (F : Fun K "find_crowd" "find_crowd" s_find_crowd f fd) (T : Txt K mg) : FnOk P w K mg base CX0 1 f fd ["benches", "windows"] spFind := by
  refine F.ok sc_find_crowd (fun vs H Q E h => ?_) (fun cdv A outer s H vs Q E hr h => ?_)
  · obtain ⟨b, d, rs, rfl, _⟩ := h
    rfl
  · obtain ⟨b, d, rs, rfl, hd, ok, b1, b2, kN, kC⟩ := h
    have hu := hu_of hr
    refine ⟨_, (pss_cons (ps_frz (ps_for PassesOwn.never rfl (pi_list (pe_comp rfl (blk_mk (sc := defScope s_find_crowd) rfl (by decide +kernel)) (Draws.own (x := "window") Draws.nil) (pi_vals (pv 1)) (fun C s₀ H₀ ex => (pg_name (i := 0) (show List.Nodup (["window"] : List Str) by decide +kernel) rfl (by walk_at "lc"))) (fun C s₀ H₀ ex => pts_nil) (fun C s₀ H₀ ex => (pe_ix (ix_tupK (K := K)) (pv 0) pe_int (fun _ _ => rfl))))) (pg_name (i := 2) sc_find_crowd.nd rfl (by walk_at "lc"))
        (pss_one (ps_for PassesOwn.never rfl (pi_list (pe_comp rfl (blk_mk (sc := defScope s_find_crowd) rfl (by decide +kernel)) (Draws.own (x := "window") Draws.nil) (pi_vals (pv 1)) (fun C s₀ H₀ ex => (pg_name (i := 0) (show List.Nodup (["window"] : List Str) by decide +kernel) rfl (by walk_at "lc"))) (fun C s₀ H₀ ex => pts_nil) (fun C s₀ H₀ ex => (pe_ix (ix_tupK (K := K)) (pv 0) pe_int (fun _ _ => rfl))))) (pg_name (i := 3) sc_find_crowd.nd rfl (by walk_at "lc"))
          (pss_cons (ps_comp (i := 4) rfl (blk_mk (sc := defScope s_find_crowd) rfl (by decide +kernel)) (Draws.own (x := "name") (Draws.tk (i := 2) rfl (by walk_at "vs") (by walk_at "vk") (by walk_at "vf") (Draws.tk (i := 3) rfl (by walk_at "vs") (by walk_at "vk") (by walk_at "vf") (Draws.tk (i := 1) rfl (by walk_at "vs") (by walk_at "vk") (by walk_at "vf") Draws.nil)))) (pi_keys (pv 1)) (fun C s₀ H₀ ex => (pg_name (i := 0) (show List.Nodup (["name", "start", "end", "windows"] : List Str) by decide +kernel) rfl (by walk_at "lc"))) (fun C s₀ H₀ ex => (pts_one (PW.pt (pw_and (pt_cmpR op_le (pv 1) (pe_ix (ix_tupK (K := K)) (pe_dget hu (pv 3) (pv 0) (fun _ _ => rfl)) pe_int (fun _ _ => rfl)) (nomark _)) (pw_and1 (pt_cmpR op_le (pe_ix (ix_tupK (K := K)) (pe_dget hu (pv 3) (pv 0) (fun _ _ => rfl)) pe_int (fun _ _ => rfl)) (pv 2) (nomark _))))))) (fun C s₀ H₀ ex => (pv 0)) sc_find_crowd.nd rfl rfl)
          (pss_one (ps_if (pt_cmpR op_gt (pe_callB call_len_seq (by rfl) T.z_len bo_len (pa_cons (pv 4) pa_nil)) (pe_op op_mulB (pv 0) (pe_callB (call_max2 rfl) (by rfl) T.z_max bo_max (pa_cons (pe_op op_add (pe_op op_sub (pv 3) (pv 2)) pe_int) (pa_cons pe_int pa_nil)))) (nomark _))
            (pss_one (ps_ret (pe_tup (pa_cons pe_str (pa_cons (pv 2) (pa_cons (pv 3) (pa_cons (pv 4) pa_nil)))))))
            pss_nil)))))))
      (pss_one (ps_ret pe_non))), ?_⟩
    refine ⟨d, kvW rs, hd.top, fun o => ?_⟩
    have Z0 := hd.fz o
    have kf : Kp [d] H (upd H d (.frz o (.dK (kvW rs)))) := Kp.put Kp.refl (by simp)
    generalize upd H d (.frz o (.dK (kvW rs))) = H1 at kf Z0
    have rl := ok.len
    have vals : ∀ (j : Int) (hj : j = 0 ∨ j = 1) (H2 : Hp) (Z2 : WinFz H2 d o rs) (D : Addr) (hD : H2 D = none) (QD : Hp → Prop), (∀ H3, Kp [] H2 H3 → H3 D = some (.lst ((rs.map fun r => if j = 0 then r.2.2.1 else r.2.2.2).map V.int)) → QD H3) →
        ∀ {ix : List (Option Nat)} {σ : St} (hix : (blkSt σ ix).length = 1), ∃ W : Nat → Nat → List V → St → Hp → Prop, (∃ m, W 0 m [] (blkSt σ ix) (upd H2 D (.lst []))) ∧ ∀ i m ys τ H3, W i m ys τ H3 →
          ((Itv d o (kvW rs)).stop i H3 ∧ QD H3) ∨ ((Itv d o (kvW rs)).go i H3 ∧ ∃ N : List V → St → Hp → Prop, (∀ ys' τ' H', N ys' τ' H' → ∃ m', m' < m ∧ W (i + 1) m' ys' τ' H') ∧ ∀ x H4, (Itv d o (kvW rs)).yld i H3 x H4 → gName 0 x τ H4 fun τ' H5 => tTrue τ' H5 fun b H6 =>
            if b = true then (tOp (rIxT K) (tVar 0) (tC (.int j))) τ' H6 fun v H7 => H7 D = some (.lst ys) ∧ ys.length < sizeLine ∧ N (ys ++ [v]) τ' (upd H7 D (.lst (ys ++ [v]))) else N ys τ' H6) := by
      intro j hj H2 Z2 D hD QD hQ ix σ hix
      refine comp_vals (fun i ys τ H3 => (∃ o0, τ = [o0]) ∧ ys = (((rs.map fun r => if j = 0 then r.2.2.1 else r.2.2.2).take i).map V.int) ∧ H3 = upd H2 D (.lst ys)) ⟨?_, rfl, rfl⟩ (fun i ys τ H3 ⟨_, _, z⟩ => by subst z; exact (Kp.new (M := []) Kp.refl hD) _ _ Z2.top (by simp)) ?_ ?_
      · match h : blkSt σ ix, hix with
        | [a], _ => exact ⟨a, rfl⟩
      · rintro i kk v ys τ H3 hv ⟨⟨o0, rfl⟩, rfl, rfl⟩
        obtain ⟨r, ei, rfl, rfl⟩ := kvW_at hv
        have mr : r ∈ rs := List.mem_of_getElem? ei
        have il := (List.getElem?_eq_some_iff.mp ei).1
        have hr3 := (Kp.new (M := []) (l := D) (o := .lst ((((rs.map fun r => if j = 0 then r.2.2.1 else r.2.2.2).take i).map V.int))) Kp.refl hD) _ _ (Z2.row r mr) (by simp)
        unfold gName tTrue
        refine ifT ⟨_, rfl, _, _, _, (if j = 0 then .int r.2.2.1 else .int r.2.2.2), rfl, rfl, SqT.of hr3, by rcases hj with rfl | rfl <;> rfl, upd_same, by rw [List.length_map, List.length_take, sizeLine_eq]; omega, ⟨_, rfl⟩, ?_, upd_upd⟩
        rw [take_snoc (x := if j = 0 then r.2.2.1 else r.2.2.2) (by rw [List.getElem?_map, ei]; rfl), List.map_append]
        rcases hj with rfl | rfl <;> rfl
      · rintro ys τ H3 ⟨_, rfl, rfl⟩
        have eT : (rs.map fun r => if j = 0 then r.2.2.1 else r.2.2.2).take (kvW rs).length = rs.map fun r => if j = 0 then r.2.2.1 else r.2.2.2 := List.take_of_length_le (by rw [kvW_len, List.length_map]; exact Nat.le_refl _)
        rw [eT]
        exact hQ _ (Kp.new Kp.refl hD) upd_same
    refine ⟨_, rfl, d, o, kvW rs, rfl, Z0.top, fun D hD => vals 0 (.inl rfl) H1 Z0 D hD _ (fun H2 k2 hD2 => ?_) rfl⟩
    have Z2 := Z0.kp0 k2
    rw [show (rs.map fun r => if (0 : Int) = 0 then r.2.2.1 else r.2.2.2) = rs.map (fun r => r.2.2.1) from rfl] at hD2
    have K2 : Kp [d] H H2 := kf.trans (k2.weak (by simp))
    refine ⟨_, rfl, ⟨_, SqL.of hD2⟩, for_list (xs := (rs.map fun r => r.2.2.1).map V.int) (fun i σ H3 => (∃ o2 o3 o4, σ = [some (.int b), some (.ref d), o2, o3, o4]) ∧ Kp [] H2 H3 ∧ ∀ r ∈ rs.take i, ∀ q ∈ rs, ¬ (((rowW rs r.2.2.1 q.2.2.2).length : Int) > b * mx (q.2.2.2 - r.2.2.1 + 1))) ⟨⟨_, _, _, rfl⟩, Kp.refl, fun r hr => by simp at hr⟩ (fun i σ H3 _ ⟨_, k3, _⟩ => SqL.of (k3 D _ hD2 (by simp))) ?_ ?_⟩
    · rintro i v σ H3 hv ⟨⟨o2, o3, o4, rfl⟩, k3, no3⟩
      obtain ⟨s1, es, rfl⟩ := int_at hv
      rw [List.getElem?_map] at es
      obtain ⟨r, er, rfl⟩ := Option.map_eq_some_iff.mp es
      have mr : r ∈ rs := List.mem_of_getElem? er
      have Z3 := Z2.kp0 k3
      refine ⟨_, rfl, d, o, kvW rs, rfl, Z3.top, fun D2 hD2' => vals 1 (.inr rfl) H3 Z3 D2 hD2' _ (fun H4 k4 hD4 => ?_) rfl⟩
      rw [show (rs.map fun r => if (1 : Int) = 0 then r.2.2.1 else r.2.2.2) = rs.map (fun r => r.2.2.2) from rfl] at hD4
      refine ⟨_, rfl, ⟨_, SqL.of hD4⟩, for_list (xs := (rs.map fun r => r.2.2.2).map V.int) (fun j σ H5 => (∃ o3 o4, σ = [some (.int b), some (.ref d), some (.int r.2.2.1), o3, o4]) ∧ Kp [] H4 H5 ∧ ∀ q ∈ rs.take j, ¬ (((rowW rs r.2.2.1 q.2.2.2).length : Int) > b * mx (q.2.2.2 - r.2.2.1 + 1))) ⟨⟨_, _, rfl⟩, Kp.refl, fun r hr => by simp at hr⟩ (fun i σ H5 _ ⟨_, k5, _⟩ => SqL.of (k5 D2 _ hD4 (by simp))) ?_ ?_⟩
      · rintro j v σ H5 hv ⟨⟨o3, o4, rfl⟩, k5, no5⟩
        obtain ⟨e1, ee, rfl⟩ := int_at hv
        rw [List.getElem?_map] at ee
        obtain ⟨q, eq, rfl⟩ := Option.map_eq_some_iff.mp ee
        have mq : q ∈ rs := List.mem_of_getElem? eq
        have Z5 := (Z3.kp0 k4).kp0 k5
        refine ⟨_, rfl, d, o, kvW rs, rfl, Z5.top, fun B hB => comp_keys (fun m ys τ H6 => (∃ o0, τ = [o0, some (.int r.2.2.1), some (.int q.2.2.2), some (.ref d)]) ∧ ys = ((rs.take m).filter (fun z => inW r.2.2.1 q.2.2.2 z.2.2)).map (fun z => V.str z.1) ∧ H6 = upd H5 B (.lst ys)) ⟨⟨_, rfl⟩, rfl, rfl⟩ (fun m ys τ H6 ⟨_, _, z⟩ => by subst z; exact (Kp.new (M := []) Kp.refl hB) _ _ Z5.top (by simp)) ?_ ?_⟩
        · rintro m kk v ys τ H6 hv ⟨⟨o0, rfl⟩, rfl, rfl⟩
          obtain ⟨z, ez, rfl, rfl⟩ := kvW_at hv
          have mz : z ∈ rs := List.mem_of_getElem? ez
          have Z6 := Z5.kp0 (Kp.new (M := []) (l := B) (o := .lst (((rs.take m).filter (fun z => inW r.2.2.1 q.2.2.2 z.2.2)).map (fun z => V.str z.1))) Kp.refl hB)
          have fin : ∀ c : Bool, c = inW r.2.2.1 q.2.2.2 z.2.2 → (if c = true then (upd H5 B (.lst (((rs.take m).filter (fun z => inW r.2.2.1 q.2.2.2 z.2.2)).map (fun z => V.str z.1)))) B = some (.lst (((rs.take m).filter (fun z => inW r.2.2.1 q.2.2.2 z.2.2)).map (fun z => V.str z.1))) ∧ (((rs.take m).filter (fun z => inW r.2.2.1 q.2.2.2 z.2.2)).map (fun z => V.str z.1)).length < sizeLine ∧ ((∃ o0, ([some (V.str z.1), some (.int r.2.2.1), some (.int q.2.2.2), some (.ref d)] : St) = [o0, some (.int r.2.2.1), some (.int q.2.2.2), some (.ref d)]) ∧ ((rs.take m).filter (fun z => inW r.2.2.1 q.2.2.2 z.2.2)).map (fun z => V.str z.1) ++ [V.str z.1] = ((rs.take (m + 1)).filter (fun z => inW r.2.2.1 q.2.2.2 z.2.2)).map (fun z => V.str z.1) ∧ upd (upd H5 B (.lst (((rs.take m).filter (fun z => inW r.2.2.1 q.2.2.2 z.2.2)).map (fun z => V.str z.1)))) B (.lst (((rs.take m).filter (fun z => inW r.2.2.1 q.2.2.2 z.2.2)).map (fun z => V.str z.1) ++ [V.str z.1])) = upd H5 B (.lst (((rs.take m).filter (fun z => inW r.2.2.1 q.2.2.2 z.2.2)).map (fun z => V.str z.1) ++ [V.str z.1])))
              else ((∃ o0, ([some (V.str z.1), some (.int r.2.2.1), some (.int q.2.2.2), some (.ref d)] : St) = [o0, some (.int r.2.2.1), some (.int q.2.2.2), some (.ref d)]) ∧ ((rs.take m).filter (fun z => inW r.2.2.1 q.2.2.2 z.2.2)).map (fun z => V.str z.1) = ((rs.take (m + 1)).filter (fun z => inW r.2.2.1 q.2.2.2 z.2.2)).map (fun z => V.str z.1) ∧ upd H5 B (.lst (((rs.take m).filter (fun z => inW r.2.2.1 q.2.2.2 z.2.2)).map (fun z => V.str z.1))) = upd H5 B (.lst (((rs.take m).filter (fun z => inW r.2.2.1 q.2.2.2 z.2.2)).map (fun z => V.str z.1))))) := fun c hc => by
            subst hc
            refine ite2 (fun c => ⟨upd_same, by rw [List.length_map]; exact filt_len (by omega), ⟨_, rfl⟩, ?_, upd_upd⟩) (fun c => ⟨⟨_, rfl⟩, ?_, rfl⟩)
            · rw [filt_yes ez c, List.map_append]; rfl
            · rw [filt_no ez c]
          refine ⟨_, rfl, _, rfl, _, rfl, d, _, rfl, Z6.get ok.nd mz, _, _, _, _, rfl, rfl, SqT.of (Z6.row z mz), rfl, _, _, rfl, rfl, _, rfl, ?_⟩
          refine ite2 (fun c => ?_) (fun c => ?_)
          · refine ⟨_, rfl, _, rfl, d, _, rfl, Z6.get ok.nd mz, _, _, _, _, rfl, rfl, SqT.of (Z6.row z mz), rfl, _, rfl, _, _, rfl, rfl, _, rfl, ?_⟩
            have h1 : decide (r.2.2.1 ≤ z.2.2.1) = true := c
            have := fin (decide (z.2.2.2 ≤ q.2.2.2)) (by unfold inW; rw [h1]; rfl)
            refine ite2 (fun c2 => ?_) (fun c2 => ?_)
            · rw [if_pos c2] at this
              exact ⟨_, rfl, this⟩
            · rw [if_neg c2] at this
              exact this
          · have h1 : decide (r.2.2.1 ≤ z.2.2.1) = false := by
              cases h : decide (r.2.2.1 ≤ z.2.2.1) with
              | true => exact absurd h c
              | false => rfl
            have := fin false (by unfold inW; rw [h1]; rfl)
            rw [if_neg (by simp)] at this
            exact this
        · rintro ys τ H6 ⟨_, rfl, rfl⟩
          have eT : rs.take (kvW rs).length = rs := by rw [kvW_len, List.take_length]
          rw [eT]
          have fB : Fre H5 B := hB
          have kB : Kp [] H5 (upd H5 B (.lst ((rowW rs r.2.2.1 q.2.2.2).map fun z => V.str z.1))) := Kp.new Kp.refl fB
          have eB : upd H5 B (.lst ((rowW rs r.2.2.1 q.2.2.2).map fun z => V.str z.1)) B = some (.lst ((rowW rs r.2.2.1 q.2.2.2).map fun z => V.str z.1)) := upd_same
          have Z6 := Z5.kp0 kB
          generalize hH6 : upd H5 B (.lst ((rowW rs r.2.2.1 q.2.2.2).map fun z => V.str z.1)) = H6 at kB eB Z6
          have hH6' : upd H5 B (.lst ((rs.filter fun z => inW r.2.2.1 q.2.2.2 z.2.2).map fun z => V.str z.1)) = H6 := hH6
          rw [hH6']
          refine ⟨_, rfl, _, _, rfl, .inl (SqL.of eB), _, rfl, _, rfl, _, rfl, _, _, rfl, rfl, _, _, rfl, rfl, _, _, rfl, _, _, rfl, rfl, ⟨b_big b1 b2, mx_big (ok.bs r mr) (ok.be q mq)⟩, _, _, rfl, rfl, _, rfl, ?_⟩
          refine ite2 (fun c => ?_) (fun c => ?_)
          · have c := of_decide_eq_true c
            rw [List.length_map] at c
            refine ⟨_, rfl, _, rfl, _, rfl, (by walk_at "ln"), fun t ht => ?_⟩
            have ft : Fre H6 t := ht
            have k7 : Kp [] H6 (upd H6 t (.tup [.str "crowd", .int r.2.2.1, .int q.2.2.2, .ref B])) := Kp.new Kp.refl ft
            have e7 : upd H6 t (.tup [.str "crowd", .int r.2.2.1, .int q.2.2.2, .ref B]) t = some (.tup [.str "crowd", .int r.2.2.1, .int q.2.2.2, .ref B]) := upd_same
            generalize upd H6 t (.tup [.str "crowd", .int r.2.2.1, .int q.2.2.2, .ref B]) = H7 at k7 e7
            have Z7 := Z6.kp0 k7
            have B7 := k7 B _ eB (by simp)
            have ntd : t ≠ d := fun z => by rw [z, Z7.top] at e7; cases e7
            have nBd : B ≠ d := fun z => by rw [z, Z7.top] at B7; cases B7
            have KK : Kp [d] H H7 := K2.trans (((((k3.trans k4).trans k5).trans kB).trans k7).weak (by simp))
            have cb : firstC b rs = some (r.2.2.1, q.2.2.2) := firstC_some er eq no3 no5 c
            exact ⟨Z7.top, kC _ _ cb t B _ (thaw_kp hd.top KK) (by rw [upd_ne ntd]; exact e7) (by rw [upd_ne nBd]; exact B7) (fre_dict hd.top (K2.trans (((k3.trans k4).trans k5).weak (by simp))) Z5.top fB)⟩
          · have c : ¬ (((rowW rs r.2.2.1 q.2.2.2).length : Int) > b * mx (q.2.2.2 - r.2.2.1 + 1)) := fun z => c (decide_eq_true (by rw [List.length_map]; exact z))
            refine ⟨⟨_, _, rfl⟩, k5.trans kB, fun q' hq' => ?_⟩
            rw [take_snoc eq] at hq'
            rcases List.mem_append.mp hq' with z | z
            · exact no5 q' z
            · have : q' = q := by simpa using z
              rw [this]; exact c
      · rintro σ H5 ⟨⟨o3, o4, rfl⟩, k5, no5⟩
        rw [List.length_map, List.length_map, List.take_length] at no5
        refine ⟨⟨_, _, _, rfl⟩, (k3.trans k4).trans k5, fun r' hr' => ?_⟩
        rw [take_snoc er] at hr'
        rcases List.mem_append.mp hr' with z | z
        · exact no3 r' z
        · have : r' = r := by simpa using z
          rw [this]; exact no5
    · rintro σ H3 ⟨⟨o2, o3, o4, rfl⟩, k3, no3⟩
      rw [List.length_map, List.length_map, List.take_length] at no3
      have cb : firstC b rs = none := firstC_none no3
      exact ⟨(Z2.kp0 k3).top, kN cb _ (thaw_kp hd.top (K2.trans (k3.weak (by simp))))⟩
end
end My
set_option Elab.async false
set_option linter.all false
set_option maxRecDepth 100000
set_option maxHeartbeats 4000000
namespace My
open PySem L2
def Cr (b : Int) (ps : List (Int × Int)) : Prop := ∃ s e : Int, ((ps.filter (inW s e)).length : Int) > b * mx (e - s + 1)
theorem mx_nn (a : Int) : 0 ≤ mx a := by unfold mx; split <;> omega
theorem mx_mono {a b : Int} (h : a ≤ b) : mx a ≤ mx b := by unfold mx; split <;> split <;> omega
theorem mx_pos {a : Int} (h : 0 ≤ a) : mx a = a := by unfold mx; split <;> omega
theorem mx_neg {a : Int} (h : a ≤ 0) : mx a = 0 := by unfold mx; split <;> omega
theorem filt_le {α : Type} {p q : α → Bool} {l : List α} (h : ∀ x ∈ l, p x = true → q x = true) : (l.filter p).length ≤ (l.filter q).length := by
  rw [← List.countP_eq_length_filter, ← List.countP_eq_length_filter]
  exact List.countP_mono_left h
theorem has_min : ∀ {l : List (Int × Int)}, l ≠ [] → ∃ r ∈ l, ∀ x ∈ l, r.1 ≤ x.1
  | [], h => absurd rfl h
  | [a], _ => ⟨a, by simp, fun x hx => by rw [show x = a by simpa using hx]; omega⟩
  | a :: b :: l, _ => by
    obtain ⟨r, hr, hm⟩ := has_min (l := b :: l) (by simp)
    by_cases z : a.1 ≤ r.1
    · refine ⟨a, by simp, fun x hx => ?_⟩
      rcases List.mem_cons.mp hx with e | e
      · rw [e]; omega
      · have := hm x e; omega
    · refine ⟨r, List.mem_cons_of_mem _ hr, fun x hx => ?_⟩
      rcases List.mem_cons.mp hx with e | e
      · rw [e]; omega
      · exact hm x e
theorem has_max : ∀ {l : List (Int × Int)}, l ≠ [] → ∃ r ∈ l, ∀ x ∈ l, x.2 ≤ r.2
  | [], h => absurd rfl h
  | [a], _ => ⟨a, by simp, fun x hx => by rw [show x = a by simpa using hx]; omega⟩
  | a :: b :: l, _ => by
    obtain ⟨r, hr, hm⟩ := has_max (l := b :: l) (by simp)
    by_cases z : r.2 ≤ a.2
    · refine ⟨a, by simp, fun x hx => ?_⟩
      rcases List.mem_cons.mp hx with e | e
      · rw [e]; omega
      · have := hm x e; omega
    · refine ⟨r, List.mem_cons_of_mem _ hr, fun x hx => ?_⟩
      rcases List.mem_cons.mp hx with e | e
      · rw [e]; omega
      · exact hm x e
theorem inW_iff {s e : Int} {q : Int × Int} : inW s e q = true ↔ s ≤ q.1 ∧ q.2 ≤ e := by simp [inW]
theorem crowd_iff {b : Int} {ps : List (Int × Int)} (hb : 0 ≤ b) (c : Cr b ps) : crowdP b ps = true := by
  unfold crowdP
  obtain ⟨s, e, h⟩ := c
  have ne : ps.filter (inW s e) ≠ [] := fun z => by
    rw [z] at h
    have := Int.mul_nonneg hb (mx_nn (e - s + 1))
    simp at h; omega
  obtain ⟨r, hr, mr⟩ := has_min ne
  obtain ⟨q, hq, mq⟩ := has_max ne
  obtain ⟨r1, r2⟩ := List.mem_filter.mp hr
  obtain ⟨q1, q2⟩ := List.mem_filter.mp hq
  refine List.any_eq_true.mpr ⟨r, r1, List.any_eq_true.mpr ⟨q, q1, decide_eq_true ?_⟩⟩
  have l1 : (ps.filter (inW s e)).length ≤ (ps.filter (inW r.1 q.2)).length := filt_le fun x hx h => inW_iff.mpr ⟨mr x (List.mem_filter.mpr ⟨hx, h⟩), mq x (List.mem_filter.mpr ⟨hx, h⟩)⟩
  have := inW_iff.mp r2
  have := inW_iff.mp q2
  have l2 : b * mx (q.2 - r.1 + 1) ≤ b * mx (e - s + 1) := Int.mul_le_mul_of_nonneg_left (mx_mono (by omega)) hb
  omega
def nextT : Option Int → Int → Int
  | none, m => m
  | some u, m => if m > u + 1 then m else u + 1
def minI : List Int → Int
  | [] => 0
  | [x] => x
  | x :: y :: l => if x ≤ minI (y :: l) then x else minI (y :: l)
theorem minI_is : ∀ {l : List Int}, l ≠ [] → minI l ∈ l ∧ ∀ x ∈ l, minI l ≤ x
  | [], h => absurd rfl h
  | [a], _ => ⟨by simp [minI], fun x hx => by rw [show x = a by simpa using hx]; exact Int.le_refl _⟩
  | a :: b :: l, _ => by
    obtain ⟨h1, h2⟩ := minI_is (l := b :: l) (by simp)
    rw [minI]
    split
    · rename_i c
      refine ⟨by simp, fun x hx => ?_⟩
      rcases List.mem_cons.mp hx with e | e
      · rw [e]; exact Int.le_refl _
      · exact Int.le_trans c (h2 x e)
    · rename_i c
      refine ⟨List.mem_cons_of_mem _ h1, fun x hx => ?_⟩
      rcases List.mem_cons.mp hx with e | e
      · rw [e]; omega
      · exact h2 x e
theorem minI_eq {l : List Int} {m : Int} (h1 : m ∈ l) (h2 : ∀ x ∈ l, m ≤ x) : m = minI l := by
  obtain ⟨a, b⟩ := minI_is (l := l) (fun z => by rw [z] at h1; cases h1)
  exact Int.le_antisymm (h2 _ a) (b _ h1)
abbrev Win := Str → Int × Int
def turnOf (ω : Win) (last : Option Int) (L : List Str) : Int := nextT last (minI (L.map fun x => (ω x).1))
def rowOf (b : Nat) (ω : Win) (t : Int) (L : List Str) : List Str := (L.filter fun x => decide ((ω x).1 ≤ t)).take b
def leftOf (row L : List Str) : List Str := L.filter fun x => decide (x ∉ row)
def edf (b : Nat) (ω : Win) : Nat → Option Int → List Str → List (Int × List Str)
  | 0, _, _ => []
  | _ + 1, _, [] => []
  | n + 1, last, x :: l => (turnOf ω last (x :: l), rowOf b ω (turnOf ω last (x :: l)) (x :: l)) :: edf b ω n (some (turnOf ω last (x :: l))) (leftOf (rowOf b ω (turnOf ω last (x :: l)) (x :: l)) (x :: l))
theorem edf_ne {b : Nat} {ω : Win} {n : Nat} {last : Option Int} {L : List Str} (h : L ≠ []) : edf b ω (n + 1) last L = (turnOf ω last L, rowOf b ω (turnOf ω last L) L) :: edf b ω n (some (turnOf ω last L)) (leftOf (rowOf b ω (turnOf ω last L) L) L) := by
  cases L with
  | nil => exact absurd rfl h
  | cons x l => rfl
theorem edf_nil {b : Nat} {ω : Win} {n : Nat} {last : Option Int} : edf b ω n last [] = [] := by cases n <;> rfl
inductive Good (b : Nat) (ω : Win) : Option Int → List Str → List (Int × List Str) → Prop
  | nil (last : Option Int) : Good b ω last [] []
  | cons {last : Option Int} {L row : List Str} {t : Int} {P : List (Int × List Str)} (ne : row ≠ []) (len : row.length ≤ b) (up : ∀ u, last = some u → u < t) (win : ∀ y ∈ row, (ω y).1 ≤ t ∧ t ≤ (ω y).2) (sub : row.Sublist L) (rest : Good b ω (some t) (leftOf row L) P) : Good b ω last L ((t, row) :: P)
def cnt (p : Str → Bool) (L : List Str) : Nat := (L.filter p).length
theorem left_perm {row L : List Str} (nd : L.Nodup) (h : row.Sublist L) : (row ++ leftOf row L).Perm L := by
  have e : row = L.filter fun x => decide (x ∈ row) := by
    induction h with
    | slnil => rfl
    | @cons l₁ l₂ a h ih =>
      obtain ⟨n1, n2⟩ := List.nodup_cons.mp nd
      rw [List.filter_cons, if_neg (by simpa using fun z => n1 (h.subset z))]
      exact ih n2
    | @cons_cons l₁ l₂ a h ih =>
      obtain ⟨n1, n2⟩ := List.nodup_cons.mp nd
      rw [List.filter_cons, if_pos (by simp)]
      congr 1
      refine (ih n2).trans (List.filter_congr fun x hx => ?_)
      have : x ≠ a := fun z => n1 (by rw [← z]; exact hx)
      simp [this]
  have e2 : leftOf row L = L.filter fun x => !decide (x ∈ row) := by
    unfold leftOf
    exact List.filter_congr fun x _ => by simp
  rw [e2]
  conv => lhs; arg 1; rw [e]
  exact List.filter_append_perm _ _
theorem cnt_split {row L : List Str} (nd : L.Nodup) (h : row.Sublist L) (p : Str → Bool) : cnt p L = cnt p row + cnt p (leftOf row L) := by
  have := ((left_perm nd h).filter p).length_eq
  rw [List.filter_append, List.length_append] at this
  exact this.symm
theorem cnt_pos {p : Str → Bool} {L : List Str} {x : Str} (hx : x ∈ L) (h : p x = true) : 1 ≤ cnt p L := List.length_pos_of_mem (List.mem_filter.mpr ⟨hx, h⟩)
theorem cnt_mono {p q : Str → Bool} {L : List Str} (h : ∀ x ∈ L, p x = true → q x = true) : cnt p L ≤ cnt q L := filt_le h
theorem cnt_all {p : Str → Bool} {L : List Str} (h : ∀ x ∈ L, p x = true) : cnt p L = L.length := by
  unfold cnt
  rw [List.filter_eq_self.mpr h]
theorem cnt_sub {p : Str → Bool} {L M : List Str} (h : M.Sublist L) : cnt p M ≤ cnt p L := (h.filter p).length_le
theorem left_sub (row L : List Str) : (leftOf row L).Sublist L := List.filter_sublist
theorem row_sub (b : Nat) (ω : Win) (t : Int) (L : List Str) : (rowOf b ω t L).Sublist L := (List.take_sublist _ _).trans List.filter_sublist
def Calm (b : Nat) (ω : Win) (L : List Str) : Prop := ∀ s e : Int, (cnt (fun x => decide (s ≤ (ω x).1) && decide ((ω x).2 ≤ e)) L : Int) ≤ b * mx (e - s + 1)
def Fits (b : Nat) (ω : Win) (u : Int) (L : List Str) : Prop := ∀ e : Int, (cnt (fun x => decide ((ω x).2 ≤ e)) L : Int) ≤ b * mx (e - u)
theorem Calm.sub {b : Nat} {ω : Win} {L M : List Str} (h : Calm b ω L) (s : M.Sublist L) : Calm b ω M := fun a e => Int.le_trans (by have := cnt_sub (p := fun x => decide (a ≤ (ω x).1) && decide ((ω x).2 ≤ e)) s; omega) (h a e)
theorem taken {b : Nat} {ω : Win} {t : Int} {L : List Str} (so : L.Pairwise fun x y => (ω x).2 ≤ (ω y).2) {y : Str} (hy : y ∈ leftOf (rowOf b ω t L) L) (ht : (ω y).1 ≤ t) : (rowOf b ω t L).length = b ∧ ∀ x ∈ rowOf b ω t L, (ω x).2 ≤ (ω y).2 := by
  obtain ⟨yL, yr⟩ := List.mem_filter.mp hy
  have yr : y ∉ rowOf b ω t L := of_decide_eq_true yr
  have ya : y ∈ L.filter fun x => decide ((ω x).1 ≤ t) := List.mem_filter.mpr ⟨yL, decide_eq_true ht⟩
  have sa : (L.filter fun x => decide ((ω x).1 ≤ t)).Pairwise fun x y => (ω x).2 ≤ (ω y).2 := so.sublist List.filter_sublist
  unfold rowOf at yr ⊢
  generalize L.filter (fun x => decide ((ω x).1 ≤ t)) = a at yr ya sa
  have yd : y ∈ a.drop b := by
    rw [← List.take_append_drop b a] at ya
    rcases List.mem_append.mp ya with z | z
    · exact absurd z yr
    · exact z
  refine ⟨?_, fun x hx => ?_⟩
  · have := List.length_pos_of_mem yd
    rw [List.length_drop] at this
    rw [List.length_take]; omega
  · rw [← List.take_append_drop b a] at sa
    exact (List.pairwise_append.mp sa).2.2 x hx y yd
theorem fits_step {b : Nat} {ω : Win} {t : Int} {L : List Str} (hb : 1 ≤ b) (nd : L.Nodup) (so : L.Pairwise fun x y => (ω x).2 ≤ (ω y).2) (ca : Calm b ω L) (fi : Fits b ω (t - 1) L) : Fits b ω t (leftOf (rowOf b ω t L) L) := fun e => by
  by_cases c : ∃ y ∈ leftOf (rowOf b ω t L) L, (ω y).2 ≤ e ∧ (ω y).1 ≤ t
  · obtain ⟨y, hy, h1, h2⟩ := c
    obtain ⟨len, all⟩ := taken so hy h2
    have s := cnt_split nd (row_sub b ω t L) fun x => decide ((ω x).2 ≤ e)
    have r : cnt (fun x => decide ((ω x).2 ≤ e)) (rowOf b ω t L) = b := by
      rw [cnt_all fun x hx => decide_eq_true (Int.le_trans (all x hx) h1), len]
    have f := fi e
    have p := cnt_pos (p := fun x => decide ((ω x).2 ≤ e)) hy (decide_eq_true h1)
    rw [s, r] at f
    generalize cnt (fun x => decide ((ω x).2 ≤ e)) (leftOf (rowOf b ω t L) L) = n at f p
    have k2 : 2 ≤ e - (t - 1) := by
      by_cases z : e - (t - 1) ≤ 0
      · rw [mx_neg z] at f; simp at f; omega
      · by_cases z1 : e - (t - 1) = 1
        · rw [z1, mx_pos (by omega), Int.mul_one] at f; omega
        · omega
    rw [mx_pos (by omega)] at f ⊢
    have : (b : Int) * (e - (t - 1)) = b * (e - t) + b := by rw [show e - (t - 1) = (e - t) + 1 by omega, Int.mul_add, Int.mul_one]
    omega
  · have s := ca (t + 1) e
    have m : cnt (fun x => decide ((ω x).2 ≤ e)) (leftOf (rowOf b ω t L) L) ≤ cnt (fun x => decide (t + 1 ≤ (ω x).1) && decide ((ω x).2 ≤ e)) (leftOf (rowOf b ω t L) L) := cnt_mono fun x hx h => by
      have h : (ω x).2 ≤ e := of_decide_eq_true h
      have : ¬ (ω x).1 ≤ t := fun z => c ⟨x, hx, h, z⟩
      simp only [Bool.and_eq_true, decide_eq_true_eq]
      exact ⟨by omega, h⟩
    have m2 := cnt_sub (p := fun x => decide (t + 1 ≤ (ω x).1) && decide ((ω x).2 ≤ e)) (left_sub (rowOf b ω t L) L)
    rw [show e - (t + 1) + 1 = e - t by omega] at s
    omega
theorem edf_good {b : Nat} {ω : Win} (hb : 1 ≤ b) : ∀ (n : Nat) (last : Option Int) (L : List Str), L.length ≤ n → L.Nodup → L.Pairwise (fun x y => (ω x).2 ≤ (ω y).2) → Calm b ω L → (∀ u, last = some u → Fits b ω u L) → Good b ω last L (edf b ω n last L)
  | n, last, [], _, _, _, _, _ => by rw [edf_nil]; exact .nil last
  | 0, last, x :: l, h, _, _, _, _ => by simp at h
  | n + 1, last, x :: l, hn, nd, so, ca, fi => by
    have neL : x :: l ≠ [] := by simp
    generalize x :: l = L at hn nd so ca fi neL
    rw [edf_ne neL]
    obtain ⟨m1, m2⟩ := minI_is (l := L.map fun x => (ω x).1) (by simpa using neL)
    obtain ⟨x0, hx0, ex0⟩ := List.mem_map.mp m1
    have lo : minI (L.map fun x => (ω x).1) ≤ turnOf ω last L := by
      unfold turnOf nextT
      split
      · exact Int.le_refl _
      · split <;> omega
    have up : ∀ u, last = some u → u < turnOf ω last L := fun u hu => by
      unfold turnOf
      rw [hu]
      show u < (if minI (L.map fun x => (ω x).1) > u + 1 then minI (L.map fun x => (ω x).1) else u + 1)
      split <;> omega
    have ft : Fits b ω (turnOf ω last L - 1) L := by
      have all : turnOf ω last L = minI (L.map fun x => (ω x).1) → Fits b ω (turnOf ω last L - 1) L := fun z e => by
        have := ca (turnOf ω last L) e
        rw [show e - (turnOf ω last L - 1) = e - turnOf ω last L + 1 by omega]
        refine Int.le_trans ?_ this
        have := cnt_mono (p := fun x => decide ((ω x).2 ≤ e)) (q := fun x => decide (turnOf ω last L ≤ (ω x).1) && decide ((ω x).2 ≤ e)) (L := L) fun x hx h => by
          simp only [Bool.and_eq_true, decide_eq_true_eq] at h ⊢
          exact ⟨by rw [z]; exact m2 _ (List.mem_map.mpr ⟨x, hx, rfl⟩), h⟩
        omega
      cases last with
      | none => exact all rfl
      | some u =>
        by_cases c : minI (L.map fun x => (ω x).1) > u + 1
        · exact all (by show (if _ then _ else _) = _; rw [if_pos c])
        · have e : turnOf ω (some u) L = u + 1 := by show (if _ then _ else _) = _; rw [if_neg c]
          rw [e, show u + 1 - 1 = u by omega]
          exact fi u rfl
    generalize turnOf ω last L = t at lo up ft
    have xr : x0 ∈ L.filter fun x => decide ((ω x).1 ≤ t) := List.mem_filter.mpr ⟨hx0, decide_eq_true (by rw [ex0]; exact lo)⟩
    have ne : rowOf b ω t L ≠ [] := fun z => by
      have h1 := List.length_pos_of_mem xr
      have h2 := congrArg List.length z
      unfold rowOf at h2
      rw [List.length_take, List.length_nil] at h2
      omega
    have sub := row_sub b ω t L
    refine .cons ne ?_ up (fun y hy => ?_) sub (edf_good hb n (some t) _ ?_ (nd.sublist (left_sub _ _)) (so.sublist (left_sub _ _)) (ca.sub (left_sub _ _)) ?_)
    · unfold rowOf; rw [List.length_take]; omega
    · have ya : y ∈ L.filter fun x => decide ((ω x).1 ≤ t) := List.mem_of_mem_take hy
      obtain ⟨yL, y1⟩ := List.mem_filter.mp ya
      refine ⟨of_decide_eq_true y1, ?_⟩
      by_cases z : t ≤ (ω y).2
      · exact z
      · have f := ft (ω y).2
        have p := cnt_pos (p := fun x => decide ((ω x).2 ≤ (ω y).2)) yL (decide_eq_true (Int.le_refl _))
        rw [mx_neg (by omega), Int.mul_zero] at f
        omega
    · have := (left_perm nd sub).length_eq
      rw [List.length_append] at this
      have := List.length_pos_iff.mpr ne
      omega
    · intro u hu
      cases hu
      exact fits_step hb nd so ca ft
def doneOf (P : List (Int × List Str)) : List Str := P.flatMap (·.2)
theorem Good.perm {b : Nat} {ω : Win} : ∀ {last : Option Int} {L : List Str} {P : List (Int × List Str)}, Good b ω last L P → L.Nodup → (doneOf P).Perm L
  | _, _, _, .nil _, _ => List.Perm.refl _
  | _, _, _, .cons (row := row) (P := P) ne len up win sub rest, nd => by
    have h := rest.perm (nd.sublist (left_sub _ _))
    show (row ++ doneOf P).Perm _
    exact (List.Perm.append_left row h).trans (left_perm nd sub)
theorem Good.each {b : Nat} {ω : Win} : ∀ {last : Option Int} {L : List Str} {P : List (Int × List Str)}, Good b ω last L P → ∀ q ∈ P, q.2 ≠ [] ∧ q.2.length ≤ b ∧ (∀ y ∈ q.2, (ω y).1 ≤ q.1 ∧ q.1 ≤ (ω y).2)
  | _, _, _, .nil _, q, hq => nomatch hq
  | _, _, _, .cons ne len up win sub rest, q, hq => by
    rcases List.mem_cons.mp hq with z | z
    · subst z; exact ⟨ne, len, win⟩
    · exact rest.each q z
def lastOf (last : Option Int) (P : List (Int × List Str)) : Option Int := (P.getLast?.map (·.1)).or last
theorem lastOf_snoc {last : Option Int} {P : List (Int × List Str)} {i : Nat} {q : Int × List Str} (h : P[i]? = some q) : lastOf last (P.take (i + 1)) = some q.1 := by
  unfold lastOf
  rw [take_snoc h, List.getLast?_concat]; rfl
theorem Good.rise {b : Nat} {ω : Win} : ∀ {last : Option Int} {L : List Str} {P : List (Int × List Str)}, Good b ω last L P → ∀ (i : Nat) (q : Int × List Str), P[i]? = some q → ∀ u, lastOf last (P.take i) = some u → u < q.1
  | _, _, _, .nil _, i, q, hq => by simp at hq
  | _, _, _, .cons (t := t) (row := row) (P := P) ne len up win sub rest, 0, q, hq => by
    have : (t, row) = q := by simpa using hq
    subst this
    exact fun u hu => up u (by simpa [lastOf] using hu)
  | last, _, _, .cons (t := t) (row := row) (P := P) ne len up win sub rest, i + 1, q, hq => fun u hu => by
    refine rest.rise i q (by simpa using hq) u ?_
    rw [List.take_succ_cons] at hu
    cases hz : P.take i with
    | nil => rw [hz] at hu; simpa [lastOf] using hu
    | cons a m =>
      rw [hz] at hu
      have e : lastOf (some t) (a :: m) = lastOf last ((t, row) :: a :: m) := by
        unfold lastOf
        rw [List.getLast?_cons_cons]
        cases h : (a :: m).getLast? with
        | none => simp at h
        | some q => rfl
      rw [e]; exact hu
theorem one_order {α : Type} {R : α → α → Prop} (as : ∀ a b, R a b → ¬ R b a) : ∀ {l m : List α}, l.Perm m → l.Pairwise R → m.Pairwise R → l = m
  | [], m, p, _, _ => (List.Perm.nil_eq p)
  | a :: l, [], p, _, _ => absurd p.length_eq (by simp)
  | a :: l, b :: m, p, h1, h2 => by
    obtain ⟨a1, a2⟩ := List.pairwise_cons.mp h1
    obtain ⟨b1, b2⟩ := List.pairwise_cons.mp h2
    have e : a = b := by
      rcases List.mem_cons.mp (p.mem_iff.mp List.mem_cons_self) with z | z
      · exact z
      · rcases List.mem_cons.mp (p.mem_iff.mpr (List.mem_cons_self (a := b) (l := m))) with y | y
        · exact y.symm
        · exact absurd (a1 b y) (as _ _ (b1 a z))
    subst e
    rw [one_order as ((List.perm_cons a).mp p) a2 b2]
theorem sOrd_as {ks : List Str} {g : Str → Int} (a b : Str) (h : sOrd ks g a b) : ¬ sOrd ks g b a := by
  unfold sOrd at *
  omega
theorem sOrd_le {ks : List Str} {g : Str → Int} {zs : List Str} (h : zs.Pairwise (sOrd ks g)) : zs.Pairwise fun x y => g x ≤ g y := h.imp fun {a b} z => by
  unfold sOrd at z
  omega
end My
set_option Elab.async false
set_option linter.all false
set_option maxRecDepth 100000
set_option maxHeartbeats 4000000
namespace My
open PySem L2
def lamQ : Str := Str.ofString "soonest_end_first" ++ ".<locals>." ++ "<lambda>"
def lamPos : Pos := ⟨49, 31, 49, 60⟩
abbrev TabA (H : Hp) (Pt : Addr) : Prop := Tab0 H Pt lamQ lamPos
theorem TabA.kp {H H' : Hp} {Pt : Addr} (h : TabA H Pt) (k : Kp [] H H') : TabA H' Pt := by
  rcases h with e | ⟨c, e, ec⟩
  · exact .inl (k _ _ e (by simp))
  · exact .inr ⟨c, k _ _ e (by simp), k _ _ ec (by simp)⟩
theorem TabA.tbl {H : Hp} {Pt : Addr} (h : TabA H Pt) : ∃ ps, H Pt = some (.tbl ps) := by
  rcases h with e | ⟨c, e, _⟩
  · exact ⟨_, e⟩
  · exact ⟨_, e⟩
theorem WinAt.kpT {H H' : Hp} {d Pt : Addr} {rs : List Wn} (h : WinAt H d rs) (k : Kp [Pt] H H') (t : TabA H Pt) : WinAt H' d rs := by
  obtain ⟨ps, e⟩ := t.tbl
  exact h.kp k (nm1 fun z => by have := h.top; rw [z, e] at this; cases this) fun r hr => nm1 fun z => by have := h.row r hr; rw [z, e] at this; cases this
theorem fre_tab {H H' : Hp} {Pt a : Addr} (T : TabA H' Pt) (k : Kp [Pt] H H') (f : Fre H' a) : Fre H a := by
  cases z : H a with
  | none => exact z
  | some o =>
    obtain ⟨ps, e⟩ := T.tbl
    have n : a ≠ Pt := fun y => by rw [← y, show H' a = none from f] at e; cases e
    have := k a o z (nm1 n)
    rw [show H' a = none from f] at this; cases this
theorem okC {P : Program} {w : World} {K : PySem.W.Frag} {mg : Str → Option Value} {base : Heap} {x qual : Str} {st : Stmt} {f c0 : Addr} {oc : Value} {od an : Option Addr} {osl : Array (Option Value)} {kV doc pm ct : Value} {N ps : List Str} {k : Nat} {sp : Sp}
    (lk : K.lookup f = some ⟨oc, od, .func (PySem.W.fnOf x qual (defArgs st) (defBody st) (defScope st) .none kV doc pm an (.ref c0) ct), osl⟩) (hcd : PySem.W.codeIn K (.ref c0) qual = true) (S : FnScope N ps (defScope st)) (len : ∀ vs H Q E, sp vs H Q E → vs.length = ps.length)
    (hbody : ∀ (A : Around) (outer : List Env) (s : Shared) (H : Hp) (vs : List V) (Q : VK) (E : XK), Room k (A.deeper (PyProof.Rows.envOfC qual (defScope st) s.heap.objs.size f (.ref c0))) → sp vs H Q E →
      ∃ t, PSs (cxOf CX0 P w K mg base N qual (defScope st) f (.ref c0) A outer s H E).nox (defBody st) t ∧ t { nx := fun _ H' => Q .non H', rt := Q } (L2.start N vs) H) : FnOk P w K mg base CX0 (k + 1) f (PySem.W.fnOf x qual (defArgs st) (defBody st) (defScope st) .none kV doc pm an (.ref c0) ct) ps sp := by
  refine fn_of lk hcd S len fun A outer s H vs Q E hr hsp => ?_
  obtain ⟨t, h, q⟩ := hbody A outer s H vs Q E hr hsp
  exact ⟨t, h.nox, q⟩
def wOf (rs : List Wn) (x : Str) : Int × Int := match rs.find? fun r => decide (r.1 = x) with
  | some r => r.2.2
  | none => (0, 0)
theorem wOf_at : ∀ {rs : List Wn}, (rs.map (·.1)).Nodup → ∀ {r : Wn}, r ∈ rs → wOf rs r.1 = r.2.2
  | q :: rs, nd, r, hr => by
    rw [List.map_cons] at nd
    obtain ⟨n1, n2⟩ := List.nodup_cons.mp nd
    unfold wOf
    rw [List.find?_cons]
    rcases List.mem_cons.mp hr with z | z
    · subst z; simp
    · have : q.1 ≠ r.1 := fun e => n1 (by rw [e]; exact List.mem_map.mpr ⟨r, z, rfl⟩)
      rw [decide_eq_false this]
      have := wOf_at n2 z
      unfold wOf at this
      exact this
def lenAt (i : Nat) (σ : St) (H : Hp) : Nat := match (σ[i]? : Option (Option V)) with
  | some (some (.ref a)) => match H a with
    | some (.lst xs) => xs.length
    | _ => 0
  | _ => 0
theorem filt_lt {α : Type} {p : α → Bool} : ∀ {l : List α} {y : α}, y ∈ l → ¬ p y = true → (l.filter p).length < l.length
  | x :: l, y, hy, hp => by
    rcases List.mem_cons.mp hy with z | z
    · subst z
      rw [List.filter_cons, if_neg hp, List.length_cons]
      have := List.length_filter_le p l
      omega
    · have := filt_lt z hp
      rw [List.filter_cons]
      split
      · rw [List.length_cons, List.length_cons]; omega
      · rw [List.length_cons]; omega
abbrev Tn := Addr × Addr × Int × List Str
structure PlanAt (H : Hp) (tl : Addr) (ts : List Tn) : Prop where
  top : H tl = some (.lst (ts.map fun t => V.ref t.1))
  tup : ∀ t ∈ ts, H t.1 = some (.tup [.int t.2.2.1, .ref t.2.1])
  row : ∀ t ∈ ts, H t.2.1 = some (.lst (t.2.2.2.map V.str))
  ne : ∀ t ∈ ts, t.2.1 ≠ tl
theorem PlanAt.kp0 {H H' : Hp} {tl : Addr} {ts : List Tn} (h : PlanAt H tl ts) (k : Kp [] H H') : PlanAt H' tl ts :=
  ⟨k _ _ h.top (by simp), fun t ht => k _ _ (h.tup t ht) (by simp), fun t ht => k _ _ (h.row t ht) (by simp), h.ne⟩
theorem PlanAt.kpT {H H' : Hp} {tl Pt : Addr} {ts : List Tn} (h : PlanAt H tl ts) (k : Kp [Pt] H H') (T : TabA H Pt) : PlanAt H' tl ts := by
  obtain ⟨ps, e⟩ := T.tbl
  exact ⟨k _ _ h.top (nm1 fun z => by have := h.top; rw [z, e] at this; cases this), fun t ht => k _ _ (h.tup t ht) (nm1 fun z => by have := h.tup t ht; rw [z, e] at this; cases this), fun t ht => k _ _ (h.row t ht) (nm1 fun z => by have := h.row t ht; rw [z, e] at this; cases this), h.ne⟩
def planOf (ts : List Tn) : List (Int × List Str) := ts.map (·.2.2)
theorem planOf_snoc (ts : List Tn) (t : Tn) : planOf (ts ++ [t]) = planOf ts ++ [t.2.2] := by unfold planOf; rw [List.map_append]; rfl
theorem lastOf_app {last : Option Int} {P : List (Int × List Str)} {q : Int × List Str} : lastOf last (P ++ [q]) = some q.1 := by
  unfold lastOf
  rw [List.getLast?_concat]; rfl
section
variable {P : Program} {w : World} {K : PySem.W.Frag} {mg : Str → Option Value} {base : Heap}
def spNext : Sp := fun vs H Q _ => ∃ (tl sl : Addr) (ts : List Tn) (ns : List Int), vs = [.ref tl, .ref sl] ∧ PlanAt H tl ts ∧ H sl = some (.lst (ns.map V.int)) ∧ ns ≠ [] ∧ Q (.int (nextT (lastOf none (planOf ts)) (minI ns))) H
abbrev s_next_turn : Stmt := top 17
theorem sc_next_turn : FnScope ["turns", "starts"] ["turns", "starts"] (defScope s_next_turn) := ⟨rfl, rfl, rfl, by decide +kernel, rfl, by decide +kernel, by decide +kernel⟩
theorem at_last {ts : List Tn} (h : ts ≠ []) : ∃ t ∈ ts, atI (ts.map fun t => V.ref t.1) (-1) = some (.ref t.1) ∧ lastOf none (planOf ts) = some t.2.2.1 := by
  refine ⟨ts.getLast h, List.getLast_mem h, ?_, ?_⟩
  · have e : (ts.map fun t => V.ref t.1) = (ts.dropLast.map fun t => V.ref t.1) ++ [.ref (ts.getLast h).1] := by
      conv => lhs; rw [← List.dropLast_concat_getLast h]
      rw [List.map_append]; rfl
    rw [e]
    exact atI_last _ _
  · conv => lhs; rw [← List.dropLast_concat_getLast h]
    rw [planOf_snoc, lastOf_app]
theorem ok_next_turn {f : Addr} {fd : FuncData} (F : Fun K "next_turn" "next_turn" s_next_turn f fd) (T : Txt K mg) : FnOk P w K mg base CX0 1 f fd ["turns", "starts"] spNext := by
  refine F.ok sc_next_turn (fun vs H Q E h => ?_) (fun cdv A outer s H vs Q E hr h => ?_)
  · obtain ⟨tl, sl, ts, ns, rfl, _⟩ := h
    rfl
  · obtain ⟨tl, sl, ts, ns, rfl, ht, hs, ne, k⟩ := h
    refine ⟨_, (pss_cons (ps_if (pt_not (pt_truth (pv 0) (fun _ => rfl)))
        (pss_one (ps_ret (pe_callB (call_min1 rfl) (by rfl) T.z_min bo_min (pa_cons (pv 1) pa_nil))))
        pss_nil)
      (pss_one (ps_ret (pe_callB (call_max2 rfl) (by rfl) T.z_max bo_max (pa_cons (pe_op op_add (pe_ix ix_tup (pe_ix ix_list (pv 0) (pe_un un_neg pe_int) (fun _ _ => rfl)) pe_int (fun _ _ => rfl)) pe_int) (pa_cons (pe_callB (call_min1 rfl) (by rfl) T.z_min bo_min (pa_cons (pv 1) pa_nil)) pa_nil)))))), ?_⟩
    refine ⟨_, rfl, _, .inl ⟨_, SqL.of ht.top, rfl⟩, ?_⟩
    refine ite2 (fun c => ?_) (fun c => ?_)
    · have na : ts = [] := by
        cases ts with
        | nil => rfl
        | cons a l => simp at c
      refine ⟨_, rfl, sl, ns, rfl, SqL.of hs, ne, fun M hM lM => ?_⟩
      rw [na] at k
      rw [minI_eq hM lM]
      exact k
    · have na : ts ≠ [] := fun z => c (by rw [z]; rfl)
      obtain ⟨t, mt, ea, el⟩ := at_last na
      refine ⟨_, rfl, _, rfl, _, _, _, _, rfl, rfl, SqL.of ht.top, ea, _, _, _, _, rfl, rfl, SqT.of (ht.tup t mt), rfl, _, _, rfl, rfl, _, rfl, sl, ns, rfl, SqL.of hs, ne, fun M hM lM => ?_⟩
      rw [el] at k
      rw [minI_eq hM lM]
      exact ⟨_, _, rfl, k⟩
def Srtd (rs : List Wn) (zs : List Str) : Prop := zs.Perm (rs.map (·.1)) ∧ zs.Pairwise (sOrd (rs.map (·.1)) fun x => (wOf rs x).2)
def planW (b : Int) (rs : List Wn) (zs : List Str) : List (Int × List Str) := edf b.toNat (wOf rs) zs.length none zs
def spSoon (Pt : Addr) : Sp := fun vs H Q _ => ∃ (b : Int) (d : Addr) (rs : List Wn), vs = [.int b, .ref d] ∧ WinAt H d rs ∧ WinOk (10 ^ 80) rs ∧ 1 ≤ b ∧ TabA H Pt ∧ ∀ (t : Addr) (ts : List Tn) (zs : List Str) (H' : Hp), Kp [Pt] H H' → TabA H' Pt → Srtd rs zs → PlanAt H' t ts → planOf ts = planW b rs zs → Fre H t → (∀ q ∈ ts, Fre H q.2.1) → Q (.ref t) H'
abbrev s_soonest_end_first : Stmt := top 16
theorem sc_soonest_end_first : FnScope ["benches", "windows", "turns", "left", "turn", "row"] ["benches", "windows"] (defScope s_soonest_end_first) := ⟨rfl, rfl, rfl, by decide +kernel, rfl, by decide +kernel, by decide +kernel⟩
theorem ok_soonest {f c0 Pt : Addr} {oc : Value} {od an : Option Addr} {osl : Array (Option Value)} {kV doc pm ct : Value} (lk : K.lookup f = some ⟨oc, od, .func (PySem.W.fnOf "soonest_end_first" "soonest_end_first" (defArgs s_soonest_end_first) (defBody s_soonest_end_first) (defScope s_soonest_end_first) .none kV doc pm an (.ref c0) ct), osl⟩) (hcd : PySem.W.codeIn K (.ref c0) "soonest_end_first" = true) (T : Txt K mg) (B : BltAt mg base) (C : PySem.W.CodeHd base c0 Pt)
    (C_next_turn : Cal P w K mg base "next_turn" 1 ["turns", "starts"] spNext) : FnOk P w K mg base CX0 4 f (PySem.W.fnOf "soonest_end_first" "soonest_end_first" (defArgs s_soonest_end_first) (defBody s_soonest_end_first) (defScope s_soonest_end_first) .none kV doc pm an (.ref c0) ct) ["benches", "windows"] (spSoon Pt) := by
  refine okC lk hcd sc_soonest_end_first (fun vs H Q E h => ?_) (fun A outer s H vs Q E hr h => ?_)
  · obtain ⟨b, d, rs, rfl, _⟩ := h
    rfl
  · obtain ⟨b, d, rs, rfl, hd, ok, b1, T0, k⟩ := h
    have hr1 := hr.mono (j := 1) (by decide)
    have hr2 := hr.mono (j := 0 + 2) (by decide)
    have hu := hu_of hr
    have hun := hr.units
    refine ⟨_, (pss_cons (ps_set (i := 2) sc_soonest_end_first.nd rfl (by walk_at "lc") (pe_lst pa_nil))
      (pss_cons (ps_set (i := 3) sc_soonest_end_first.nd rfl (by walk_at "lc") (pe_sortedS (x := "name") (y := "windows") (iy := 1) (P := Pt) (c0 := c0) (qual := lamQ) hr2 rfl (by rfl) T.z_sorted bo_sorted (pa_cons (pv 1) pa_nil) (by exact ⟨rfl, rfl, rfl, rfl, rfl, by decide +kernel, by decide +kernel⟩) (by decide) rfl rfl rfl rfl rfl rfl C B rfl (fun _ _ _ _ => rfl) (fun f' cd' A' s' H' hA => pe_ix (ix_tupK (K := K)) (pe_dget (show A'.units + 3 + 1 < cLine by have hA' : A'.units + 3 ≤ (A.deeper (PyProof.Rows.envOfC "soonest_end_first" (defScope s_soonest_end_first) s.heap.objs.size f (.ref c0))).units + 6 := hA; omega) (pv 1) (pv 0) (fun _ _ => rfl)) pe_int (fun _ _ => rfl))))
      (pss_cons (ps_while PassesOwn.never (pt_truth (pv 3) (fun _ => rfl))
        (pss_cons (ps_set (i := 4) sc_soonest_end_first.nd rfl (by walk_at "lc") (pe_callC C_next_turn hr1 rfl (pa_cons (pv 2) (pa_cons (pe_comp rfl (blk_mk (sc := defScope s_soonest_end_first) rfl (by decide +kernel)) (Draws.own (x := "name") (Draws.tk (i := 1) rfl (by walk_at "vs") (by walk_at "vk") (by walk_at "vf") Draws.nil)) (pi_list (pv 3)) (fun C s₀ H₀ ex => (pg_name (i := 0) (show List.Nodup (["name", "windows"] : List Str) by decide +kernel) rfl (by walk_at "lc"))) (fun C s₀ H₀ ex => pts_nil) (fun C s₀ H₀ ex => (pe_ix (ix_tupK (K := K)) (pe_dget hu (pv 1) (pv 0) (fun _ _ => rfl)) pe_int (fun _ _ => rfl)))) pa_nil))))
        (pss_cons (ps_set (i := 5) sc_soonest_end_first.nd rfl (by walk_at "lc") (pe_slice sl_list (pe_comp rfl (blk_mk (sc := defScope s_soonest_end_first) rfl (by decide +kernel)) (Draws.own (x := "name") (Draws.tk (i := 4) rfl (by walk_at "vs") (by walk_at "vk") (by walk_at "vf") (Draws.tk (i := 1) rfl (by walk_at "vs") (by walk_at "vk") (by walk_at "vf") Draws.nil))) (pi_list (pv 3)) (fun C s₀ H₀ ex => (pg_name (i := 0) (show List.Nodup (["name", "turn", "windows"] : List Str) by decide +kernel) rfl (by walk_at "lc"))) (fun C s₀ H₀ ex => (pts_one (pt_cmpR op_le (pe_ix (ix_tupK (K := K)) (pe_dget hu (pv 2) (pv 0) (fun _ _ => rfl)) pe_int (fun _ _ => rfl)) (pv 1) (nomark _)))) (fun C s₀ H₀ ex => (pv 0))) po_none (po_some (pv 0))))
        (pss_cons (ps_expr (pe_bm PySem.F.plainAttrs_list PySem.F.slot_list_append PySem.F.type_list_append mt_append (pv 2) (pa_cons (pe_tup (pa_cons (pv 4) (pa_cons (pv 5) pa_nil))) pa_nil)))
        (pss_one (ps_comp (i := 3) rfl (blk_mk (sc := defScope s_soonest_end_first) rfl (by decide +kernel)) (Draws.own (x := "name") (Draws.tk (i := 5) rfl (by walk_at "vs") (by walk_at "vk") (by walk_at "vf") Draws.nil)) (pi_list (pv 3)) (fun C s₀ H₀ ex => (pg_name (i := 0) (show List.Nodup (["name", "row"] : List Str) by decide +kernel) rfl (by walk_at "lc"))) (fun C s₀ H₀ ex => (pts_one (pt_cmpR (op_notIn_seqK (K := K)) (pv 0) (pv 1) (by rfl)))) (fun C s₀ H₀ ex => (pv 0)) sc_soonest_end_first.nd rfl rfl))))))
      (pss_one (ps_ret (pv 2)))))), ?_⟩
    refine ⟨(by walk_at "ln"), fun tl htl => ?_⟩
    have ftl : Fre H tl := htl
    have k1 : Kp [] H (upd H tl (.lst [])) := Kp.new Kp.refl ftl
    have e1 : upd H tl (.lst []) tl = some (.lst []) := upd_same
    generalize upd H tl (.lst []) = H1 at k1 e1
    have W1 := hd.kp0 k1
    have T1 := T0.kp k1
    have rl := ok.len
    obtain ⟨ps1, eT1⟩ := T1.tbl
    refine ⟨_, rfl, d, kvW rs, rs.map (·.1), fun x => (wOf rs x).2, .ref d, rfl, rfl, W1.top, kvW_keys rs, by rw [List.length_map]; omega, ok.nd, T1, fun H2 k2 T2 => ⟨fun x hx => ?_, fun lf zs hlf pz sz => ?_⟩⟩
    · have W2 := W1.kpT k2 T1
      obtain ⟨r, hr', rfl⟩ := List.mem_map.mp hx
      refine ⟨_, rfl, _, rfl, d, _, rfl, W2.get ok.nd hr', _, _, _, _, rfl, rfl, SqT.of (W2.row r hr'), rfl, ?_, rfl⟩
      show V.int r.2.2.2 = V.int (wOf rs r.1).2
      rw [wOf_at ok.nd hr']
    have W2 := W1.kpT k2 T1
    have ntP : tl ≠ Pt := fun z => by rw [z, eT1] at e1; cases e1
    have e2 := k2 tl _ e1 (nm1 ntP)
    have flf : Fre H2 lf := hlf
    have k3 : Kp [] H2 (upd H2 lf (.lst (zs.map V.str))) := Kp.new Kp.refl flf
    have e3 : upd H2 lf (.lst (zs.map V.str)) lf = some (.lst (zs.map V.str)) := upd_same
    generalize upd H2 lf (.lst (zs.map V.str)) = H3 at k3 e3
    have K3 : Kp [Pt] H H3 := ((k1.weak (by simp)).trans k2).trans (k3.weak (by simp))
    have TA3 : TabA H3 Pt := TabA.kp (.inr T2) k3
    have nlf0 : lf ≠ tl := fun z => by
      rw [← z] at e2
      rw [show H2 lf = none from hlf] at e2; cases e2
    show tWhile (fun σ H Q => tVar 3 σ H fun x H' => ∃ k, TruV K x H' k ∧ Q k H') _ _ _ _
    refine while_by (fun σ H4 => ∃ (lf : Addr) (L : List Str) (as : List Tn) (n : Nat) (o4 o5 : Option V), σ = [some (.int b), some (.ref d), some (.ref tl), some (.ref lf), o4, o5] ∧ Kp [Pt] H H4 ∧ TabA H4 Pt ∧ WinAt H4 d rs ∧ Txs H4 lf L ∧ (∀ x ∈ L, ∃ r ∈ rs, r.1 = x) ∧ PlanAt H4 tl as ∧ as.length + L.length ≤ 20 ∧ lf ≠ tl ∧ (∀ q ∈ as, Fre H q.2.1) ∧ L.length ≤ n ∧ planOf as ++ edf b.toNat (wOf rs) n (lastOf none (planOf as)) L = planW b rs zs) (lenAt 3)
      ⟨lf, zs, [], zs.length, none, none, rfl, K3, TA3, W2.kp0 k3, e3, fun x hx => by
        obtain ⟨r, hr', e⟩ := List.mem_map.mp (pz.mem_iff.mp hx)
        exact ⟨r, hr', e⟩, ⟨k3 tl _ e2 (by simp), (fun a ha => nomatch ha), (fun a ha => nomatch ha), (fun a ha => nomatch ha)⟩, by rw [pz.length_eq, List.length_map]; simpa using rl, nlf0, (fun q hq => nomatch hq), Nat.le_refl _, rfl⟩ ?_ (fun σ H Q Q' hq hc => by
        obtain ⟨x, e, b, t, q⟩ := hc
        exact ⟨x, e, b, t, hq _ _ q⟩)
    rintro σ H4 ⟨lf, L, as, n, o4, o5, rfl, K4, TA4, W4, hL, hin, R4, hlen, nlf, fras, hn, hE⟩
    refine ⟨_, rfl, _, .inl ⟨_, SqL.of hL, rfl⟩, ?_⟩
    refine ite2 (fun c => ?_) (fun c => ?_)
    · have cL : L ≠ [] := fun z => by rw [z] at c; simp at c
      refine ⟨_, rfl, _, rfl, _, rfl, ⟨_, SqL.of hL⟩, fun D hD => comp_list0 (L.map V.str) (fun i ys τ H5 => (∃ o0, τ = [o0, some (.ref d)]) ∧ ys = ((L.take i).map fun x => V.int (wOf rs x).1) ∧ H5 = upd H4 D (.lst ys)) ⟨⟨_, rfl⟩, rfl, rfl⟩ (fun i ys τ H5 ⟨_, _, z⟩ => by subst z; exact SqL.of ((Kp.new (M := []) Kp.refl hD) _ _ hL (by simp))) ?_ ?_⟩
      · rintro i v ys τ H5 hv ⟨⟨o0, rfl⟩, rfl, rfl⟩
        obtain ⟨x, ex, rfl⟩ := str_at hv
        obtain ⟨r, hr', rfl⟩ := hin x (List.mem_of_getElem? ex)
        have W5 := W4.kp0 (Kp.new (M := []) (l := D) (o := .lst ((L.take i).map fun x => V.int (wOf rs x).1)) Kp.refl hD)
        refine ⟨_, rfl, _, rfl, d, _, rfl, W5.get ok.nd hr', _, _, _, _, rfl, rfl, SqT.of (W5.row r hr'), rfl, upd_same, by rw [List.length_map, List.length_take, sizeLine_eq]; omega, ⟨_, rfl⟩, ?_, upd_upd⟩
        rw [take_snoc ex, List.map_append]
        show _ = _ ++ [V.int (wOf rs r.1).1]
        rw [wOf_at ok.nd hr']
      · rintro ys τ H5 ⟨_, rfl, rfl⟩
        have eT : L.take (L.map V.str).length = L := by rw [List.length_map, List.take_length]
        rw [eT]
        have fD : Fre H4 D := hD
        have k5 : Kp [] H4 (upd H4 D (.lst (L.map fun x => V.int (wOf rs x).1))) := Kp.new Kp.refl fD
        have e5 : upd H4 D (.lst (L.map fun x => V.int (wOf rs x).1)) D = some (.lst ((L.map fun x => (wOf rs x).1).map V.int)) := by rw [upd_same, List.map_map]; rfl
        generalize upd H4 D (.lst (L.map fun x => V.int (wOf rs x).1)) = H5 at k5 e5
        refine ⟨tl, D, as, L.map fun x => (wOf rs x).1, rfl, R4.kp0 k5, e5, by simpa using cL, ?_⟩
        obtain ⟨t, et⟩ : ∃ t, nextT (lastOf none (planOf as)) (minI (L.map fun x => (wOf rs x).1)) = t := ⟨_, rfl⟩
        rw [et]
        obtain ⟨mi1, mi2⟩ := minI_is (l := L.map fun x => (wOf rs x).1) (by simpa using cL)
        obtain ⟨x0, hx0, ex0⟩ := List.mem_map.mp mi1
        have hnt : (wOf rs x0).1 ≤ t := by
          rw [ex0, ← et]
          unfold nextT
          split
          · exact Int.le_refl _
          · split <;> omega
        have W5 := W4.kp0 k5
        have hL5 := k5 lf _ hL (by simp)
        refine ⟨_, rfl, _, rfl, ⟨_, SqL.of hL5⟩, fun D2 hD2 => comp_list (L.map V.str) (fun i ys τ H6 => (∃ o0, τ = [o0, some (.int t), some (.ref d)]) ∧ ys = ((L.take i).filter fun x => decide ((wOf rs x).1 ≤ t)).map V.str ∧ H6 = upd H5 D2 (.lst ys)) ⟨⟨_, rfl⟩, rfl, rfl⟩ (fun i ys τ H6 ⟨_, _, z⟩ => by subst z; exact SqL.of ((Kp.new (M := []) Kp.refl hD2) _ _ hL5 (by simp))) ?_ ?_⟩
        · rintro i v ys τ H6 hv ⟨⟨o0, rfl⟩, rfl, rfl⟩
          obtain ⟨x, ex, rfl⟩ := str_at hv
          obtain ⟨r, hr', rfl⟩ := hin x (List.mem_of_getElem? ex)
          have W6 := W5.kp0 (Kp.new (M := []) (l := D2) (o := .lst (((L.take i).filter fun x => decide ((wOf rs x).1 ≤ t)).map V.str)) Kp.refl hD2)
          refine ⟨_, rfl, _, rfl, d, _, rfl, W6.get ok.nd hr', _, _, _, _, rfl, rfl, SqT.of (W6.row r hr'), rfl, _, rfl, _, _, rfl, rfl, _, rfl, ?_⟩
          have ew : r.2.2.1 = (wOf rs r.1).1 := by rw [wOf_at ok.nd hr']
          refine ite2 (fun c => ?_) (fun c => ?_)
          · have c : decide ((wOf rs r.1).1 ≤ t) = true := by rw [← ew]; exact c
            refine ⟨_, rfl, upd_same, by rw [List.length_map]; exact filt_len (by omega), ⟨_, rfl⟩, ?_, upd_upd⟩
            rw [filt_yes ex c, List.map_append]; rfl
          · have c : ¬ decide ((wOf rs r.1).1 ≤ t) = true := by rw [← ew]; exact c
            refine ⟨⟨_, rfl⟩, ?_, rfl⟩
            rw [filt_no ex c]
        · rintro ys τ H6 ⟨_, rfl, rfl⟩
          rw [eT]
          have fD2 : Fre H5 D2 := hD2
          have k6 : Kp [] H5 (upd H5 D2 (.lst ((L.filter fun x => decide ((wOf rs x).1 ≤ t)).map V.str))) := Kp.new Kp.refl fD2
          have e6 : upd H5 D2 (.lst ((L.filter fun x => decide ((wOf rs x).1 ≤ t)).map V.str)) D2 = some (.lst ((L.filter fun x => decide ((wOf rs x).1 ≤ t)).map V.str)) := upd_same
          generalize upd H5 D2 (.lst ((L.filter fun x => decide ((wOf rs x).1 ≤ t)).map V.str)) = H6 at k6 e6
          refine ⟨_, rfl, _, rfl, _, _, rfl, SqL.of e6, fun ro hro => ?_⟩
          rw [cut_to _ (by omega), ← List.map_take]
          have fro : Fre H6 ro := hro
          have x0r : x0 ∈ (L.filter fun x => decide ((wOf rs x).1 ≤ t)) := List.mem_filter.mpr ⟨hx0, decide_eq_true hnt⟩
          obtain ⟨row, erow⟩ : ∃ row, (L.filter fun x => decide ((wOf rs x).1 ≤ t)).take b.toNat = row := ⟨_, rfl⟩
          rw [erow]
          have rowL : ∀ x ∈ row, x ∈ L := fun x hx => by rw [← erow] at hx; exact (List.mem_filter.mp (List.mem_of_mem_take hx)).1
          have rowne : row ≠ [] := fun z => by
            rw [z] at erow
            have h1 : 0 < (L.filter fun x => decide ((wOf rs x).1 ≤ t)).length := List.length_pos_of_mem x0r
            have h2 := congrArg List.length erow
            rw [List.length_take, List.length_nil] at h2
            omega
          have k7 : Kp [] H6 (upd H6 ro (.lst (row.map V.str))) := Kp.new Kp.refl fro
          have e7 : upd H6 ro (.lst (row.map V.str)) ro = some (.lst (row.map V.str)) := upd_same
          generalize upd H6 ro (.lst (row.map V.str)) = H7 at k7 e7
          have k47 : Kp [] H4 H7 := (k5.trans k6).trans k7
          have R7 := R4.kp0 k47
          refine ⟨_, rfl, .inl ⟨rfl, _, SqL.of R7.top⟩, _, rfl, _, rfl, (by walk_at "ln"), fun tu htu => ?_⟩
          have ftu : Fre H7 tu := htu
          have k8 : Kp [] H7 (upd H7 tu (.tup [.int t, .ref ro])) := Kp.new Kp.refl ftu
          have e8 : upd H7 tu (.tup [.int t, .ref ro]) tu = some (.tup [.int t, .ref ro]) := upd_same
          generalize upd H7 tu (.tup [.int t, .ref ro]) = H8 at k8 e8
          have R8 := R7.kp0 k8
          refine ⟨_, _, _, rfl, rfl, R8.top, by rw [List.length_map, sizeLine_eq]; omega, ?_⟩
          have k48 : Kp [] H4 H8 := k47.trans k8
          have W8 := W4.kp0 k48
          have hL8 := k48 lf _ hL (by simp)
          have ro8 := k8 ro _ e7 (by simp)
          have TA8 := TA4.kp k48
          obtain ⟨ps8, eT8⟩ := TA8.tbl
          have kA : Kp [tl] H8 (upd H8 tl (.lst ((as.map fun t => V.ref t.1) ++ [.ref tu]))) := Kp.put Kp.refl (by simp)
          have ntu : tu ≠ tl := fun z => by have := R8.top; rw [← z, e8] at this; cases this
          have nas : ∀ q ∈ as, q.1 ≠ tl := fun q hq z => by
            have e := R8.tup q hq
            rw [z, R8.top] at e; cases e
          have nro : ro ≠ tl := fun z => by
            have h := (R4.kp0 (k5.trans k6)).top
            rw [← z, show H6 ro = none from fro] at h; cases h
          have K6 : Kp [Pt] H H6 := K4.trans ((k5.trans k6).weak (by simp))
          have frO : Fre H ro := fre_tab (TA4.kp (k5.trans k6)) K6 fro
          have ndt : d ≠ tl := fun z => by have := W8.top; rw [z, R8.top] at this; cases this
          have nrt : ∀ r ∈ rs, r.2.1 ≠ tl := fun r hr' z => by have := W8.row r hr'; rw [z, R8.top] at this; cases this
          have nPt : Pt ≠ tl := fun z => by rw [z, R8.top] at eT8; cases eT8
          have K9 : Kp [Pt] H (upd H8 tl (.lst ((as.map fun t => V.ref t.1) ++ [.ref tu]))) := kp_drop (K4.trans (k48.weak (by simp))) ftl kA
          have R9 : PlanAt (upd H8 tl (.lst ((as.map fun t => V.ref t.1) ++ [.ref tu]))) tl (as ++ [(tu, ro, t, row)]) := by
            refine ⟨by rw [upd_same, List.map_append]; rfl, fun q hq => ?_, fun q hq => ?_, fun q hq => ?_⟩
            · rcases List.mem_append.mp hq with z | z
              · exact kA _ _ (R8.tup q z) (nm1 (nas q z))
              · have : q = (tu, ro, t, row) := by simpa using z
                subst this
                exact kA tu _ e8 (nm1 ntu)
            · rcases List.mem_append.mp hq with z | z
              · exact kA _ _ (R8.row q z) (nm1 (R8.ne q z))
              · have : q = (tu, ro, t, row) := by simpa using z
                subst this
                exact kA ro _ ro8 (nm1 nro)
            · rcases List.mem_append.mp hq with z | z
              · exact R8.ne q z
              · have : q = (tu, ro, t, row) := by simpa using z
                subst this
                exact nro
          have W9 : WinAt (upd H8 tl (.lst ((as.map fun t => V.ref t.1) ++ [.ref tu]))) d rs := W8.kp kA (nm1 ndt) fun r hr' => nm1 (nrt r hr')
          have TA9 : TabA (upd H8 tl (.lst ((as.map fun t => V.ref t.1) ++ [.ref tu]))) Pt := by
            rcases TA8 with e | ⟨c, e, ec⟩
            · exact .inl (kA _ _ e (nm1 nPt))
            · refine .inr ⟨c, kA _ _ e (nm1 nPt), kA _ _ ec (nm1 fun z => by rw [z, R8.top] at ec; cases ec)⟩
          have hL9 : Txs (upd H8 tl (.lst ((as.map fun t => V.ref t.1) ++ [.ref tu]))) lf L := kA lf _ hL8 (nm1 nlf)
          have ro9 := kA ro _ ro8 (nm1 nro)
          generalize upd H8 tl (.lst ((as.map fun t => V.ref t.1) ++ [.ref tu])) = H9 at K9 R9 W9 TA9 hL9 ro9
          refine ⟨_, rfl, _, rfl, ⟨_, SqL.of hL9⟩, fun D3 hD3 => comp_list (L.map V.str) (fun i ys τ H10 => (∃ o0, τ = [o0, some (.ref ro)]) ∧ ys = ((L.take i).filter fun x => decide (x ∉ row)).map V.str ∧ H10 = upd H9 D3 (.lst ys)) ⟨⟨_, rfl⟩, rfl, rfl⟩ (fun i ys τ H10 ⟨_, _, z⟩ => by subst z; exact SqL.of ((Kp.new (M := []) Kp.refl hD3) _ _ hL9 (by simp))) ?_ ?_⟩
          · rintro i v ys τ H10 hv ⟨⟨o0, rfl⟩, rfl, rfl⟩
            obtain ⟨x, ex, rfl⟩ := str_at hv
            have ro10 := (Kp.new (M := []) (l := D3) (o := .lst (((L.take i).filter fun x => decide (x ∉ row)).map V.str)) Kp.refl hD3) _ _ ro9 (by simp)
            refine ⟨_, rfl, _, rfl, _, _, rfl, .inl (SqL.of ro10), by simp [flatV], flat_strs row, _, rfl, ?_⟩
            rw [inV_str]
            refine ite2 (fun c => ?_) (fun c => ?_)
            · have c : decide (x ∉ row) = true := by simpa using c
              refine ⟨_, rfl, upd_same, by rw [List.length_map]; exact filt_len (by omega), ⟨_, rfl⟩, ?_, upd_upd⟩
              rw [filt_yes ex c, List.map_append]; rfl
            · have c : ¬ decide (x ∉ row) = true := by simpa using c
              refine ⟨⟨_, rfl⟩, ?_, rfl⟩
              rw [filt_no ex c]
          · rintro ys τ H10 ⟨_, rfl, rfl⟩
            rw [eT]
            have fD3 : Fre H9 D3 := hD3
            have k10 : Kp [] H9 (upd H9 D3 (.lst ((L.filter fun x => decide (x ∉ row)).map V.str))) := Kp.new Kp.refl fD3
            have less : (L.filter fun x => decide (x ∉ row)).length < L.length := by
              obtain ⟨y, hy⟩ := List.exists_mem_of_ne_nil row rowne
              exact filt_lt (rowL y hy) (by simp [hy])
            have nD3 : D3 ≠ tl := fun z => by
              have h := R9.top
              rw [← z, show H9 D3 = none from fD3] at h; cases h
            obtain ⟨n', en⟩ : ∃ n', n = n' + 1 := ⟨n - 1, by have := List.length_pos_iff.mpr cL; omega⟩
            have hE' : planOf (as ++ [(tu, ro, t, row)]) ++ edf b.toNat (wOf rs) n' (lastOf none (planOf (as ++ [(tu, ro, t, row)]))) (L.filter fun x => decide (x ∉ row)) = planW b rs zs := by
              rw [← hE, en, edf_ne cL, planOf_snoc, lastOf_app, List.append_assoc]
              have e1 : turnOf (wOf rs) (lastOf none (planOf as)) L = t := et
              have e2 : rowOf b.toNat (wOf rs) t L = row := erow
              rw [e1, e2]; rfl
            refine ⟨⟨D3, L.filter fun x => decide (x ∉ row), as ++ [(tu, ro, t, row)], n', _, _, rfl, K9.trans (k10.weak (by simp)), TA9.kp k10, W9.kp0 k10, upd_same, fun x hx => hin x (List.mem_filter.mp hx).1, R9.kp0 k10, by rw [List.length_append, List.length_singleton]; omega, nD3, fun q hq => ?_, by omega, hE'⟩, ?_⟩
            · rcases List.mem_append.mp hq with z | z
              · exact fras q z
              · have : q = (tu, ro, t, row) := by simpa using z
                subst this
                exact frO
            show lenAt 3 _ (upd H9 D3 (.lst ((L.filter fun x => decide (x ∉ row)).map V.str))) < lenAt 3 _ H4
            have l1 : lenAt 3 [some (.int b), some (.ref d), some (.ref tl), some (.ref lf), o4, o5] H4 = L.length := by
              show (match H4 lf with | some (.lst xs) => xs.length | _ => 0) = _
              rw [show H4 lf = _ from hL]
              show (L.map V.str).length = _
              rw [List.length_map]
            have l2 : ∀ σ : St, σ[3]? = some (some (.ref D3)) → lenAt 3 σ (upd H9 D3 (.lst ((L.filter fun x => decide (x ∉ row)).map V.str))) = (L.filter fun x => decide (x ∉ row)).length := fun σ hσ => by
              unfold lenAt
              rw [hσ]
              show (match (upd H9 D3 (.lst ((L.filter fun x => decide (x ∉ row)).map V.str))) D3 with | some (.lst xs) => xs.length | _ => 0) = _
              rw [upd_same]
              show (((L.filter fun x => decide (x ∉ row)).map V.str)).length = _
              rw [List.length_map]
            rw [l1, l2 _ rfl]
            exact less
    · have eL : L = [] := by
        cases L with
        | nil => rfl
        | cons y l => exact absurd rfl c
      rw [eL, edf_nil, List.append_nil] at hE
      exact ⟨_, rfl, k tl as zs H4 K4 TA4 ⟨pz, sz⟩ R4 hE ftl fras⟩
def Told (b : Int) (rs : List Wn) (H0 H : Hp) (t : Addr) : Prop :=
  (∃ (l : Addr) (s e : Int), firstC b rs = some (s, e) ∧ H t = some (.tup [.str "crowd", .int s, .int e, .ref l]) ∧ H l = some (.lst ((rowW rs s e).map fun r => V.str r.1)) ∧ Fre H0 l) ∨
  (firstC b rs = none ∧ ∃ (l : Addr) (ts : List Tn) (zs : List Str), H t = some (.tup [.str "plan", .ref l]) ∧ Srtd rs zs ∧ PlanAt H l ts ∧ planOf ts = planW b rs zs ∧ Fre H0 l ∧ ∀ q ∈ ts, Fre H0 q.2.1)
def spWindowed (Pt : Addr) : Sp := fun vs H Q _ => ∃ (b : Int) (d : Addr) (rs : List Wn), vs = [.int b, .ref d] ∧ WinAt H d rs ∧ WinOk (10 ^ 80) rs ∧ 1 ≤ b ∧ b < 10 ^ 80 ∧ TabA H Pt ∧ ∀ (t : Addr) (H' : Hp), Kp [Pt] H H' → TabA H' Pt → Told b rs H H' t → Q (.ref t) H'
abbrev s_windowed : Stmt := top 14
theorem sc_windowed : FnScope ["benches", "windows", "crowd"] ["benches", "windows"] (defScope s_windowed) := ⟨rfl, rfl, rfl, by decide +kernel, rfl, by decide +kernel, by decide +kernel⟩
theorem ok_windowed {f Pt : Addr} {fd : FuncData} (F : Fun K "windowed" "windowed" s_windowed f fd) (C_check_benches : Cal P w K mg base "check_benches" 2 ["benches"] spCheckB) (C_check_windows : Cal P w K mg base "check_windows" 3 ["windows"] spCheckW) (C_find_crowd : Cal P w K mg base "find_crowd" 1 ["benches", "windows"] spFind) (C_soon : Cal P w K mg base "soonest_end_first" 4 ["benches", "windows"] (spSoon Pt)) : FnOk P w K mg base CX0 5 f fd ["benches", "windows"] (spWindowed Pt) := by
  refine F.ok sc_windowed (fun vs H Q E h => ?_) (fun cdv A outer s H vs Q E hr h => ?_)
  · obtain ⟨b, d, rs, rfl, _⟩ := h
    rfl
  · obtain ⟨b, d, rs, rfl, hd, ok, b1, b2, T0, k⟩ := h
    have hr1 := hr.mono (j := 1) (by decide)
    have hr2 := hr.mono (j := 2) (by decide)
    have hr3 := hr.mono (j := 3) (by decide)
    refine ⟨_, (pss_cons (ps_expr (pe_callC C_check_benches hr2 rfl (pa_cons (pv 0) pa_nil)))
      (pss_cons (ps_expr (pe_callC C_check_windows hr3 rfl (pa_cons (pv 1) pa_nil)))
      (pss_cons (ps_set (i := 2) sc_windowed.nd rfl (by walk_at "lc") (pe_callC C_find_crowd hr1 rfl (pa_cons (pv 0) (pa_cons (pv 1) pa_nil))))
      (pss_cons (ps_if (pt_cmpR op_notN (pv 2) pe_non (nomark _))
        (pss_one (ps_ret (pv 2)))
        pss_nil)
      (pss_one (ps_ret (pe_tup (pa_cons pe_str (pa_cons (pe_callC C_soon hr rfl (pa_cons (pv 0) (pa_cons (pv 1) pa_nil))) pa_nil))))))))), ?_⟩
    refine ⟨_, rfl, b, rfl, b1, ?_⟩
    refine ⟨_, rfl, d, rs, 10 ^ 80, rfl, hd, ok, fun H1 k1 => ?_⟩
    have W1 := hd.kp0 k1
    have T1 := T0.kp k1
    refine ⟨_, rfl, _, rfl, b, d, rs, rfl, W1, ok, b1, b2, fun cb H2 k2 => ?_, fun s' e' cb t l H2 k2 ht hl fl => ?_⟩
    · refine ⟨_, rfl, rfl, _, rfl, iteF ?_⟩
      refine ⟨_, rfl, _, rfl, b, d, rs, rfl, W1.kp0 k2, ok, b1, T1.kp k2, fun l ts zs H3 k3 T3 so pl eq fl fr => ?_⟩
      refine ⟨(by walk_at "ln"), fun t ht => ?_⟩
      have ft : Fre H3 t := ht
      have k4 : Kp [] H3 (upd H3 t (.tup [.str "plan", .ref l])) := Kp.new Kp.refl ft
      exact k t _ ((((k1.trans k2).weak (by simp)).trans k3).trans (k4.weak (by simp))) (T3.kp k4) (.inr ⟨cb, l, ts, zs, upd_same, so, pl.kp0 k4, eq, fre_old (k1.trans k2) fl, fun q hq => fre_old (k1.trans k2) (fr q hq)⟩)
    · refine ⟨_, rfl, rfl, _, rfl, iteT ?_⟩
      exact ⟨_, rfl, k t H2 ((k1.trans k2).weak (by simp)) (T1.kp k2) (.inl ⟨l, s', e', cb, ht, hl, fre_old k1 fl⟩)⟩
end
end My
set_option Elab.async false
set_option linter.all false
set_option maxRecDepth 100000
set_option maxHeartbeats 4000000
namespace My
open PySem L2
theorem nxp_mid {t u : TS} {D : Ends} {r : V → Hp → Prop} {b c : St → Hp → Prop} {σ : St} {H : Hp} (Mid : St → Hp → Prop) (h1 : ∀ N : St → Hp → Prop, (∀ σ H, Mid σ H → N σ H) → t { D with nx := N } σ H) (h2 : ∀ σ H, Mid σ H → u D σ H) : Ends.nx { nx := tSeq t u D, rt := r, bk := b, ct := c } σ H := seq_mid Mid h1 h2
theorem WinAt.kpP {H H' : Hp} {d p : Addr} {rs : List Wn} (h : WinAt H d rs) (k : Kp [p] H H') (hp : Purse H p) : WinAt H' d rs := by
  obtain ⟨a, b, e, _⟩ := hp
  exact h.kp k (nm1 fun z => by have := h.top; rw [z, e] at this; cases this) fun r hr => nm1 fun z => by have := h.row r hr; rw [z, e] at this; cases this
theorem putW_app {rs : List Wn} {x : Str} {a : Addr} {s e : Int} (h : x ∉ rs.map (·.1)) : putK (kvW rs) (Sum.inr x) (.ref a) = kvW (rs ++ [(x, a, s, e)]) := by
  unfold putK
  rw [if_neg]
  · simp [kvW]
  · rw [List.any_eq_true]
    rintro ⟨y, hy, e⟩
    have e := of_decide_eq_true e
    unfold kvW at hy
    obtain ⟨q, hq, rfl⟩ := List.mem_map.mp hy
    exact h (List.mem_map.mpr ⟨q, hq, Sum.inr.inj e⟩)
theorem WinAt.put {H : Hp} {d a : Addr} {rs : List Wn} {x : Str} {s e : Int} (h : WinAt H d rs) (ha : H a = some (.tup [.int s, .int e])) : WinAt (upd H d (.dK (kvW (rs ++ [(x, a, s, e)])))) d (rs ++ [(x, a, s, e)]) := by
  refine ⟨upd_same, fun r hr => ?_⟩
  have nd : ∀ b xs, H b = some (.tup xs) → b ≠ d := fun b xs q z => by rw [z, h.top] at q; cases q
  rcases List.mem_append.mp hr with z | z
  · rw [upd_ne (nd _ _ (h.row r z))]; exact h.row r z
  · have : r = (x, a, s, e) := by simpa using z
    subst this
    rw [upd_ne (nd _ _ ha)]; exact ha
section
variable {P : Program} {w : World} {K : PySem.W.Frag} {mg : Str → Option Value} {base : Heap}
theorem six_at {d : Int} (h0 : 0 ≤ d) (h1 : d < 6) : ∃ z : Int, atI [V.int 100, V.int (10 ^ (6 : Int).toNat), V.int (10 ^ (12 : Int).toNat), V.int (10 ^ (18 : Int).toNat), V.int (10 ^ (30 : Int).toNat), V.int (10 ^ (58 : Int).toNat)] d = some (V.int z) ∧ 0 ≤ z ∧ z ≤ 10 ^ 58 := by
  have : d = 0 ∨ d = 1 ∨ d = 2 ∨ d = 3 ∨ d = 4 ∨ d = 5 := by omega
  rcases this with rfl | rfl | rfl | rfl | rfl | rfl
  · exact ⟨100, rfl, by decide, by decide +kernel⟩
  · exact ⟨_, rfl, by decide +kernel, by decide +kernel⟩
  · exact ⟨_, rfl, by decide +kernel, by decide +kernel⟩
  · exact ⟨_, rfl, by decide +kernel, by decide +kernel⟩
  · exact ⟨_, rfl, by decide +kernel, by decide +kernel⟩
  · exact ⟨_, rfl, by decide +kernel, by decide +kernel⟩
def spFar : Sp := fun vs H Q _ => ∃ p : Addr, vs = [.ref p] ∧ Purse H p ∧ ∀ (z : Int) (H' : Hp), z.natAbs < 10 ^ 62 → Purse H' p → Kp [p] H H' → Q (.int z) H'
abbrev s_far : Stmt := top 24
theorem sc_far : FnScope ["_law_purse_here", "_law_size"] ["_law_purse_here"] (defScope s_far) := ⟨rfl, rfl, rfl, by decide +kernel, rfl, by decide +kernel, by decide +kernel⟩
theorem ok_far {f : Addr} {fd : FuncData} (F : Fun K "_law_far" "_law_far" s_far f fd) (C_take : Cal P w K mg base "_law_take" 1 ["_law_purse_here", "_law_many"] spTake) : FnOk P w K mg base CX0 2 f fd ["_law_purse_here"] spFar := by
  refine F.ok sc_far (fun vs H Q E h => ?_) (fun cdv A outer s H vs Q E hr h => ?_)
  · obtain ⟨p, rfl, _⟩ := h
    rfl
  · obtain ⟨p, rfl, hP, k⟩ := h
    have HR_take := hr
    refine ⟨_, (pss_cons (ps_if (pt_cmpR op_eq (pe_callC C_take HR_take rfl (pa_cons (pv 0) (pa_cons pe_int pa_nil))) pe_int (nomark _))
        (pss_one (ps_ret (pe_op op_sub (pe_callC C_take HR_take rfl (pa_cons (pv 0) (pa_cons (pe_op op_mul pe_int (pe_op op_pow pe_int pe_int)) pa_nil))) (pe_op op_pow pe_int pe_int))))
        pss_nil)
      (pss_cons (ps_set (i := 1) sc_far.nd rfl (by walk_at "lc") (pe_ix ix_list (pe_lst (pa_c pe_int (pa_c (pe_op op_pow pe_int pe_int) (pa_c (pe_op op_pow pe_int pe_int) (pa_c (pe_op op_pow pe_int pe_int) (pa_c (pe_op op_pow pe_int pe_int) (pa_c (pe_op op_pow pe_int pe_int) pa_nil))))))) (pe_callC C_take HR_take rfl (pa_cons (pv 0) (pa_cons pe_int pa_nil))) (fun _ _ => rfl)))
      (pss_one (ps_ret (pe_op op_mul (pe_op op_sub (pe_callC C_take HR_take rfl (pa_cons (pv 0) (pa_cons pe_int pa_nil))) pe_int) (pv 1)))))), ?_⟩
    refine ⟨_, rfl, p, 2, rfl, hP, by decide, by decide, fun d1 H1 a0 a1 P1 K1 => ?_⟩
    refine ⟨rfl, _, rfl, ?_⟩
    refine ite2 (fun c => ?_) (fun c => ?_)
    · refine ⟨_, rfl, _, _, rfl, rfl, ⟨by decide, by decide, by decide⟩, _, _, rfl, rfl, (by walk_at "ml"), p, _, rfl, P1, by decide +kernel, by decide +kernel, fun d2 H2 b0 b1 P2 K2 => ?_⟩
      refine ⟨_, _, rfl, rfl, ⟨by decide, by decide, by decide⟩, _, _, rfl, rfl, k _ H2 ?_ P2 (K1.trans K2)⟩
      have b1 : d2 < 2 * 10 ^ 59 := b1
      have t : (10 : Int) ^ (59 : Int).toNat = 10 ^ 59 := rfl
      rw [t]
      have t1 : (2 * 10 ^ 59 : Int) < 10 ^ 62 := by decide +kernel
      have t2 : (0 : Int) < 10 ^ 59 := by decide +kernel
      omega
    · refine ⟨_, _, rfl, rfl, ⟨by decide, by decide, by decide⟩, _, _, rfl, rfl, ⟨by decide, by decide, by decide⟩, _, _, rfl, rfl, ⟨by decide, by decide, by decide⟩, _, _, rfl, rfl, ⟨by decide, by decide, by decide⟩, _, _, rfl, rfl, ⟨by decide, by decide, by decide⟩, (by walk_at "ln"), fun b hb => ?_⟩
      have fb : Fre H1 b := hb
      have KB : Kp [] H1 (upd H1 b (.lst [.int 100, .int (10 ^ (6 : Int).toNat), .int (10 ^ (12 : Int).toNat), .int (10 ^ (18 : Int).toNat), .int (10 ^ (30 : Int).toNat), .int (10 ^ (58 : Int).toNat)])) := Kp.new Kp.refl fb
      have hbb : upd H1 b (.lst [.int 100, .int (10 ^ (6 : Int).toNat), .int (10 ^ (12 : Int).toNat), .int (10 ^ (18 : Int).toNat), .int (10 ^ (30 : Int).toNat), .int (10 ^ (58 : Int).toNat)]) b = _ := upd_same
      have nbp : b ≠ p := by obtain ⟨x, y, e, _⟩ := P1; exact (ne_fre fb e).symm
      generalize upd H1 b (.lst [.int 100, .int (10 ^ (6 : Int).toNat), .int (10 ^ (12 : Int).toNat), .int (10 ^ (18 : Int).toNat), .int (10 ^ (30 : Int).toNat), .int (10 ^ (58 : Int).toNat)]) = H2 at KB hbb
      have P2 : Purse H2 p := P1.kp KB (by simp)
      refine ⟨_, rfl, p, 6, rfl, P2, by decide, by decide, fun d2 H3 b0 b1 P3 K3 => ?_⟩
      obtain ⟨z, e6, z0, z1⟩ := six_at b0 b1
      refine ⟨_, _, _, _, rfl, rfl, SqL.of (K3 b _ hbb (nm1 nbp)), e6, ?_⟩
      refine ⟨_, rfl, p, 19, rfl, P3, by decide, by decide, fun d3 H4 c0 c1 P4 K4 => ?_⟩
      refine ⟨_, _, rfl, rfl, _, rfl, _, _, rfl, rfl, .inl ⟨by omega, by omega⟩, k _ H4 ?_ P4 (((K1.trans (KB.weak (by simp))).trans K3).trans K4)⟩
      rw [Int.natAbs_mul]
      have h1 : (d3 - 9).natAbs ≤ 9 := by omega
      have h2 : z.natAbs ≤ 10 ^ 58 := by omega
      have h3 : (d3 - 9).natAbs * z.natAbs ≤ 9 * 10 ^ 58 := Nat.mul_le_mul h1 h2
      exact Nat.lt_of_le_of_lt h3 (by decide +kernel)
end
end My
set_option Elab.async false
set_option linter.all false
set_option maxRecDepth 100000
set_option maxHeartbeats 4000000
namespace My
open PySem L2
section
variable {P : Program} {w : World} {K : PySem.W.Frag} {mg : Str → Option Value} {base : Heap}
structure PAI (X : Cx) (es : List Expr) (t : TA) : Prop where
  to : PA X es t
theorem pai_nil {X : Cx} : PAI X [] tNil := ⟨pa_nil⟩
theorem pai_c {X : Cx} {e : Expr} {es : List Expr} {te : TE} {t : TA} (ha : PE X e te) (hr : PAI X es t) (hs : notStar e = true := by rfl) : PAI X (e :: es) (tCons te t) := ⟨pa_cons ha hr.to (star_cons hs)⟩
theorem pe_lstI {X : Cx} {es : List Expr} {t : TA} {pos : Pos} (h : PAI X es t) : PE X (.List es pos) (tLst t) := pe_lst h.to
theorem wide_at {d : Int} (h0 : 0 ≤ d) (h1 : d < 8) : ∃ z : Int, atI [V.int 2, V.int 2, V.int 4, V.int 4, V.int 8, V.int 8, V.int 20, V.int (10 ^ (58 : Int).toNat)] d = some (V.int z) ∧ 0 ≤ z ∧ z ≤ 10 ^ 58 := by
  have : d = 0 ∨ d = 1 ∨ d = 2 ∨ d = 3 ∨ d = 4 ∨ d = 5 ∨ d = 6 ∨ d = 7 := by omega
  rcases this with rfl | rfl | rfl | rfl | rfl | rfl | rfl | rfl
  · exact ⟨2, rfl, by decide, by decide +kernel⟩
  · exact ⟨2, rfl, by decide, by decide +kernel⟩
  · exact ⟨4, rfl, by decide, by decide +kernel⟩
  · exact ⟨4, rfl, by decide, by decide +kernel⟩
  · exact ⟨8, rfl, by decide, by decide +kernel⟩
  · exact ⟨8, rfl, by decide, by decide +kernel⟩
  · exact ⟨20, rfl, by decide, by decide +kernel⟩
  · exact ⟨_, rfl, by decide +kernel, by decide +kernel⟩
theorem four_at {z d : Int} (h0 : 0 ≤ d) (h1 : d < 4) (hz : z.natAbs < 10 ^ 62) : ∃ b : Int, atI [V.int 0, V.int 0, V.int 0, V.int z] d = some (V.int b) ∧ b.natAbs < 10 ^ 62 := by
  have t : (0 : Int).natAbs < 10 ^ 62 := by decide +kernel
  have : d = 0 ∨ d = 1 ∨ d = 2 ∨ d = 3 := by omega
  rcases this with rfl | rfl | rfl | rfl
  · exact ⟨0, rfl, t⟩
  · exact ⟨0, rfl, t⟩
  · exact ⟨0, rfl, t⟩
  · exact ⟨z, rfl, hz⟩
theorem three_at {d : Int} (h0 : 0 ≤ d) (h1 : d < 3) : ∃ b : Int, atI [V.int 3, V.int 8, V.int 24] d = some (V.int b) ∧ 1 ≤ b ∧ b ≤ 24 := by
  have : d = 0 ∨ d = 1 ∨ d = 2 := by omega
  rcases this with rfl | rfl | rfl
  · exact ⟨3, rfl, by decide, by decide⟩
  · exact ⟨8, rfl, by decide, by decide⟩
  · exact ⟨24, rfl, by decide, by decide⟩
def spLWin : Sp := fun vs H Q _ => ∃ p : Addr, vs = [.ref p] ∧ Purse H p ∧ ∀ (d : Addr) (rs : List Wn) (H' : Hp), WinAt H' d rs → WinOk (10 ^ 70) rs → Purse H' p → Kp [p] H H' → Q (.ref d) H'
abbrev s_windows : Stmt := top 25
theorem sc_windows : FnScope ["_law_purse_here", "_law_far_here", "_law_wide", "_law_apart", "_law_windows_here", "_law_name", "_law_start", "_law_end"] ["_law_purse_here"] (defScope s_windows) := ⟨rfl, rfl, rfl, by decide +kernel, rfl, by decide +kernel, by decide +kernel⟩
theorem ok_windows {f : Addr} {fd : FuncData} (F : Fun K "_law_windows" "_law_windows" s_windows f fd) (C_take : Cal P w K mg base "_law_take" 1 ["_law_purse_here", "_law_many"] spTake) (C_names : Cal P w K mg base "_law_names" 2 ["_law_purse_here", "_law_many"] spLNames) (C_far : Cal P w K mg base "_law_far" 2 ["_law_purse_here"] spFar) : FnOk P w K mg base CX0 3 f fd ["_law_purse_here"] spLWin := by
  refine F.ok sc_windows (fun vs H Q E h => ?_) (fun cdv A outer s H vs Q E hr h => ?_)
  · obtain ⟨p, rfl, _⟩ := h
    rfl
  · obtain ⟨p, rfl, hP, k⟩ := h
    have HR_take := hr.mono (j := 1) (by decide)
    have HR_names := hr
    have HR_far := hr
    have hu := hu_of hr
    refine ⟨_, (@pss_cons _ _ _ _ _ (@ps_set _ _ 1 _ _ _ _ (by exact sc_windows.nd) (by rfl) (by walk_at "lc") (@pe_ix _ _ _ _ _ _ _ ix_list (@pe_lstI _ _ _ _ (pai_c pe_int (pai_c pe_int (pai_c pe_int (pai_c (by exact (pe_callC C_far HR_far rfl (pa_cons (pv 0) pa_nil))) pai_nil))))) (by exact (pe_callC C_take HR_take rfl (pa_cons (pv 0) (pa_cons pe_int pa_nil)))) (by exact fun _ _ => rfl)) (by rfl) (by first | exact Or.inl rfl | exact Or.inr rfl))
      (@pss_cons _ _ _ _ _ (@ps_set _ _ 2 _ _ _ _ (by exact sc_windows.nd) (by rfl) (by walk_at "lc") (@pe_ix _ _ _ _ _ _ _ ix_list (@pe_lstI _ _ _ _ (pai_c pe_int (pai_c pe_int (pai_c pe_int (pai_c pe_int (pai_c pe_int (pai_c pe_int (pai_c pe_int (pai_c (by exact (pe_op op_pow pe_int pe_int)) pai_nil))))))))) (by exact (pe_callC C_take HR_take rfl (pa_cons (pv 0) (pa_cons pe_int pa_nil)))) (by exact fun _ _ => rfl)) (by rfl) (by first | exact Or.inl rfl | exact Or.inr rfl)) (by exact
      (pss_cons (ps_set (i := 3) sc_windows.nd rfl (by walk_at "lc") (pe_cmpR op_eq (pe_callC C_take HR_take rfl (pa_cons (pv 0) (pa_cons pe_int pa_nil))) pe_int (nomark _)))
      (pss_cons (ps_set (i := 4) sc_windows.nd rfl (by walk_at "lc") pe_dnewK)
      (pss_cons (ps_for PassesOwn.never rfl (pi_list (pe_callC C_names HR_names rfl (pa_cons (pv 0) (pa_cons (pe_callC C_take HR_take rfl (pa_cons (pv 0) (pa_cons pe_int pa_nil))) pa_nil)))) (pg_name (i := 5) sc_windows.nd rfl (by walk_at "lc"))
        (pss_cons (ps_set (i := 6) sc_windows.nd rfl (by walk_at "lc") (pe_op op_add (pv 1) (pe_callC C_take HR_take rfl (pa_cons (pv 0) (pa_cons (pe_ix ix_list (pe_lstI (pai_c pe_int (pai_c pe_int (pai_c pe_int pai_nil)))) (pe_callC C_take HR_take rfl (pa_cons (pv 0) (pa_cons pe_int pa_nil))) (fun _ _ => rfl)) pa_nil)))))
        (pss_cons (ps_if (PW.pt (pw_and (pt_val (pv 3)) (pw_and1 (pt_cmpR op_eq (pe_callC C_take HR_take rfl (pa_cons (pv 0) (pa_cons pe_int pa_nil))) pe_int (nomark _)))))
          (pss_one (ps_set (i := 6) sc_windows.nd rfl (by walk_at "lc") (pe_callC C_far HR_far rfl (pa_cons (pv 0) pa_nil))))
          pss_nil)
        (pss_cons (ps_set (i := 7) sc_windows.nd rfl (by walk_at "lc") (pe_op op_add (pv 6) (pe_callC C_take HR_take rfl (pa_cons (pv 0) (pa_cons (pe_op op_add (pv 2) pe_int) pa_nil)))))
        (pss_cons (ps_if (pt_cmpR op_eq (pe_callC C_take HR_take rfl (pa_cons (pv 0) (pa_cons pe_int pa_nil))) pe_int (nomark _))
          (pss_one (ps_set (i := 7) sc_windows.nd rfl (by walk_at "lc") (pe_op op_sub (pe_op op_sub (pv 6) pe_int) (pe_callC C_take HR_take rfl (pa_cons (pv 0) (pa_cons pe_int pa_nil))))))
          pss_nil)
        (pss_one (ps_dput hu (pv 4) (pv 5) (pe_tup (pa_cons (pv 6) (pa_cons (pv 7) pa_nil))) rfl)))))))
      (pss_one (ps_ret (pv 4))))))))), ?_⟩
    refine ⟨_, rfl, p, rfl, hP, fun z H1 hz P1 K1 => ?_⟩
    refine ⟨(by walk_at "ln"), fun b hb => ?_⟩
    have fb : Fre H1 b := hb
    have KB : Kp [] H1 (upd H1 b (.lst [.int 0, .int 0, .int 0, .int z])) := Kp.new Kp.refl fb
    have hbb : upd H1 b (.lst [.int 0, .int 0, .int 0, .int z]) b = _ := upd_same
    have nbp : b ≠ p := by obtain ⟨x, y, e, _⟩ := P1; exact (ne_fre fb e).symm
    generalize upd H1 b (.lst [.int 0, .int 0, .int 0, .int z]) = H2 at KB hbb
    refine ⟨_, rfl, p, 4, rfl, P1.kp KB (by simp), by decide, by decide, fun d1 H3 a0 a1 P3 K3 => ?_⟩
    obtain ⟨fh, e4, fh1⟩ := four_at a0 a1 hz
    refine ⟨_, _, _, _, rfl, rfl, SqL.of (K3 b _ hbb (nm1 nbp)), e4, ?_⟩
    have A3 : Kp [p] H H3 := (K1.trans (KB.weak (by simp))).trans K3
    refine ⟨_, _, rfl, rfl, ⟨by decide, by decide, by decide⟩, (by walk_at "ln"), fun b2 hb2 => ?_⟩
    have fb2 : Fre H3 b2 := hb2
    have KB2 : Kp [] H3 (upd H3 b2 (.lst [.int 2, .int 2, .int 4, .int 4, .int 8, .int 8, .int 20, .int (10 ^ (58 : Int).toNat)])) := Kp.new Kp.refl fb2
    have hbb2 : upd H3 b2 (.lst [.int 2, .int 2, .int 4, .int 4, .int 8, .int 8, .int 20, .int (10 ^ (58 : Int).toNat)]) b2 = _ := upd_same
    have nbp2 : b2 ≠ p := by obtain ⟨x, y, e, _⟩ := P3; exact (ne_fre fb2 e).symm
    generalize upd H3 b2 (.lst [.int 2, .int 2, .int 4, .int 4, .int 8, .int 8, .int 20, .int (10 ^ (58 : Int).toNat)]) = H4 at KB2 hbb2
    refine ⟨_, rfl, p, 8, rfl, P3.kp KB2 (by simp), by decide, by decide, fun d2 H5 a0 a1 P5 K5 => ?_⟩
    obtain ⟨wd, e8, wd0, wd1⟩ := wide_at a0 a1
    refine ⟨_, _, _, _, rfl, rfl, SqL.of (K5 b2 _ hbb2 (nm1 nbp2)), e8, ?_⟩
    refine ⟨_, rfl, p, 4, rfl, P5, by decide, by decide, fun d3 H6 a0 a1 P6 K6 => ?_⟩
    refine ⟨rfl, ?_⟩
    have A6 : Kp [p] H H6 := ((A3.trans (KB2.weak (by simp))).trans K5).trans K6
    refine fun d hd => ?_
    have fd' : Fre H6 d := hd
    have fd0 : Fre H d := fre_back P6 A6 fd'
    have npd : p ≠ d := by obtain ⟨x, y, e, _⟩ := P6; exact ne_fre fd' e
    have KD : Kp [] H6 (upd H6 d (.dK [])) := Kp.new Kp.refl fd'
    have hd7 : upd H6 d (.dK []) d = some (.dK []) := upd_same
    generalize upd H6 d (.dK []) = H7 at KD hd7
    have P7 : Purse H7 p := P6.kp KD (by simp)
    refine ⟨_, rfl, _, rfl, p, 21, rfl, P7, by decide, by decide, fun d4 H8 b0 b1 P8 K8 => ?_⟩
    have hd8 := K8 d _ hd7 (nm1 npd.symm)
    refine ⟨p, d4, rfl, P8, b0, by omega, fun l ns H9 fl hl hlen nd nm P9 K9 => ?_⟩
    have hd9 := K9 d _ hd8 (nm1 npd.symm)
    have ndl : d ≠ l := ne_fre fl hd8
    have npl : p ≠ l := by obtain ⟨x, y, e, _⟩ := P8; exact ne_fre fl e
    have A9 : Kp [p] H H9 := ((A6.trans (KD.weak (by simp))).trans K8).trans K9
    have t70 : (10 : Nat) ^ 62 + 2 * 10 ^ 58 + 1000 < 10 ^ 70 := by decide +kernel
    have t100 : (10 : Int) ^ 58 + 2 < 10 ^ 100 := by decide +kernel
    refine ⟨_, rfl, ⟨_, SqL.of hl⟩, for_list (xs := ns.map V.str) (fun i σ H10 => ∃ (rs : List Wn) (ap : Bool) (o5 o6 o7 : Option V), σ = [some (.ref p), some (.int fh), some (.int wd), some (.bl ap), some (.ref d), o5, o6, o7] ∧ Purse H10 p ∧ Kp [p, d] H9 H10 ∧ WinAt H10 d rs ∧ rs.map (·.1) = ns.take i ∧ (∀ r ∈ rs, r.2.2.1.natAbs < 10 ^ 70) ∧ ∀ r ∈ rs, r.2.2.2.natAbs < 10 ^ 70)
      ⟨[], _, none, none, none, rfl, P9, Kp.refl, ⟨hd9, fun _ h => nomatch h⟩, by simp, (fun _ h => nomatch h), (fun _ h => nomatch h)⟩ (fun i σ H10 _ ⟨_, _, _, _, _, _, _, K, _⟩ => SqL.of (K l _ hl (by simp [npl.symm, ndl.symm]))) ?_ ?_⟩
    · rintro i x σ H10 hx ⟨rs, ap, o5, o6, o7, rfl, P10, K10, W10, e10, bs10, be10⟩
      obtain ⟨nm', en, rfl⟩ := str_at hx
      have hi : i < ns.length := (List.getElem?_eq_some_iff.mp en).1
      refine ⟨_, rfl, _, rfl, (by walk_at "ln"), fun b3 hb3 => ?_⟩
      have fb3 : Fre H10 b3 := hb3
      have KB3 : Kp [] H10 (upd H10 b3 (.lst [.int 3, .int 8, .int 24])) := Kp.new Kp.refl fb3
      have hbb3 : upd H10 b3 (.lst [.int 3, .int 8, .int 24]) b3 = _ := upd_same
      have nbp3 : b3 ≠ p := by obtain ⟨x, y, e, _⟩ := P10; exact (ne_fre fb3 e).symm
      generalize upd H10 b3 (.lst [.int 3, .int 8, .int 24]) = H11 at KB3 hbb3
      have P11 := P10.kp KB3 (by simp)
      refine ⟨_, rfl, p, 3, rfl, P11, by decide, by decide, fun d5 H12 c0 c1 P12 K12 => ?_⟩
      obtain ⟨m3, e3, m30, m31⟩ := three_at c0 c1
      refine ⟨_, _, _, _, rfl, rfl, SqL.of (K12 b3 _ hbb3 (nm1 nbp3)), e3, ?_⟩
      refine ⟨p, m3, rfl, P12, m30, lt_big (by omega), fun d6 H13 g0 g1 P13 K13 => ?_⟩
      refine ⟨_, _, rfl, rfl, ?_⟩
      have W13 : WinAt H13 d rs := ((W10.kp0 KB3).kpP K12 P11).kpP K13 P12
      have K1013 : Kp [p] H10 H13 := ((KB3.weak (by simp)).trans K12).trans K13
      refine nxp_mid (fun σ H' => ∃ st : Int, σ = [some (.ref p), some (.int fh), some (.int wd), some (.bl ap), some (.ref d), some (.str nm'), some (.int st), o7] ∧ st.natAbs < 10 ^ 62 + 100 ∧ Purse H' p ∧ Kp [p] H10 H' ∧ WinAt H' d rs) (fun N hN => ?_) ?_
      · refine ⟨_, rfl, _, rfl, ?_⟩
        refine ite2 (fun c => ?_) (fun c => ?_)
        · refine ⟨_, rfl, p, 3, rfl, P13, by decide, by decide, fun d7 H14 g0 g1 P14 K14 => ?_⟩
          have W14 := W13.kpP K14 P13
          refine ⟨rfl, _, rfl, ?_⟩
          refine ite2 (fun c => ?_) (fun c => ?_)
          · refine ⟨_, rfl, p, rfl, P14, fun z2 H15 hz2 P15 K15 => ?_⟩
            exact hN _ _ ⟨z2, rfl, by omega, P15, (K1013.trans K14).trans K15, W14.kpP K15 P14⟩
          · exact hN _ _ ⟨fh + d6, rfl, by omega, P14, K1013.trans K14, W14⟩
        · exact hN _ _ ⟨fh + d6, rfl, by omega, P13, K1013, W13⟩
      rintro σ H14 ⟨st, rfl, hst, P14, K14, W14⟩
      refine ⟨_, rfl, _, rfl, _, rfl, _, _, rfl, rfl, p, wd + 2, rfl, P14, by omega, by omega, fun d7 H15 g0 g1 P15 K15 => ?_⟩
      refine ⟨_, _, rfl, rfl, ?_⟩
      have W15 := W14.kpP K15 P14
      refine nxp_mid (fun σ H' => ∃ en : Int, σ = [some (.ref p), some (.int fh), some (.int wd), some (.bl ap), some (.ref d), some (.str nm'), some (.int st), some (.int en)] ∧ en.natAbs < 10 ^ 70 ∧ Purse H' p ∧ Kp [p] H10 H' ∧ WinAt H' d rs) (fun N hN => ?_) ?_
      · refine ⟨_, rfl, p, 12, rfl, P15, by decide, by decide, fun d8 H16 g2 g3 P16 K16 => ?_⟩
        have W16 := W15.kpP K16 P15
        refine ⟨rfl, _, rfl, ?_⟩
        refine ite2 (fun c => ?_) (fun c => ?_)
        · refine ⟨_, rfl, _, _, rfl, rfl, _, rfl, p, 30, rfl, P16, by decide, by decide, fun d9 H17 g4 g5 P17 K17 => ?_⟩
          exact ⟨_, _, rfl, rfl, hN _ _ ⟨st - 1 - d9, rfl, by omega, P17, ((K14.trans K15).trans K16).trans K17, W16.kpP K17 P16⟩⟩
        · exact hN _ _ ⟨st + d7, rfl, by omega, P16, (K14.trans K15).trans K16, W16⟩
      rintro σ H16 ⟨en', rfl, hen, P16, K16, W16⟩
      refine ⟨_, rfl, _, rfl, (by walk_at "ln"), fun a ha => ?_⟩
      have fa : Fre H16 a := ha
      have k17 : Kp [] H16 (upd H16 a (.tup [.int st, .int en'])) := Kp.new Kp.refl fa
      have e17 : upd H16 a (.tup [.int st, .int en']) a = some (.tup [.int st, .int en']) := upd_same
      generalize upd H16 a (.tup [.int st, .int en']) = H17 at k17 e17
      have W17 := W16.kp0 k17
      have P17 := P16.kp k17 (by simp)
      have nin : nm' ∉ rs.map (·.1) := by
        rw [e10]
        have nd2 : (ns.take (i + 1)).Nodup := nd.sublist (List.take_sublist _ _)
        rw [take_snoc en] at nd2
        exact fun h => (List.nodup_append.mp nd2).2.2 _ h _ (by simp) rfl
      have rl : rs.length = i := by
        have := congrArg List.length e10
        rw [List.length_map, List.length_take] at this; omega
      refine ⟨_, rfl, _, rfl, _, _, rfl, DPut.k (k := Sum.inr nm') W17.top (by rw [kvW_len, sizeLine_eq]; omega), ?_⟩
      rw [putW_app (s := st) (e := en') nin]
      have W18 := W17.put (x := nm') e17
      refine ⟨rs ++ [(nm', a, st, en')], ap, _, _, _, rfl, P17.kp (M := [d]) (Kp.put Kp.refl (by simp)) (nm1 npd), ((K10.trans (K16.weak (by simp))).trans (k17.weak (by simp))).trans (Kp.put Kp.refl (by simp)), W18, by rw [List.map_append, e10, take_snoc en]; rfl, fun r hr' => ?_, fun r hr' => ?_⟩
      · rcases List.mem_append.mp hr' with z | z
        · exact bs10 r z
        · have : r = (nm', a, st, en') := by simpa using z
          rw [this]
          show st.natAbs < _
          omega
      · rcases List.mem_append.mp hr' with z | z
        · exact be10 r z
        · have : r = (nm', a, st, en') := by simpa using z
          rw [this]
          exact hen
    · rintro σ H10 ⟨rs, ap, o5, o6, o7, rfl, P10, K10, W10, e10, bs10, be10⟩
      have eT : ns.take (ns.map V.str).length = ns := by rw [List.length_map, List.take_length]
      rw [eT] at e10
      have rl : rs.length = ns.length := by rw [← e10, List.length_map]
      exact ⟨_, rfl, k d rs H10 W10 ⟨by rw [e10]; exact nd, fun r hr' => nm _ (by rw [← e10]; exact List.mem_map.mpr ⟨r, hr', rfl⟩), bs10, be10, by omega⟩ P10 (kp_drop2 A9 fd0 K10)⟩
end
end My
set_option Elab.async false
set_option linter.all false
set_option maxRecDepth 100000
set_option maxHeartbeats 4000000
namespace My
open PySem L2
def aheadV : Option Int → V
  | none => .non
  | some u => .int u
theorem done_snoc {P : List (Int × List Str)} {i : Nat} {q : Int × List Str} (h : P[i]? = some q) : doneOf (P.take (i + 1)) = doneOf (P.take i) ++ q.2 := by
  unfold doneOf
  rw [take_snoc h, List.flatMap_append]
  simp
theorem done_parts {P : List (Int × List Str)} {i : Nat} {q : Int × List Str} (h : P[i]? = some q) : ∃ z, doneOf P = doneOf (P.take i) ++ (q.2 ++ z) := by
  refine ⟨doneOf (P.drop (i + 1)), ?_⟩
  have e := parts_at h
  conv => lhs; rw [e]
  unfold doneOf
  rw [List.flatMap_append, List.flatMap_cons]
theorem planOf_at {ts : List Tn} {i : Nat} {t : Tn} (h : ts[i]? = some t) : (planOf ts)[i]? = some t.2.2 := by
  unfold planOf
  rw [List.getElem?_map, h]; rfl
theorem planOf_len (ts : List Tn) : (planOf ts).length = ts.length := by unfold planOf; rw [List.length_map]
theorem tn_at {ts : List Tn} {i : Nat} {v : V} (h : (ts.map fun t => V.ref t.1)[i]? = some v) : ∃ t, ts[i]? = some t ∧ v = .ref t.1 := by
  rw [List.getElem?_map] at h
  obtain ⟨t, e, r⟩ := Option.map_eq_some_iff.mp h
  exact ⟨t, e, r.symm⟩
theorem rd_at {rs : List Wn} (nd : (rs.map (·.1)).Nodup) {H : Hp} {d : Addr} (h : WinAt H d rs) {x : Str} (hx : x ∈ rs.map (·.1)) : ∃ r ∈ rs, r.1 = x ∧ DGet H d (.str x) (some (.ref r.2.1)) ∧ H r.2.1 = some (.tup [.int (wOf rs x).1, .int (wOf rs x).2]) := by
  obtain ⟨r, hr, rfl⟩ := List.mem_map.mp hx
  refine ⟨r, hr, rfl, h.get nd hr, ?_⟩
  rw [wOf_at nd hr]
  exact h.row r hr
section
variable {P : Program} {w : World} {K : PySem.W.Frag} {mg : Str → Option Value} {base : Heap}
abbrev s_whole : Stmt := top 26
theorem sc_whole : FnScope ["_law_found"] ["_law_found"] (defScope s_whole) := ⟨rfl, rfl, rfl, by decide +kernel, rfl, by decide +kernel, by decide +kernel⟩
theorem ok_whole {f : Addr} {fd : FuncData} (F : Fun K "_law_whole" "_law_whole" s_whole f fd) (T : Txt K mg) : FnOk P w K mg base CX0 1 f fd ["_law_found"] spWhole := by
  refine F.ok sc_whole (fun vs H Q E h => ?_) (fun cdv A outer s H vs Q E hr h => ?_)
  · obtain ⟨v, rfl, _⟩ := h
    rfl
  · obtain ⟨i, rfl, k⟩ := h
    refine ⟨_, (pss_one (ps_ret (pe_and (pe_callB call_isT (by rfl) T.z_isinstance bo_isinstance (pa_cons (pv 0) (pa_cons (pe_bltn (by rfl) T.z_int bo_int (v := .ty "int") rfl) pa_nil))) (pe_one (pe_not (pe_callB call_isT (by rfl) T.z_isinstance bo_isinstance (pa_cons (pv 0) (pa_cons (pe_bltn (by rfl) T.z_bool bo_bool (v := .ty "bool") rfl) pa_nil)))))))), ?_⟩
    refine ⟨_, rfl, _, _, _, _, rfl, TyOf.int i, kit_same, _, rfl, iteT ?_⟩
    exact ⟨_, rfl, _, _, _, _, rfl, TyOf.int i, kit_ib, _, rfl, k⟩
def spIsPlan : Sp := fun vs H Q _ => ∃ (b : Int) (d tl : Addr) (rs : List Wn) (ts : List Tn) (zs : List Str), vs = [.int b, .ref d, .ref tl] ∧ WinAt H d rs ∧ WinOk (10 ^ 80) rs ∧ 1 ≤ b ∧ PlanAt H tl ts ∧ zs.Perm (rs.map (·.1)) ∧ Good b.toNat (wOf rs) none zs (planOf ts) ∧ ∀ H', Kp [] H H' → Q (.bl true) H'
abbrev s_is_plan : Stmt := top 27
theorem sc_is_plan : FnScope ["_law_benches_here", "_law_windows_here", "_law_turns", "_law_done", "_law_ahead", "_law_pair", "_law_name"] ["_law_benches_here", "_law_windows_here", "_law_turns"] (defScope s_is_plan) := ⟨rfl, rfl, rfl, by decide +kernel, rfl, by decide +kernel, by decide +kernel⟩
theorem ok_is_plan {f : Addr} {fd : FuncData} (F : Fun K "_law_is_plan" "_law_is_plan" s_is_plan f fd) (T : Txt K mg) (C_whole : Cal P w K mg base "_law_whole" 1 ["_law_found"] spWhole) : FnOk P w K mg base CX0 2 f fd ["_law_benches_here", "_law_windows_here", "_law_turns"] spIsPlan := by
  refine F.ok sc_is_plan (fun vs H Q E h => ?_) (fun cdv A outer s H vs Q E hr h => ?_)
  · obtain ⟨b, d, tl, rs, ts, zs, rfl, _⟩ := h
    rfl
  · obtain ⟨b, d, tl, rs, ts, zs, rfl, hd, ok, b1, R, pz, good, k⟩ := h
    have hu := hu_of hr
    refine ⟨_, (pss_cons (ps_set (i := 3) sc_is_plan.nd rfl (by walk_at "lc") (pe_lst pa_nil))
      (pss_cons (ps_set (i := 4) sc_is_plan.nd rfl (by walk_at "lc") pe_non)
      (pss_cons (ps_for PassesOwn.never rfl (pi_list (pv 2)) (pg_name (i := 5) sc_is_plan.nd rfl (by walk_at "lc"))
        (pss_cons (ps_if (PW.pt (pw_or (pt_not (pt_val (pe_callB call_isT (by rfl) T.z_isinstance bo_isinstance (pa_cons (pv 5) (pa_cons (pe_bltn (by rfl) T.z_tuple bo_tuple (v := .ty "tuple") rfl) pa_nil))))) (pw_or (pt_cmpR op_ne (pe_callB call_len_seq (by rfl) T.z_len bo_len (pa_cons (pv 5) pa_nil)) pe_int (nomark _)) (pw_or (pt_not (pt_val (pe_callC C_whole hr rfl (pa_cons (pe_ix ix_tup (pv 5) pe_int (fun _ _ => rfl)) pa_nil)))) (pw_or1 (pt_not (pt_val (pe_callB call_isT (by rfl) T.z_isinstance bo_isinstance (pa_cons (pe_ix ix_tup (pv 5) pe_int (fun _ _ => rfl)) (pa_cons (pe_bltn (by rfl) T.z_list bo_list (v := .ty "list") rfl) pa_nil))))))))))
          (pss_one (ps_ret pe_bl))
          pss_nil)
        (pss_cons (ps_if (PW.pt (pw_or (pt_cmpR (op_eqL hr) (pe_ix ix_tup (pv 5) pe_int (fun _ _ => rfl)) (pe_lst pa_nil) (nomark _)) (pw_or (pt_cmpR op_gt (pe_callB call_len_seq (by rfl) T.z_len bo_len (pa_cons (pe_ix ix_tup (pv 5) pe_int (fun _ _ => rfl)) pa_nil)) (pv 0) (nomark _)) (pw_or1 (PW.pt (pw_and (pt_cmpR op_notN (pv 4) pe_non (nomark _)) (pw_and1 (pt_cmpR op_le (pe_ix ix_tup (pv 5) pe_int (fun _ _ => rfl)) (pv 4) (nomark _)))))))))
          (pss_one (ps_ret pe_bl))
          pss_nil)
        (pss_cons (ps_for PassesOwn.never rfl (pi_list (pe_ix ix_tup (pv 5) pe_int (fun _ _ => rfl))) (pg_name (i := 6) sc_is_plan.nd rfl (by walk_at "lc"))
          (pss_cons (ps_if (PW.pt (pw_or (pt_cmpR op_in_seq (pv 6) (pv 3) (by rfl)) (pw_or (pt_cmp (pc_dnotin hu (pv 6) (pv 1))) (pw_or1 (pt_not (pt_chain op_le op_le (pe_ix ix_tup (pe_dget hu (pv 1) (pv 6) (fun _ _ => rfl)) pe_int (fun _ _ => rfl)) (pe_ix ix_tup (pv 5) pe_int (fun _ _ => rfl)) (pe_ix ix_tup (pe_dget hu (pv 1) (pv 6) (fun _ _ => rfl)) pe_int (fun _ _ => rfl))))))))
            (pss_one (ps_ret pe_bl))
            pss_nil)
          (pss_one (ps_expr (pe_bm PySem.F.plainAttrs_list PySem.F.slot_list_append PySem.F.type_list_append mt_append (pv 3) (pa_cons (pv 6) pa_nil))))))
        (pss_one (ps_set (i := 4) sc_is_plan.nd rfl (by walk_at "lc") (pe_ix ix_tup (pv 5) pe_int (fun _ _ => rfl))))))))
      (pss_one (ps_ret (pe_cmpR op_eq (pe_callB call_len_seq (by rfl) T.z_len bo_len (pa_cons (pv 3) pa_nil)) (pe_callB call_lenD (by rfl) T.z_len bo_len (pa_cons (pv 1) pa_nil)) (nomark _))))))), ?_⟩
    have rl := ok.len
    have zn : zs.Nodup := pz.nodup_iff.mpr ok.nd
    have dp : (doneOf (planOf ts)).Perm zs := good.perm zn
    have dn : (doneOf (planOf ts)).Nodup := dp.nodup_iff.mpr zn
    have dl : (doneOf (planOf ts)).length = rs.length := by rw [dp.length_eq, pz.length_eq, List.length_map]
    have dm : ∀ x ∈ doneOf (planOf ts), x ∈ rs.map (·.1) := fun x hx => pz.mem_iff.mp (dp.mem_iff.mp hx)
    refine ⟨(by walk_at "ln"), fun D hD => ?_⟩
    have fD : Fre H D := hD
    have k1 : Kp [] H (upd H D (.lst [])) := Kp.new Kp.refl fD
    have e1 : upd H D (.lst []) D = some (.lst []) := upd_same
    generalize upd H D (.lst []) = H1 at k1 e1
    refine ⟨_, rfl, _, rfl, ⟨_, SqL.of (k1 _ _ R.top (by simp))⟩, for_list (xs := ts.map fun t => V.ref t.1) (fun i σ H2 => (∃ o5 o6, σ = [some (.int b), some (.ref d), some (.ref tl), some (.ref D), some (aheadV (lastOf none ((planOf ts).take i))), o5, o6]) ∧ Kp [] H H2 ∧ H2 D = some (.lst ((doneOf ((planOf ts).take i)).map V.str))) ⟨⟨_, _, rfl⟩, k1, e1⟩ (fun i σ H2 _ ⟨_, k2, _⟩ => SqL.of (k2 _ _ R.top (by simp))) ?_ ?_⟩
    · rintro i v σ H2 hv ⟨⟨o5, o6, rfl⟩, k2, h2⟩
      obtain ⟨t, et, rfl⟩ := tn_at hv
      have mt : t ∈ ts := List.mem_of_getElem? et
      have ep := planOf_at et
      have mp : t.2.2 ∈ planOf ts := List.mem_of_getElem? ep
      obtain ⟨g1, g2, g3⟩ := good.each _ mp
      have g4 := good.rise i _ ep
      obtain ⟨zz, edone⟩ := done_parts ep
      have R2 := R.kp0 k2
      have ht := R2.tup t mt
      have hro := R2.row t mt
      refine ⟨_, rfl, _, _, _, _, rfl, TyOf.tup ht, kit_same, _, rfl, iteF ?_⟩
      refine ⟨_, rfl, _, _, rfl, .inr (SqT.of ht), rfl, _, rfl, iteF ?_⟩
      refine ⟨_, rfl, _, _, _, _, rfl, rfl, SqT.of ht, rfl, _, rfl, _, rfl, iteF ?_⟩
      refine ⟨_, rfl, _, _, _, _, rfl, rfl, SqT.of ht, rfl, _, _, _, _, rfl, TyOf.lst hro, kit_same, _, rfl, iteF ?_⟩
      refine ⟨_, rfl, _, _, _, _, rfl, rfl, SqT.of ht, rfl, (by walk_at "ln"), fun E' hE' => ?_⟩
      have fE : Fre H2 E' := hE'
      have k3 : Kp [] H2 (upd H2 E' (.lst [])) := Kp.new Kp.refl fE
      have e3 : upd H2 E' (.lst []) E' = some (.lst []) := upd_same
      generalize upd H2 E' (.lst []) = H3 at k3 e3
      have ht3 := k3 _ _ ht (by simp)
      have hr3 := k3 _ _ hro (by simp)
      refine .inr ⟨_, _, _, _, rfl, rfl, SqL.of hr3, SqL.of e3, by rw [List.length_map, List.length_nil]; exact fun z => g1 (List.length_eq_zero_iff.mp z), _, rfl, iteF ?_⟩
      refine ⟨_, rfl, _, _, _, _, rfl, rfl, SqT.of ht3, rfl, _, _, rfl, .inl (SqL.of hr3), _, rfl, _, _, rfl, rfl, _, rfl, ?_⟩
      refine ite2 (fun c => ?_) (fun _ => ?_)
      · have c := of_decide_eq_true c
        rw [List.length_map] at c
        omega
      have k13 : Kp [] H H3 := k2.trans k3
      have h3 := k3 _ _ h2 (by simp)
      have key : ∀ (Q' : Bool → Hp → Prop), Q' false H3 → tAnd (tTest (tOp (fun x y H Q => y = V.non ∧ Q (V.bl !decide (x = V.non)) H) (tVar 4) (tC V.non))) (tTest (tOp (rI0 fun i j => V.bl (decide (i ≤ j))) (tOp (rIxT K) (tVar 5) (tC (V.int 0))) (tVar 4)))
          [some (V.int b), some (V.ref d), some (V.ref tl), some (V.ref D), some (aheadV (lastOf none (List.take i (planOf ts)))), some (V.ref t.1), o6] H3 Q' := by
        intro Q' hQ
        cases hl : lastOf none (List.take i (planOf ts)) with
        | none => exact ⟨_, rfl, rfl, _, rfl, iteF hQ⟩
        | some u =>
          have := g4 u hl
          refine ⟨_, rfl, rfl, _, rfl, iteT ⟨_, rfl, _, _, _, _, rfl, rfl, SqT.of ht3, rfl, _, rfl, _, _, rfl, rfl, _, rfl, ?_⟩⟩
          rw [decide_eq_false (by omega)]
          exact hQ
      refine key _ (iteF ?_)
      refine ⟨_, rfl, _, _, _, _, rfl, rfl, SqT.of ht3, rfl, _, rfl, ⟨_, SqL.of hr3⟩, for_list (xs := t.2.2.2.map V.str) (fun j σ H4 => (∃ o6, σ = [some (.int b), some (.ref d), some (.ref tl), some (.ref D), some (aheadV (lastOf none ((planOf ts).take i))), some (.ref t.1), o6]) ∧ Kp [] H H4 ∧ H4 D = some (.lst ((doneOf ((planOf ts).take i) ++ t.2.2.2.take j).map V.str))) ⟨⟨_, rfl⟩, k13, by rw [List.take_zero, List.append_nil]; exact h3⟩ (fun j σ H4 _ ⟨_, k4, _⟩ => SqL.of (k4 _ _ (R.row t mt) (by simp))) ?_ ?_⟩
      · rintro j v σ H4 hv ⟨⟨o6, rfl⟩, k4, h4⟩
        obtain ⟨x, ex, rfl⟩ := str_at hv
        have xr : x ∈ t.2.2.2 := List.mem_of_getElem? ex
        have xd : x ∈ doneOf (planOf ts) := by rw [edone]; simp [xr]
        have W4 := hd.kp0 k4
        have ht4 := k4 _ _ (R.tup t mt) (by simp)
        obtain ⟨r, hr', er, dg, hw⟩ := rd_at ok.nd W4 (dm x xd)
        obtain ⟨w1, w2⟩ := g3 x xr
        have nx : x ∉ doneOf ((planOf ts).take i) ++ t.2.2.2.take j := fun z => by
          have e := parts_at ex
          rw [edone, e, ← List.append_assoc] at dn
          rw [List.append_assoc, List.append_assoc, ← List.append_assoc] at dn
          exact (List.nodup_append.mp dn).2.2 x z x (by simp) rfl
        refine ⟨_, rfl, _, rfl, _, _, rfl, .inl (SqL.of h4), by simp [flatV], flat_strs _, _, rfl, ?_⟩
        rw [if_neg (by decide), inV_str, decide_eq_false nx]
        refine iteF ⟨_, rfl, _, rfl, d, _, rfl, dg, _, rfl, iteF ?_⟩
        refine ⟨_, rfl, _, rfl, d, _, rfl, dg, _, _, _, _, rfl, rfl, SqT.of hw, rfl, _, rfl, _, _, _, _, rfl, rfl, SqT.of ht4, rfl, _, _, rfl, rfl, _, rfl, ?_⟩
        rw [decide_eq_true w1]
        refine iteT ⟨_, rfl, _, rfl, d, _, rfl, dg, _, _, _, _, rfl, rfl, SqT.of hw, rfl, _, _, rfl, rfl, _, rfl, ?_⟩
        rw [decide_eq_true w2]
        refine iteF ?_
        have ll : (doneOf ((planOf ts).take i) ++ t.2.2.2.take j).length < 64 := by
          have h1 := congrArg List.length edone
          rw [List.length_append, List.length_append] at h1
          rw [List.length_append, List.length_take]
          omega
        refine ⟨_, rfl, .inl ⟨rfl, _, SqL.of h4⟩, _, rfl, _, _, _, rfl, rfl, h4, by rw [List.length_map, sizeLine_eq]; omega, ⟨_, rfl⟩, kp_drop k4 fD (Kp.put Kp.refl (by simp)), ?_⟩
        rw [upd_same, take_snoc ex, ← List.append_assoc, List.map_append (l₂ := [x])]
        rfl
      · rintro σ H4 ⟨⟨o6, rfl⟩, k4, h4⟩
        rw [List.length_map, List.take_length, ← done_snoc ep] at h4
        have ht4 := k4 _ _ (R.tup t mt) (by simp)
        refine ⟨_, rfl, _, _, _, _, rfl, rfl, SqT.of ht4, rfl, ⟨some (.ref t.1), o6, ?_⟩, k4, h4⟩
        rw [lastOf_snoc ep]; rfl
    · rintro σ H2 ⟨⟨o5, o6, rfl⟩, k2, h2⟩
      rw [List.length_map, ← planOf_len, List.take_length] at h2
      refine ⟨_, rfl, _, _, rfl, .inl (SqL.of h2), _, rfl, _, _, rfl, (k2 _ _ hd.top (by simp)), rfl, ?_⟩
      rw [List.length_map, kvW_len, dl]
      have e : decide (V.int ((rs.length : Nat) : Int) = V.int ((rs.length : Nat) : Int)) = true := decide_eq_true rfl
      rw [e]
      exact k _ k2
theorem mx2 (x : Int) : (if x > 0 then x else 0) = mx x := by unfold mx; split <;> split <;> omega
theorem rowW_mem {rs : List Wn} {s e : Int} {x : Str} (nd : (rs.map (·.1)).Nodup) (h : x ∈ (rowW rs s e).map (·.1)) : x ∈ rs.map (·.1) ∧ s ≤ (wOf rs x).1 ∧ (wOf rs x).2 ≤ e := by
  obtain ⟨r, hr, rfl⟩ := List.mem_map.mp h
  obtain ⟨h1, h2⟩ := List.mem_filter.mp hr
  rw [wOf_at nd h1]
  have := inW_iff.mp h2
  exact ⟨List.mem_map.mpr ⟨r, h1, rfl⟩, this⟩
theorem rowW_nd {rs : List Wn} {s e : Int} (nd : (rs.map (·.1)).Nodup) : ((rowW rs s e).map (·.1)).Nodup := nd.sublist (List.filter_sublist.map _)
def spIsCrowd : Sp := fun vs H Q _ => ∃ (b : Int) (d t l : Addr) (rs : List Wn) (s e : Int), vs = [.int b, .ref d, .ref t] ∧ WinAt H d rs ∧ WinOk (10 ^ 80) rs ∧ 1 ≤ b ∧ b < 10 ^ 80 ∧ H t = some (.tup [.str "crowd", .int s, .int e, .ref l]) ∧ H l = some (.lst ((rowW rs s e).map fun r => V.str r.1)) ∧ ((rowW rs s e).length : Int) > b * mx (e - s + 1) ∧ s.natAbs < 10 ^ 80 ∧ e.natAbs < 10 ^ 80 ∧ ∀ H', Kp [] H H' → Q (.bl true) H'
abbrev s_is_crowd : Stmt := top 28
theorem sc_is_crowd : FnScope ["_law_benches_here", "_law_windows_here", "_law_told", "_law_k", "_law_name"] ["_law_benches_here", "_law_windows_here", "_law_told"] (defScope s_is_crowd) := ⟨rfl, rfl, rfl, by decide +kernel, rfl, by decide +kernel, by decide +kernel⟩
theorem ok_is_crowd {f : Addr} {fd : FuncData} (F : Fun K "_law_is_crowd" "_law_is_crowd" s_is_crowd f fd) (T : Txt K mg) (C_whole : Cal P w K mg base "_law_whole" 1 ["_law_found"] spWhole) : FnOk P w K mg base CX0 2 f fd ["_law_benches_here", "_law_windows_here", "_law_told"] spIsCrowd := by
  refine F.ok sc_is_crowd (fun vs H Q E h => ?_) (fun cdv A outer s H vs Q E hr h => ?_)
  · obtain ⟨b, d, t, l, rs, s', e', rfl, _⟩ := h
    rfl
  · obtain ⟨b, d, t, l, rs, s', e', rfl, hd, ok, b1, b2, ht, hl, big, hs, he, k⟩ := h
    have hu := hu_of hr
    refine ⟨_, (pss_cons (ps_if (PW.pt (pw_or (pt_cmpR op_ne (pe_callB call_len_seq (by rfl) T.z_len bo_len (pa_cons (pv 2) pa_nil)) pe_int (nomark _)) (pw_or (pt_not (pt_val (pe_callC C_whole hr rfl (pa_cons (pe_ix ix_tup (pv 2) pe_int (fun _ _ => rfl)) pa_nil)))) (pw_or (pt_not (pt_val (pe_callC C_whole hr rfl (pa_cons (pe_ix ix_tup (pv 2) pe_int (fun _ _ => rfl)) pa_nil)))) (pw_or1 (pt_not (pt_val (pe_callB call_isT (by rfl) T.z_isinstance bo_isinstance (pa_cons (pe_ix ix_tup (pv 2) pe_int (fun _ _ => rfl)) (pa_cons (pe_bltn (by rfl) T.z_list bo_list (v := .ty "list") rfl) pa_nil))))))))))
        (pss_one (ps_ret pe_bl))
        pss_nil)
      (pss_cons (ps_for PassesOwn.never rfl (pi_range1 rfl T.z_range (pa_cons (pe_callB call_len_seq (by rfl) T.z_len bo_len (pa_cons (pe_ix ix_tup (pv 2) pe_int (fun _ _ => rfl)) pa_nil)) pa_nil)) (pg_name (i := 3) sc_is_crowd.nd rfl (by walk_at "lc"))
        (pss_cons (ps_set (i := 4) sc_is_crowd.nd rfl (by walk_at "lc") (pe_ix ix_list (pe_ix ix_tup (pv 2) pe_int (fun _ _ => rfl)) (pv 3) (fun _ _ => rfl)))
        (pss_cons (ps_if (PW.pt (pw_or (pt_cmpR op_in_seq (pv 4) (pe_slice sl_list (pe_ix ix_tup (pv 2) pe_int (fun _ _ => rfl)) po_none (po_some (pv 3))) (by rfl)) (pw_or1 (pt_cmp (pc_dnotin hu (pv 4) (pv 1))))))
          (pss_one (ps_ret pe_bl))
          pss_nil)
        (pss_one (ps_if (PW.pt (pw_or (pt_cmpR op_lt (pe_ix ix_tup (pe_dget hu (pv 1) (pv 4) (fun _ _ => rfl)) pe_int (fun _ _ => rfl)) (pe_ix ix_tup (pv 2) pe_int (fun _ _ => rfl)) (nomark _)) (pw_or1 (pt_cmpR op_gt (pe_ix ix_tup (pe_dget hu (pv 1) (pv 4) (fun _ _ => rfl)) pe_int (fun _ _ => rfl)) (pe_ix ix_tup (pv 2) pe_int (fun _ _ => rfl)) (nomark _)))))
          (pss_one (ps_ret pe_bl))
          pss_nil)))))
      (pss_one (ps_ret (pe_cmpR op_gt (pe_callB call_len_seq (by rfl) T.z_len bo_len (pa_cons (pe_ix ix_tup (pv 2) pe_int (fun _ _ => rfl)) pa_nil)) (pe_op op_mulB (pv 0) (pe_callB (call_max2 rfl) (by rfl) T.z_max bo_max (pa_cons pe_int (pa_cons (pe_op op_add (pe_op op_sub (pe_ix ix_tup (pv 2) pe_int (fun _ _ => rfl)) (pe_ix ix_tup (pv 2) pe_int (fun _ _ => rfl))) pe_int) pa_nil)))) (nomark _)))))), ?_⟩
    have rl := ok.len
    have el : ((rowW rs s' e').map fun r => V.str r.1) = ((rowW rs s' e').map (·.1)).map V.str := by rw [List.map_map]; rfl
    have nd := rowW_nd (s := s') (e := e') ok.nd
    have rin : ∀ x ∈ (rowW rs s' e').map (·.1), x ∈ rs.map (·.1) ∧ s' ≤ (wOf rs x).1 ∧ (wOf rs x).2 ≤ e' := fun x hx => rowW_mem ok.nd hx
    have lenr : ((rowW rs s' e').map (·.1)).length ≤ 20 := by
      rw [List.length_map]
      have : (rowW rs s' e').length ≤ rs.length := List.length_filter_le _ _
      omega
    have big' : (((rowW rs s' e').map (·.1)).length : Int) > b * mx (e' - s' + 1) := by rw [List.length_map]; exact big
    rw [el] at hl
    clear el big
    generalize (rowW rs s' e').map (·.1) = row at hl nd rin lenr big'
    refine ⟨_, rfl, _, _, rfl, .inr (SqT.of ht), rfl, _, rfl, iteF ?_⟩
    refine ⟨_, rfl, _, _, _, _, rfl, rfl, SqT.of ht, rfl, _, rfl, _, rfl, iteF ?_⟩
    refine ⟨_, rfl, _, _, _, _, rfl, rfl, SqT.of ht, rfl, _, rfl, _, rfl, iteF ?_⟩
    refine ⟨_, rfl, _, _, _, _, rfl, rfl, SqT.of ht, rfl, _, _, _, _, rfl, TyOf.lst hl, kit_same, _, rfl, iteF ?_⟩
    refine ⟨_, rfl, _, _, _, _, rfl, rfl, SqT.of ht, rfl, _, _, rfl, .inl (SqL.of hl), _, rfl, ?_⟩
    rw [List.length_map]
    refine ⟨by omega, by omega, ?_⟩
    refine for_range (lo := 0) (n := row.length) (fun i σ H2 => (∃ o3 o4, σ = [some (.int b), some (.ref d), some (.ref t), o3, o4]) ∧ Kp [] H H2) ⟨⟨_, _, rfl⟩, Kp.refl⟩ ?_ ?_
    · rintro j σ H2 hj ⟨⟨o3, o4, rfl⟩, k2⟩
      have ht2 := k2 _ _ ht (by simp)
      have hl2 := k2 _ _ hl (by simp)
      have W2 := hd.kp0 k2
      obtain ⟨x, ex⟩ : ∃ x, row[j]? = some x := ⟨_, List.getElem?_eq_getElem hj⟩
      have xr : x ∈ row := List.mem_of_getElem? ex
      obtain ⟨xin, xs, xe⟩ := rin x xr
      have xv : atI (row.map V.str) (0 + (j : Int)) = some (.str x) := by
        rw [show (0 + (j : Int)) = (j : Int) by omega]
        exact atI_at (by omega) (by rw [show ((j : Int)).toNat = j by omega, List.getElem?_map, ex]; rfl)
      refine ⟨_, rfl, _, _, _, _, rfl, rfl, SqT.of ht2, rfl, _, rfl, _, _, _, _, rfl, rfl, SqL.of hl2, xv, ?_⟩
      refine ⟨_, rfl, _, rfl, _, _, _, _, rfl, rfl, SqT.of ht2, rfl, _, rfl, _, rfl, _, _, rfl, SqL.of hl2, fun c hc => ?_⟩
      have fc : Fre H2 c := hc
      rw [show (0 + (j : Int)) = (j : Int) by omega, cut_to _ (by omega), show ((j : Int)).toNat = j by omega, ← List.map_take]
      have kc : Kp [] H2 (upd H2 c (.lst ((row.take j).map V.str))) := Kp.new Kp.refl fc
      have ec : upd H2 c (.lst ((row.take j).map V.str)) c = some (.lst ((row.take j).map V.str)) := upd_same
      generalize upd H2 c (.lst ((row.take j).map V.str)) = H3 at kc ec
      have nx : x ∉ row.take j := fun z => by
        have e := parts_at ex
        rw [e] at nd
        exact (List.nodup_append.mp nd).2.2 x z x (by simp) rfl
      have ht3 := kc _ _ ht2 (by simp)
      obtain ⟨r, hr', er, dg, hw⟩ := rd_at ok.nd (W2.kp0 kc) xin
      refine ⟨_, _, rfl, .inl (SqL.of ec), by simp [flatV], flat_strs _, _, rfl, ?_⟩
      rw [if_neg (by decide), inV_str, decide_eq_false nx]
      refine iteF ⟨_, rfl, _, rfl, d, _, rfl, dg, _, rfl, iteF ?_⟩
      refine ⟨_, rfl, _, rfl, d, _, rfl, dg, _, _, _, _, rfl, rfl, SqT.of hw, rfl, _, rfl, _, _, _, _, rfl, rfl, SqT.of ht3, rfl, _, _, rfl, rfl, _, rfl, ?_⟩
      rw [decide_eq_false (by omega)]
      refine iteF ⟨_, rfl, _, rfl, d, _, rfl, dg, _, _, _, _, rfl, rfl, SqT.of hw, rfl, _, rfl, _, _, _, _, rfl, rfl, SqT.of ht3, rfl, _, _, rfl, rfl, _, rfl, ?_⟩
      rw [decide_eq_false (by omega)]
      exact iteF ⟨⟨_, _, rfl⟩, k2.trans kc⟩
    · rintro σ H2 ⟨⟨o3, o4, rfl⟩, k2⟩
      have ht2 := k2 _ _ ht (by simp)
      have hl2 := k2 _ _ hl (by simp)
      refine ⟨_, rfl, _, _, _, _, rfl, rfl, SqT.of ht2, rfl, _, _, rfl, .inl (SqL.of hl2), _, rfl, _, rfl, _, _, _, _, rfl, rfl, SqT.of ht2, rfl, _, rfl, _, _, _, _, rfl, rfl, SqT.of ht2, rfl, _, _, rfl, rfl, _, _, rfl, rfl, _, _, rfl, ?_⟩
      rw [mx2]
      refine ⟨_, _, rfl, rfl, ⟨b_big b1 b2, mx_big hs he⟩, _, _, rfl, rfl, ?_⟩
      rw [List.length_map]
      show Q (V.bl (decide (b * mx (e' - s' + 1) < (row.length : Int)))) H2
      rw [decide_eq_true (show b * mx (e' - s' + 1) < (row.length : Int) from big')]
      exact k _ k2
def Right (b : Int) (rs : List Wn) (H : Hp) (t : Addr) : Prop :=
  (∃ (l : Addr) (s e : Int), H t = some (.tup [.str "crowd", .int s, .int e, .ref l]) ∧ H l = some (.lst ((rowW rs s e).map fun r => V.str r.1)) ∧ ((rowW rs s e).length : Int) > b * mx (e - s + 1) ∧ s.natAbs < 10 ^ 80 ∧ e.natAbs < 10 ^ 80) ∨
  (∃ (l : Addr) (ts : List Tn) (zs : List Str), H t = some (.tup [.str "plan", .ref l]) ∧ PlanAt H l ts ∧ zs.Perm (rs.map (·.1)) ∧ Good b.toNat (wOf rs) none zs (planOf ts))
def spIsAns : Sp := fun vs H Q _ => ∃ (b : Int) (d t : Addr) (rs : List Wn), vs = [.int b, .ref d, .ref t] ∧ WinAt H d rs ∧ WinOk (10 ^ 80) rs ∧ 1 ≤ b ∧ b < 10 ^ 80 ∧ Right b rs H t ∧ ∀ H', Kp [] H H' → Q (.bl true) H'
abbrev s_is_answer : Stmt := top 29
theorem sc_is_answer : FnScope ["_law_benches_here", "_law_windows_here", "_law_told"] ["_law_benches_here", "_law_windows_here", "_law_told"] (defScope s_is_answer) := ⟨rfl, rfl, rfl, by decide +kernel, rfl, by decide +kernel, by decide +kernel⟩
theorem crowd_plan : ¬ (decide (V.str "crowd" = V.str "plan") = true) := fun c => by
  have e := of_decide_eq_true c
  injection e with e
  exact absurd e (by decide +kernel)
theorem ok_is_answer {f : Addr} {fd : FuncData} (F : Fun K "_law_is_answer" "_law_is_answer" s_is_answer f fd) (T : Txt K mg) (C_is_plan : Cal P w K mg base "_law_is_plan" 2 ["_law_benches_here", "_law_windows_here", "_law_turns"] spIsPlan) (C_is_crowd : Cal P w K mg base "_law_is_crowd" 2 ["_law_benches_here", "_law_windows_here", "_law_told"] spIsCrowd) : FnOk P w K mg base CX0 3 f fd ["_law_benches_here", "_law_windows_here", "_law_told"] spIsAns := by
  refine F.ok sc_is_answer (fun vs H Q E h => ?_) (fun cdv A outer s H vs Q E hr h => ?_)
  · obtain ⟨b, d, t, rs, rfl, _⟩ := h
    rfl
  · obtain ⟨b, d, t, rs, rfl, hd, ok, b1, b2, right, k⟩ := h
    refine ⟨_, (pss_cons (ps_if (PW.pt (pw_or (pt_not (pt_val (pe_callB call_isT (by rfl) T.z_isinstance bo_isinstance (pa_cons (pv 2) (pa_cons (pe_bltn (by rfl) T.z_tuple bo_tuple (v := .ty "tuple") rfl) pa_nil))))) (pw_or1 (pt_cmpR op_lt (pe_callB call_len_seq (by rfl) T.z_len bo_len (pa_cons (pv 2) pa_nil)) pe_int (nomark _)))))
        (pss_one (ps_ret pe_bl))
        pss_nil)
      (pss_cons (ps_if (pt_cmpR op_eq (pe_ix ix_tup (pv 2) pe_int (fun _ _ => rfl)) pe_str (nomark _))
        (pss_one (ps_ret (pe_and (pe_cmpR op_eq (pe_callB call_len_seq (by rfl) T.z_len bo_len (pa_cons (pv 2) pa_nil)) pe_int (nomark _)) (pe_and (pe_callB call_isT (by rfl) T.z_isinstance bo_isinstance (pa_cons (pe_ix ix_tup (pv 2) pe_int (fun _ _ => rfl)) (pa_cons (pe_bltn (by rfl) T.z_list bo_list (v := .ty "list") rfl) pa_nil))) (pe_one (pe_callC C_is_plan hr rfl (pa_cons (pv 0) (pa_cons (pv 1) (pa_cons (pe_ix ix_tup (pv 2) pe_int (fun _ _ => rfl)) pa_nil)))))))))
        pss_nil)
      (pss_one (ps_ret (pe_and (pe_cmpR op_eq (pe_ix ix_tup (pv 2) pe_int (fun _ _ => rfl)) pe_str (nomark _)) (pe_one (pe_callC C_is_crowd hr rfl (pa_cons (pv 0) (pa_cons (pv 1) (pa_cons (pv 2) pa_nil)))))))))), ?_⟩
    rcases right with ⟨l, s', e', ht, hl, big, hs, he⟩ | ⟨l, ts, zs, ht, R, pz, good⟩
    · refine ⟨_, rfl, _, _, _, _, rfl, TyOf.tup ht, kit_same, _, rfl, iteF ?_⟩
      refine ⟨_, rfl, _, _, rfl, .inr (SqT.of ht), _, _, rfl, rfl, _, rfl, iteF ?_⟩
      refine ⟨_, rfl, _, _, _, _, rfl, rfl, SqT.of ht, rfl, rfl, _, rfl, ?_⟩
      refine ite2 (fun c => absurd c crowd_plan) (fun _ => ?_)
      refine ⟨_, rfl, _, _, _, _, rfl, rfl, SqT.of ht, rfl, rfl, _, rfl, iteT ?_⟩
      exact ⟨_, rfl, _, rfl, _, rfl, b, d, t, l, rs, s', e', rfl, hd, ok, b1, b2, ht, hl, big, hs, he, k⟩
    · refine ⟨_, rfl, _, _, _, _, rfl, TyOf.tup ht, kit_same, _, rfl, iteF ?_⟩
      refine ⟨_, rfl, _, _, rfl, .inr (SqT.of ht), _, _, rfl, rfl, _, rfl, iteF ?_⟩
      refine ⟨_, rfl, _, _, _, _, rfl, rfl, SqT.of ht, rfl, rfl, _, rfl, iteT ?_⟩
      refine ⟨_, rfl, _, _, rfl, .inr (SqT.of ht), rfl, _, rfl, iteT ?_⟩
      refine ⟨_, rfl, _, _, _, _, rfl, rfl, SqT.of ht, rfl, _, _, _, _, rfl, TyOf.lst R.top, kit_same, _, rfl, iteT ?_⟩
      exact ⟨_, rfl, _, rfl, _, rfl, _, _, _, _, rfl, rfl, SqT.of ht, rfl, b, d, l, rs, ts, zs, rfl, hd, ok, b1, R, pz, good, k⟩
end
end My
set_option Elab.async false
set_option linter.all false
set_option maxRecDepth 100000
set_option maxHeartbeats 4000000
namespace My
open PySem L2
theorem pg_tupK {X : Cx} {K : PySem.W.Frag} {es : List Expr} {k : Nat} {t : TGs} {n : Nat} {pos : Pos} (hc : X.calm = true) (h : PGs X es t)
    (hn : (assignEach es X.env).length = n := by rfl) (hst : (assignEach es X.env).findIdx? (·.1) = none := by rfl) (hK : X.K = K := by rfl) : PG X (.Tuple es k pos) (gTup K n t) := by
  subst hK; exact pg_tup hc h hn hst
theorem tup_kp {H H' : Hp} {Pt a : Addr} {xs : List V} (T : TabA H Pt) (k : Kp [Pt] H H') (h : H a = some (.tup xs)) : H' a = some (.tup xs) := by
  obtain ⟨ps, e⟩ := T.tbl
  exact k a _ h (nm1 fun z => by rw [z, e] at h; cases h)
theorem lst_kp {H H' : Hp} {Pt a : Addr} {xs : List V} (T : TabA H Pt) (k : Kp [Pt] H H') (h : H a = some (.lst xs)) : H' a = some (.lst xs) := by
  obtain ⟨ps, e⟩ := T.tbl
  exact k a _ h (nm1 fun z => by rw [z, e] at h; cases h)
theorem firstC_mem {b : Int} {rs : List Wn} {s e : Int} (h : firstC b rs = some (s, e)) : (∃ r ∈ rs, r.2.2.1 = s) ∧ ∃ q ∈ rs, q.2.2.2 = e := by
  unfold firstC at h
  obtain ⟨r, hr, h⟩ := List.exists_of_findSome?_eq_some h
  obtain ⟨q, hq, z⟩ := Option.map_eq_some_iff.mp h
  cases z
  exact ⟨⟨r, hr, rfl⟩, q, List.mem_of_find?_eq_some hq, rfl⟩
theorem calm_of {b : Int} {rs : List Wn} {zs : List Str} (b1 : 1 ≤ b) (nd : (rs.map (·.1)).Nodup) (h : firstC b rs = none) (pz : zs.Perm (rs.map (·.1))) : Calm b.toNat (wOf rs) zs := fun s e => by
  have c : crowdB b rs = false := firstC_crowd h
  have key : cnt (fun x => decide (s ≤ (wOf rs x).1) && decide ((wOf rs x).2 ≤ e)) zs = ((rs.map (·.2.2)).filter (inW s e)).length := by
    unfold cnt
    rw [(pz.filter _).length_eq, List.filter_map, List.filter_map, List.length_map, List.length_map]
    refine congrArg List.length (List.filter_congr fun r hr => ?_)
    show (decide (s ≤ (wOf rs r.1).1) && decide ((wOf rs r.1).2 ≤ e)) = inW s e r.2.2
    rw [wOf_at nd hr]; rfl
  rw [key, show ((b.toNat : Nat) : Int) = b by omega]
  by_cases z : (((rs.map (·.2.2)).filter (inW s e)).length : Int) ≤ b * mx (e - s + 1)
  · exact z
  · have : crowdB b rs = true := crowd_iff (by omega) ⟨s, e, by omega⟩
    rw [c] at this; cases this
theorem srtd_one {rs : List Wn} {zs ys : List Str} (h : Srtd rs zs) (h' : Srtd rs ys) : zs = ys := one_order sOrd_as (h.1.trans h'.1.symm) h.2 h'.2
theorem told_right {b : Int} {rs : List Wn} {H0 H : Hp} {t : Addr} (b1 : 1 ≤ b) (ok : WinOk (10 ^ 80) rs) (h : Told b rs H0 H t) : Right b rs H t := by
  rcases h with ⟨l, s, e, c, ht, hl, _⟩ | ⟨c, l, ts, zs, ht, so, R, ep, _, _⟩
  · obtain ⟨⟨r, hr, er⟩, q, hq, eq⟩ := firstC_mem c
    exact .inl ⟨l, s, e, ht, hl, firstC_is c, by rw [← er]; exact ok.bs r hr, by rw [← eq]; exact ok.be q hq⟩
  · refine .inr ⟨l, ts, zs, ht, R, so.1, ?_⟩
    rw [ep]
    exact edf_good (by omega) _ none zs (Nat.le_refl _) (so.1.nodup_iff.mpr ok.nd) (sOrd_le so.2) (calm_of b1 ok.nd c so.1) fun u hu => nomatch hu
theorem edf_len {b : Nat} {ω : Win} : ∀ (n : Nat) (last : Option Int) (L : List Str), (edf b ω n last L).length ≤ n
  | 0, _, _ => Nat.le_refl _
  | n + 1, last, [] => Nat.zero_le _
  | n + 1, last, x :: l => by
    rw [edf_ne (by simp), List.length_cons]
    have := edf_len (b := b) (ω := ω) n (some (turnOf ω last (x :: l))) (leftOf (rowOf b ω (turnOf ω last (x :: l)) (x :: l)) (x :: l))
    omega
theorem Alike.up {K : PySem.W.Frag} {H : Hp} {n : Nat} {x y : V} (h : Alike K H n x y) : Alike K H (n + 1) x y := by
  induction h with
  | flat fx => exact .flat fx
  | same => exact .same
  | lists hx hy hl he ih => exact .lists hx hy hl ih
  | tups hx hy hl he ih => exact .tups hx hy hl ih
theorem txtKeysW (rs : List Wn) : TxtKeys (kvW rs) := fun kv hkv => by
  unfold kvW at hkv
  obtain ⟨p, _, rfl⟩ := List.mem_map.mp hkv
  exact ⟨p.1, rfl⟩
theorem kp_drops {M N : List Addr} {H H1 H2 : Hp} (a : Kp M H H1) (f : ∀ m ∈ N, Fre H m) (b : Kp N H1 H2) : Kp M H H2 := fun c o h n => b c o (a c o h n) fun z => by
  have := f c z
  rw [show H c = none from this] at h; cases h
theorem plan_alike {K : PySem.W.Frag} {H : Hp} {l m : Addr} {ts us : List Tn} (a : PlanAt H l ts) (b : PlanAt H m us) (e : planOf ts = planOf us) : Alike K H 7 (.ref l) (.ref m) := by
  have len : ts.length = us.length := by rw [← planOf_len, e, planOf_len]
  refine .lists (n := 6) (SqL.of a.top) (SqL.of b.top) (by rw [List.length_map, List.length_map, len]) fun i x y hx hy => ?_
  obtain ⟨t, et, rfl⟩ := tn_at hx
  obtain ⟨u, eu, rfl⟩ := tn_at hy
  have e1 := planOf_at et
  rw [e, planOf_at eu] at e1
  have e1 : u.2.2 = t.2.2 := Option.some.inj e1
  have mt := List.mem_of_getElem? et
  have mu := List.mem_of_getElem? eu
  have ht := a.tup t mt
  have hu := b.tup u mu
  rw [e1] at hu
  have rt := a.row t mt
  have ru := b.row u mu
  rw [e1] at ru
  refine .tups (n := 5) (SqT.of ht) (SqT.of hu) rfl fun j x y hx hy => ?_
  match j, hx, hy with
  | 0, hx, hy =>
    cases hx
    cases hy
    exact .flat rfl
  | 1, hx, hy =>
    cases hx
    cases hy
    refine .lists (n := 4) (SqL.of rt) (SqL.of ru) rfl fun k x y hx hy => ?_
    rw [hx] at hy
    cases hy
    obtain ⟨z, _, rfl⟩ := str_at hx
    exact .flat rfl
  | n + 2, hx, _ => simp at hx
section
variable {P : Program} {w : World} {K : PySem.W.Frag} {mg : Str → Option Value} {base : Heap}
def spRight (Pt : Addr) : Sp := fun vs H Q _ => ∃ (b : Int) (d : Addr) (rs : List Wn), vs = [.int b, .ref d] ∧ WinAt H d rs ∧ WinOk (10 ^ 70) rs ∧ 1 ≤ b ∧ b < 10 ^ 60 ∧ TabA H Pt ∧ ∀ H', Kp [Pt] H H' → TabA H' Pt → Q (.bl true) H'
abbrev s_right : Stmt := top 30
theorem sc_right : FnScope ["_law_benches_here", "_law_windows_here", "_law_handed", "_law_first", "_law_kept", "_law_turn", "_law_row"] ["_law_benches_here", "_law_windows_here"] (defScope s_right) := ⟨rfl, rfl, rfl, by decide +kernel, rfl, by decide +kernel, by decide +kernel⟩
theorem ok_right {f Pt : Addr} {fd : FuncData} (F : Fun K "_law_right" "_law_right" s_right f fd) (T : Txt K mg) (C_windowed : Cal P w K mg base "windowed" 5 ["benches", "windows"] (spWindowed Pt)) (C_is_answer : Cal P w K mg base "_law_is_answer" 3 ["_law_benches_here", "_law_windows_here", "_law_told"] spIsAns) : FnOk P w K mg base CX0 6 f fd ["_law_benches_here", "_law_windows_here"] (spRight Pt) := by
  refine F.ok sc_right (fun vs H Q E h => ?_) (fun cdv A outer s H vs Q E hr h => ?_)
  · obtain ⟨b, d, rs, rfl, _⟩ := h
    rfl
  · obtain ⟨b, d, rs, rfl, hd, ok, b1, b2, T0, k⟩ := h
    have hr3 := hr.mono (j := 3) (by decide)
    have hu9 : (A.deeper (PyProof.Rows.envOfC (Str.ofString "_law_right") (defScope s_right) s.heap.objs.size f cdv)).units + 2 + 8 < cLine := by have := hu2 hr (n := 9); omega
    refine ⟨_, (pss_cons (ps_set (i := 2) sc_right.nd rfl (by walk_at "lc") (pe_callTy call_dict1 (by rfl) T.z_dict bo_dict (pa_cons (pv 1) pa_nil)))
      (pss_cons (ps_set (i := 3) sc_right.nd rfl (by walk_at "lc") (pe_callC C_windowed hr rfl (pa_cons (pv 0) (pa_cons (pv 2) pa_nil))))
      (pss_cons (ps_if (PW.pt (pw_or (pt_not (pt_val (pe_callC C_is_answer hr3 rfl (pa_cons (pv 0) (pa_cons (pv 1) (pa_cons (pv 3) pa_nil)))))) (pw_or1 (pt_cmpR (op_neD (n := 8) (hu2 hr)) (pv 2) (pv 1) (nomark _)))))
        (pss_one (ps_ret pe_bl))
        pss_nil)
      (pss_cons (ps_if (pt_cmpR op_eq (pe_ix ix_tup (pv 3) pe_int (fun _ _ => rfl)) pe_str (nomark _))
        (pss_cons (ps_comp (i := 4) rfl (blk_mk (sc := defScope s_right) rfl (by decide +kernel)) (Draws.own (x := "_law_turn") (Draws.own (x := "_law_row") Draws.nil)) (pi_list (pe_ix ix_tup (pv 3) pe_int (fun _ _ => rfl))) (fun C s₀ H₀ ex => (pg_tupK (K := K) (n := 2) rfl (pgs_cons (pg_name (i := 0) (show List.Nodup (["_law_turn", "_law_row"] : List Str) by decide +kernel) rfl (by walk_at "lc")) (pgs_cons (pg_name (i := 1) (show List.Nodup (["_law_turn", "_law_row"] : List Str) by decide +kernel) rfl (by walk_at "lc")) pgs_nil)))) (fun C s₀ H₀ ex => pts_nil) (fun C s₀ H₀ ex => (pe_tup (pa_cons (pv 0) (pa_cons (pe_callTy (call_list_ofK (K := K)) (by rfl) T.z_list bo_list (pa_cons (pv 1) pa_nil)) pa_nil)))) sc_right.nd rfl rfl)
        (pss_cons (ps_for PassesOwn.never rfl (pi_list (pe_ix ix_tup (pv 3) pe_int (fun _ _ => rfl))) (pg_tup rfl (pgs_cons (pg_name (i := 5) sc_right.nd rfl (by walk_at "lc")) (pgs_cons (pg_name (i := 6) sc_right.nd rfl (by walk_at "lc")) pgs_nil)))
          (pss_one (ps_expr (pe_bm0 PySem.F.plainAttrs_list PySem.F.slot_list_clear PySem.F.type_list_clear mt_clear (pv 6)))))
        (pss_cons (ps_expr (pe_bm PySem.F.plainAttrs_list PySem.F.slot_list_append PySem.F.type_list_append mt_append (pe_ix ix_tup (pv 3) pe_int (fun _ _ => rfl)) (pa_cons pe_non pa_nil)))
        (pss_one (ps_ret (pe_cmpR (op_eqTA (n := 8) hu9) (pe_callC C_windowed hr rfl (pa_cons (pv 0) (pa_cons (pv 2) pa_nil))) (pe_tup (pa_cons pe_str (pa_cons (pv 4) pa_nil))) (nomark _)))))))
        pss_nil)
      (pss_cons (ps_set (i := 4) sc_right.nd rfl (by walk_at "lc") (pe_callTy call_list_of (by rfl) T.z_list bo_list (pa_cons (pe_ix ix_tup (pv 3) pe_int (fun _ _ => rfl)) pa_nil)))
      (pss_cons (ps_expr (pe_bm0 PySem.F.plainAttrs_list PySem.F.slot_list_clear PySem.F.type_list_clear mt_clear (pe_ix ix_tup (pv 3) pe_int (fun _ _ => rfl))))
      (pss_one (ps_ret (pe_cmpR (op_eqTA (n := 8) hu9) (pe_callC C_windowed hr rfl (pa_cons (pv 0) (pa_cons (pv 2) pa_nil))) (pe_tup (pa_cons pe_str (pa_cons (pe_ix ix_tup (pv 3) pe_int (fun _ _ => rfl)) (pa_cons (pe_ix ix_tup (pv 3) pe_int (fun _ _ => rfl)) (pa_cons (pv 4) pa_nil))))) (nomark _)))))))))), ?_⟩
    have b80 : b < 10 ^ 80 := Int.lt_trans b2 (by decide +kernel)
    have ok80 : WinOk (10 ^ 80) rs := ok.mono (by decide +kernel)
    refine ⟨_, rfl, d, kvW rs, rfl, .inl hd.top, fun e1 he1 => ?_⟩
    have fe1 : Fre H e1 := he1
    have k1 : Kp [] H (upd H e1 (.dK (kvW rs))) := Kp.new Kp.refl fe1
    have t1 : upd H e1 (.dK (kvW rs)) e1 = some (.dK (kvW rs)) := upd_same
    generalize upd H e1 (.dK (kvW rs)) = H1 at k1 t1
    have T1 := T0.kp k1
    have W1 := hd.kp0 k1
    have D1 : WinAt H1 e1 rs := ⟨t1, W1.row⟩
    refine ⟨_, rfl, _, rfl, b, e1, rs, rfl, D1, ok80, b1, b80, T1, fun t H2 k2 T2 told => ?_⟩
    have W2 := W1.kpT k2 T1
    have D2 := D1.kpT k2 T1
    have K2 : Kp [Pt] H H2 := (k1.weak (by simp)).trans k2
    refine ⟨_, rfl, _, rfl, _, rfl, b, d, t, rs, rfl, W2, ok80, b1, b80, told_right b1 ok80 told, fun H3 k3 => ?_⟩
    have W3 := W2.kp0 k3
    have D3 := D2.kp0 k3
    have T3 := T2.kp k3
    have K3 : Kp [Pt] H H3 := K2.trans (k3.weak (by simp))
    refine ⟨_, rfl, iteF ?_⟩
    refine ⟨_, rfl, _, rfl, e1, d, kvW rs, kvW rs, rfl, rfl, .inl D3.top, .inl W3.top, ⟨txtKeysW rs, txtKeysW rs, rfl, fun kk vv hm => ?_⟩, _, rfl, iteF ?_⟩
    · unfold kvW at hm
      obtain ⟨r, hr', e⟩ := List.mem_map.mp hm
      cases e
      exact ⟨_, valW ok.nd hr', .same⟩
    rcases told with ⟨l, s', e', c, ht, hl, fl⟩ | ⟨c, l, ts, zs, ht, so, R, ep, fl, fts⟩
    · -- a crowd
      have ht3 := k3 _ _ ht (by simp)
      have hl3 := k3 _ _ hl (by simp)
      refine ⟨_, rfl, _, _, _, _, rfl, rfl, SqT.of ht3, rfl, rfl, _, rfl, ?_⟩
      refine ite2 (fun c => absurd c crowd_plan) (fun _ => ?_)
      refine ⟨_, rfl, _, _, _, _, rfl, rfl, SqT.of ht3, rfl, _, _, rfl, .inl (SqL.of hl3), fun kp hkp => ?_⟩
      have fk : Fre H3 kp := hkp
      obtain ⟨row, erow⟩ : ∃ row : List V, ((rowW rs s' e').map fun r => V.str r.1) = row := ⟨_, rfl⟩
      rw [erow] at hl3 ⊢
      have k4 : Kp [] H3 (upd H3 kp (.lst row)) := Kp.new Kp.refl fk
      have e4 : upd H3 kp (.lst row) kp = some (.lst row) := upd_same
      have nkl : kp ≠ l := (ne_fre fk hl3).symm
      generalize upd H3 kp (.lst row) = H4 at k4 e4
      have ht4 := k4 _ _ ht3 (by simp)
      have hl4 := k4 _ _ hl3 (by simp)
      have D4 := D3.kp0 k4
      have T4 := T3.kp k4
      refine ⟨_, rfl, _, _, _, _, rfl, rfl, SqT.of ht4, rfl, .inl ⟨rfl, _, SqL.of hl4⟩, l, _, rfl, rfl, hl4, ?_⟩
      have k5 : Kp [l] H4 (upd H4 l (.lst [])) := Kp.put Kp.refl (by simp)
      generalize upd H4 l (.lst []) = H5 at k5
      have fl0 : Fre H l := fre_old k1 fl
      have K5 : Kp [Pt] H H5 := kp_drop (K3.trans (k4.weak (by simp))) fl0 k5
      have D5 : WinAt H5 e1 rs := D4.kp k5 (nm1 fun z => by have := D4.top; rw [z, hl4] at this; cases this) fun r hr' => nm1 fun z => by have := D4.row r hr'; rw [z, hl4] at this; cases this
      have T5 : TabA H5 Pt := by
        rcases T4 with e | ⟨c', e, ec⟩
        · exact .inl (k5 _ _ e (nm1 fun z => by rw [z, hl4] at e; cases e))
        · exact .inr ⟨c', k5 _ _ e (nm1 fun z => by rw [z, hl4] at e; cases e), k5 _ _ ec (nm1 fun z => by rw [z, hl4] at ec; cases ec)⟩
      have ht5 := k5 _ _ ht4 (nm1 fun z => by rw [z, hl4] at ht4; cases ht4)
      have e5 := k5 _ _ e4 (nm1 nkl)
      refine ⟨_, rfl, _, rfl, b, e1, rs, rfl, D5, ok80, b1, b80, T5, fun t2 H6 k6 T6 told2 => ?_⟩
      have ht6 := tup_kp T5 k6 ht5
      have e6 := lst_kp T5 k6 e5
      rcases told2 with ⟨l2, s2, e2, c2, ht2, hl2, _⟩ | ⟨c2, _⟩
      · rw [c] at c2
        cases c2
        refine ⟨_, rfl, _, _, _, _, rfl, rfl, SqT.of ht6, rfl, _, rfl, _, _, _, _, rfl, rfl, SqT.of ht6, rfl, _, rfl, (by walk_at "ln"), fun t3 ht3' => ?_⟩
        have f3 : Fre H6 t3 := ht3'
        have k7 : Kp [] H6 (upd H6 t3 (.tup [.str "crowd", .int s', .int e', .ref kp])) := Kp.new Kp.refl f3
        have e7 : upd H6 t3 (.tup [.str "crowd", .int s', .int e', .ref kp]) t3 = some (.tup [.str "crowd", .int s', .int e', .ref kp]) := upd_same
        generalize upd H6 t3 (.tup [.str "crowd", .int s', .int e', .ref kp]) = H7 at k7 e7
        refine ⟨t2, t3, _, _, rfl, rfl, SqT.of (k7 _ _ ht2 (by simp)), SqT.of e7, rfl, ?_, k _ ((K5.trans k6).trans (k7.weak (by simp))) (T6.kp k7)⟩
        have hl7 := k7 _ _ hl2 (by simp)
        have e67 := k7 _ _ e6 (by simp)
        intro i x y hx hy
        match i, hx, hy with
        | 0, hx, hy => cases hx; cases hy; exact .inl (.flat rfl)
        | 1, hx, hy => cases hx; cases hy; exact .inl (.flat rfl)
        | 2, hx, hy => cases hx; cases hy; exact .inl (.flat rfl)
        | 3, hx, hy =>
          cases hx
          cases hy
          rw [← erow] at e67
          refine .inl (.lists (n := 7) (SqL.of hl7) (SqL.of e67) rfl fun j u v hu hv => ?_)
          rw [hu] at hv
          cases hv
          rw [List.getElem?_map] at hu
          obtain ⟨r, _, rfl⟩ := Option.map_eq_some_iff.mp hu
          exact .flat rfl
        | n + 4, hx, _ => simp at hx
      · rw [c] at c2; cases c2
    · -- a plan
      have ht3 := k3 _ _ ht (by simp)
      have R3 := R.kp0 k3
      have tsl : ts.length ≤ 20 := by
        have h1 := so.1.length_eq
        rw [List.length_map] at h1
        have h2 := ok.len
        have h3 : (planOf ts).length ≤ zs.length := by rw [ep]; exact edf_len _ _ _
        rw [planOf_len] at h3
        omega
      refine ⟨_, rfl, _, _, _, _, rfl, rfl, SqT.of ht3, rfl, rfl, _, rfl, iteT ?_⟩
      refine ⟨_, rfl, _, _, _, _, rfl, rfl, SqT.of ht3, rfl, _, rfl, ⟨_, SqL.of R3.top⟩, fun D hD => comp_list0 (ts.map fun q => V.ref q.1) (fun i ys τ H4 => ∃ us : List Tn, (∃ o0 o1, τ = [o0, o1]) ∧ ys = (us.map fun q => V.ref q.1) ∧ planOf us = (planOf ts).take i ∧ PlanAt H4 D us ∧ Kp [] H3 H4 ∧ ∀ u ∈ us, Fre H3 u.2.1)
        ⟨[], ⟨_, _, rfl⟩, rfl, rfl, ⟨upd_same, (fun q h => nomatch h), (fun q h => nomatch h), (fun q h => nomatch h)⟩, Kp.new Kp.refl hD, (fun q h => nomatch h)⟩ (fun i ys τ H4 ⟨_, _, _, _, _, k4, _⟩ => SqL.of (k4 _ _ R3.top (by simp))) ?_ ?_⟩
      · rintro i v ys τ H4 hv ⟨us, ⟨o0, o1, rfl⟩, rfl, eu, U, k4, fu⟩
        obtain ⟨q, eq, rfl⟩ := tn_at hv
        have mq := List.mem_of_getElem? eq
        have il := (List.getElem?_eq_some_iff.mp eq).1
        have hq := k4 _ _ (R3.tup q mq) (by simp)
        have hqr := k4 _ _ (R3.row q mq) (by simp)
        refine ⟨_, _, rfl, .inl (.inl hq), rfl, _, _, rfl, _, _, rfl, rfl, ?_⟩
        refine ⟨_, rfl, _, rfl, _, _, rfl, .inl (SqL.of hqr), fun r hr' => ?_⟩
        have fr : Fre H4 r := hr'
        have nDr : D ≠ r := ne_fre fr U.top
        have k5 : Kp [] H4 (upd H4 r (.lst (q.2.2.2.map V.str))) := Kp.new Kp.refl fr
        have e5 : upd H4 r (.lst (q.2.2.2.map V.str)) r = some (.lst (q.2.2.2.map V.str)) := upd_same
        generalize upd H4 r (.lst (q.2.2.2.map V.str)) = H5 at k5 e5
        refine ⟨(by walk_at "ln"), fun t4 ht4 => ?_⟩
        have f4 : Fre H5 t4 := ht4
        have k6 : Kp [] H5 (upd H5 t4 (.tup [.int q.2.2.1, .ref r])) := Kp.new Kp.refl f4
        have e6 : upd H5 t4 (.tup [.int q.2.2.1, .ref r]) t4 = some (.tup [.int q.2.2.1, .ref r]) := upd_same
        generalize upd H5 t4 (.tup [.int q.2.2.1, .ref r]) = H6 at k6 e6
        have U6 := (U.kp0 k5).kp0 k6
        have r6 := k6 _ _ e5 (by simp)
        have frD : Fre H3 D := hD
        have ul : us.length = i := by
          have := congrArg List.length eu
          rw [planOf_len, List.length_take, planOf_len] at this
          omega
        have kA : Kp [D] H6 (upd H6 D (.lst ((us.map fun q => V.ref q.1) ++ [.ref t4]))) := Kp.put Kp.refl (by simp)
        have n4 : t4 ≠ D := fun z => by have := U6.top; rw [← z, e6] at this; cases this
        have nus : ∀ u ∈ us, u.1 ≠ D := fun u hu z => by
          have e := U6.tup u hu
          rw [z, U6.top] at e; cases e
        refine ⟨U6.top, by rw [List.length_map, sizeLine_eq]; omega, us ++ [(t4, r, q.2.2)], ⟨_, _, rfl⟩, by rw [List.map_append]; rfl, ?_, ⟨by rw [upd_same, List.map_append]; rfl, fun u hu => ?_, fun u hu => ?_, fun u hu => ?_⟩, kp_drop (k4.trans (k5.trans k6)) frD kA, fun u hu => ?_⟩
        · rw [planOf_snoc, eu, take_snoc (planOf_at eq)]
        · rcases List.mem_append.mp hu with z | z
          · exact kA _ _ (U6.tup u z) (nm1 (nus u z))
          · have : u = (t4, r, q.2.2) := by simpa using z
            subst this
            exact kA _ _ e6 (nm1 n4)
        · rcases List.mem_append.mp hu with z | z
          · exact kA _ _ (U6.row u z) (nm1 (U6.ne u z))
          · have : u = (t4, r, q.2.2) := by simpa using z
            subst this
            exact kA _ _ r6 (nm1 nDr.symm)
        · rcases List.mem_append.mp hu with z | z
          · exact U6.ne u z
          · have : u = (t4, r, q.2.2) := by simpa using z
            subst this
            exact nDr.symm
        · rcases List.mem_append.mp hu with z | z
          · exact fu u z
          · have : u = (t4, r, q.2.2) := by simpa using z
            subst this
            exact fre_old k4 fr
      · rintro ys τ H4 ⟨us, _, rfl, eu, U, k4, fu⟩
        rw [List.length_map, ← planOf_len, List.take_length] at eu
        have frD : Fre H3 D := hD
        obtain ⟨M, hM⟩ : ∃ M, M = ts.map (·.2.1) := ⟨_, rfl⟩
        have R4 := R3.kp0 k4
        have ht4 := k4 _ _ ht3 (by simp)
        have D4 := D3.kp0 k4
        have T4 := T3.kp k4
        have K4 : Kp [Pt] H H4 := K3.trans (k4.weak (by simp))
        have nol : ∀ (a : Addr) (o : HO), H4 a = some o → (∀ xs, o ≠ .lst xs) → a ∉ l :: M := fun a o h no z => by
          rcases List.mem_cons.mp z with z | z
          · rw [z, R4.top] at h
            exact no _ (Option.some.inj h).symm
          · rw [hM] at z
            obtain ⟨q, hq, e⟩ := List.mem_map.mp z
            rw [← e, R4.row q hq] at h
            exact no _ (Option.some.inj h).symm
        have new : ∀ a, Fre H3 a → a ∉ l :: M := fun a h z => by
          rcases List.mem_cons.mp z with z | z
          · have := R3.top
            rw [← z, show H3 a = none from h] at this; cases this
          · rw [hM] at z
            obtain ⟨q, hq, e⟩ := List.mem_map.mp z
            have := R3.row q hq
            rw [e, show H3 a = none from h] at this; cases this
        have lM : l ∉ M := fun z => by
          rw [hM] at z
          obtain ⟨q, hq, e⟩ := List.mem_map.mp z
          exact R4.ne q hq e
        have sub : ∀ a, a ∉ l :: M → a ∉ M := fun a h z => h (List.mem_cons_of_mem _ z)
        refine ⟨_, rfl, _, _, _, _, rfl, rfl, SqT.of ht4, rfl, _, rfl, ⟨_, SqL.of R4.top⟩, for_list (xs := ts.map fun q => V.ref q.1) (fun i σ H5 => (∃ o5 o6, σ = [some (.int b), some (.ref d), some (.ref e1), some (.ref t), some (.ref D), o5, o6]) ∧ Kp M H4 H5 ∧ ∀ q ∈ ts, ∃ xs, H5 q.2.1 = some (.lst xs)) ⟨⟨_, _, rfl⟩, Kp.refl, fun q hq => ⟨_, R4.row q hq⟩⟩ (fun i σ H5 _ ⟨_, k5, _⟩ => SqL.of (k5 _ _ R4.top lM)) ?_ ?_⟩
        · rintro i v σ H5 hv ⟨⟨o5, o6, rfl⟩, k5, al⟩
          obtain ⟨q, eq, rfl⟩ := tn_at hv
          have mq := List.mem_of_getElem? eq
          have hq := k5 _ _ (R4.tup q mq) (sub _ (nol _ _ (R4.tup q mq) fun xs z => nomatch z))
          obtain ⟨xs, hx⟩ := al q mq
          refine ⟨_, _, rfl, SqT.of hq, rfl, _, _, rfl, _, _, rfl, rfl, ?_⟩
          refine ⟨_, rfl, .inl ⟨rfl, _, SqL.of hx⟩, _, _, rfl, rfl, hx, ⟨_, _, rfl⟩, Kp.put k5 (by rw [hM]; exact List.mem_map.mpr ⟨q, mq, rfl⟩), fun q' hq' => ?_⟩
          by_cases z : q'.2.1 = q.2.1
          · rw [z]; exact ⟨_, upd_same⟩
          · rw [upd_ne z]; exact al q' hq'
        · rintro σ H5 ⟨⟨o5, o6, rfl⟩, k5, al⟩
          have hl5 := k5 _ _ R4.top lM
          have ht5 := k5 _ _ ht4 (sub _ (nol _ _ ht4 fun xs z => nomatch z))
          refine ⟨_, rfl, _, _, _, _, rfl, rfl, SqT.of ht5, rfl, .inl ⟨rfl, _, SqL.of hl5⟩, _, _, _, rfl, rfl, hl5, by rw [List.length_map, sizeLine_eq]; omega, ?_⟩
          have k6 : Kp (l :: M) H4 (upd H5 l (.lst ((ts.map fun q => V.ref q.1) ++ [.non]))) := Kp.put (k5.weak fun a h => List.mem_cons_of_mem _ h) (by simp)
          generalize upd H5 l (.lst ((ts.map fun q => V.ref q.1) ++ [.non])) = H6 at k6
          have fl0 : Fre H l := fre_old k1 fl
          have K6 : Kp [Pt] H H6 := kp_drops K4 (fun m hm => by
            rcases List.mem_cons.mp hm with z | z
            · rw [z]; exact fl0
            · rw [hM] at z
              obtain ⟨q, hq, e⟩ := List.mem_map.mp z
              rw [← e]; exact fre_old k1 (fts q hq)) k6
          have D6 : WinAt H6 e1 rs := D4.kp k6 (nol _ _ D4.top fun xs z => nomatch z) fun r hr' => nol _ _ (D4.row r hr') fun xs z => nomatch z
          have T6 : TabA H6 Pt := by
            rcases T4 with e | ⟨c', e, ec⟩
            · exact .inl (k6 _ _ e (nol _ _ e fun xs z => nomatch z))
            · exact .inr ⟨c', k6 _ _ e (nol _ _ e fun xs z => nomatch z), k6 _ _ ec (nol _ _ ec fun xs z => nomatch z)⟩
          have U6 : PlanAt H6 D us := ⟨k6 _ _ U.top (new _ frD), fun u hu => k6 _ _ (U.tup u hu) (nol _ _ (U.tup u hu) fun xs z => nomatch z), fun u hu => k6 _ _ (U.row u hu) (new _ (fu u hu)), U.ne⟩
          refine ⟨_, rfl, _, rfl, b, e1, rs, rfl, D6, ok80, b1, b80, T6, fun t2 H7 k7 T7 told2 => ?_⟩
          have U7 := U6.kpT k7 T6
          rcases told2 with ⟨l2, s2, e2, c2, _⟩ | ⟨c2, l2, ts2, zs2, ht2, so2, R2, ep2, _, _⟩
          · rw [c] at c2; cases c2
          · have ez := srtd_one so so2
            subst ez
            refine ⟨_, rfl, (by walk_at "ln"), fun t3 ht3' => ?_⟩
            have f3 : Fre H7 t3 := ht3'
            have k8 : Kp [] H7 (upd H7 t3 (.tup [.str "plan", .ref D])) := Kp.new Kp.refl f3
            have e8 : upd H7 t3 (.tup [.str "plan", .ref D]) t3 = some (.tup [.str "plan", .ref D]) := upd_same
            generalize upd H7 t3 (.tup [.str "plan", .ref D]) = H8 at k8 e8
            have al2 : Alike K H8 7 (.ref l2) (.ref D) := plan_alike (R2.kp0 k8) (U7.kp0 k8) (by rw [ep2, ← ep, eu])
            refine ⟨t2, t3, _, _, rfl, rfl, SqT.of (k8 _ _ ht2 (by simp)), SqT.of e8, rfl, ?_, k _ ((K6.trans k7).trans (k8.weak (by simp))) (T7.kp k8)⟩
            intro i x y hx hy
            match i, hx, hy with
            | 0, hx, hy => cases hx; cases hy; exact .inl (.flat rfl)
            | 1, hx, hy => cases hx; cases hy; exact .inl (Alike.up al2)
            | n + 2, hx, _ => simp at hx
end
end My
set_option Elab.async false
set_option linter.all false
set_option maxRecDepth 100000
set_option maxHeartbeats 4000000
namespace My
open PySem L2
section
variable {P : Program} {w : World} {K : PySem.W.Frag} {mg : Str → Option Value} {base : Heap}
theorem Kp.seqT {H H' : Hp} {Pt a : Addr} {xs : List V} (k : Kp [Pt] H H') (T : TabA H Pt) (h : SqL K H a xs) : SqL K H' a xs := by
  obtain ⟨ps, e⟩ := T.tbl
  rcases h with (h | ⟨o, h⟩) | h
  · exact .inl (.inl (k _ _ h (nm1 fun z => by rw [z, e] at h; cases h)))
  · exact .inl (.inr ⟨o, k _ _ h (nm1 fun z => by rw [z, e] at h; cases h)⟩)
  · exact .inr h
def spLaw (K : PySem.W.Frag) (Pt : Addr) : Sp := fun vs H Q _ => ∃ (a : Addr) (ns : List Int), vs = [.ref a] ∧ SqL K H a (ns.map V.int) ∧ ns.length ≤ 63 ∧ TabA H Pt ∧ ∀ H', Q (.bl true) H'
abbrev s_law : Stmt := top 31
theorem sc_law : FnScope ["_law_script", "_law_k", "_law_windows_here"] ["_law_script"] (defScope s_law) := ⟨rfl, rfl, rfl, by decide +kernel, rfl, by decide +kernel, by decide +kernel⟩
theorem ok_law {f Pt : Addr} {fd : FuncData} (F : Fun K "law" "law" s_law f fd) (T : Txt K mg) (C_cell : Cal P w K mg base "_law_cell" 1 ["_law_script", "_law_k"] (spCell K)) (C_purse : Cal P w K mg base "_law_purse" 1 ["_law_cell_here", "_law_k"] spPurse)
    (C_windows : Cal P w K mg base "_law_windows" 3 ["_law_purse_here"] spLWin) (C_benches : Cal P w K mg base "_law_benches" 2 ["_law_purse_here"] spLBenches) (C_right : Cal P w K mg base "_law_right" 6 ["_law_benches_here", "_law_windows_here"] (spRight Pt)) : FnOk P w K mg base CX0 7 f fd ["_law_script"] (spLaw K Pt) := by
  refine F.ok sc_law (fun vs H Q E h => ?_) (fun cdv A outer s H vs Q E hr h => ?_)
  · obtain ⟨a, ns, rfl, _⟩ := h
    rfl
  · obtain ⟨sc, is, rfl, hS, hlen, T0, k⟩ := h
    have hr1 := hr.mono (j := 1) (by decide)
    have hr2 := hr.mono (j := 2) (by decide)
    have hr3 := hr.mono (j := 3) (by decide)
    refine ⟨_, (pss_cons (ps_for PassesOwn.never rfl (pi_range3 rfl T.z_range (pa_cons pe_int (pa_cons (pe_callB (call_max2 rfl) (by rfl) T.z_max bo_max (pa_cons pe_int (pa_cons (pe_callB (call_min2 rfl) (by rfl) T.z_min bo_min (pa_cons (pe_callB call_len_seq (by rfl) T.z_len bo_len (pa_cons (pv 0) pa_nil)) (pa_cons pe_int pa_nil))) pa_nil))) (pa_cons pe_int pa_nil)))) (pg_name (i := 1) sc_law.nd rfl (by walk_at "lc"))
        (pss_cons (ps_set (i := 2) sc_law.nd rfl (by walk_at "lc") (pe_callC C_windows hr3 rfl (pa_cons (pe_callC C_purse hr1 rfl (pa_cons (pe_callC C_cell hr1 rfl (pa_cons (pv 0) (pa_cons (pv 1) pa_nil))) (pa_cons pe_int pa_nil))) pa_nil)))
        (pss_one (ps_if (pt_not (pt_val (pe_callC C_right hr rfl (pa_cons (pe_callC C_benches hr2 rfl (pa_cons (pe_callC C_purse hr1 rfl (pa_cons (pe_callC C_cell hr1 rfl (pa_cons (pv 0) (pa_cons (pe_op op_add (pv 1) pe_int) pa_nil))) (pa_cons pe_int pa_nil))) pa_nil)) (pa_cons (pv 2) pa_nil)))))
          (pss_one (ps_ret pe_bl))
          pss_nil))))
      (pss_one (ps_ret pe_bl))), ?_⟩
    obtain ⟨j, ej, j0, j1⟩ : ∃ j : Int, (if (if (12 : Int) < (is.map V.int).length then (12 : Int) else (is.map V.int).length) > 1 then (if (12 : Int) < (is.map V.int).length then (12 : Int) else (is.map V.int).length) else (1 : Int)) = j ∧ 0 ≤ j ∧ j < 1000 := ⟨_, rfl, by split <;> split <;> omega, by rw [List.length_map]; split <;> split <;> omega⟩
    obtain ⟨sm, n, hn, _, _⟩ := small_by (c := 2) j0 j1 (by decide) (by decide)
    refine ⟨_, rfl, _, _, rfl, .inl hS, _, _, rfl, _, _, rfl, 0, _, 2, n, rfl, ⟨by decide, by decide⟩, by rw [ej]; exact sm, by rw [ej]; exact hn, ?_⟩
    refine for_range3 (fun i σ H2 => (∃ o1 o2 : Option V, σ = [some (.ref sc), o1, o2]) ∧ Kp [Pt] H H2 ∧ TabA H2 Pt) ⟨⟨_, _, rfl⟩, Kp.refl, T0⟩ ?_ ?_
    · rintro i σ H2 hi ⟨⟨o1, o2, rfl⟩, k2, T2⟩
      refine ⟨_, rfl, _, rfl, sc, is, _, rfl, Kp.seqT k2 T0 hS, by omega, fun c => ?_⟩
      refine ⟨c, 1, rfl, by decide, by decide, fun p H3 fp P3 k3 => ?_⟩
      refine ⟨p, rfl, P3, fun d rs H4 W4 ok P4 K4 => ?_⟩
      have k4 : Kp [] H2 H4 := kp_drop k3 fp K4
      refine ⟨_, rfl, _, rfl, _, _, rfl, rfl, sc, is, _, rfl, k4.seq (Kp.seqT k2 T0 hS), by omega, fun c2 => ?_⟩
      refine ⟨c2, 2, rfl, by decide, by decide, fun p2 H5 fp2 P5 k5 => ?_⟩
      have W5 := W4.kp0 k5
      refine ⟨p2, rfl, P5, fun b H6 b1 b2 P6 K6 => ?_⟩
      have W6 := W5.kpP K6 P5
      have k46 : Kp [] H4 H6 := kp_drop k5 fp2 K6
      have k26 : Kp [] H2 H6 := k4.trans k46
      have T6 := T2.kp k26
      refine ⟨_, rfl, b, d, rs, rfl, W6, ok, b1, b2, T6, fun H8 k8 T8 => ?_⟩
      refine ⟨_, rfl, ?_⟩
      refine iteF ?_
      exact ⟨⟨_, _, rfl⟩, (k2.trans (k26.weak (by simp))).trans k8, T8⟩
    · rintro σ H2 ⟨⟨o1, o2, rfl⟩, k2, T2⟩
      exact k H2
end
end My
set_option Elab.async false
set_option linter.all false
set_option maxRecDepth 100000
set_option maxHeartbeats 4000000
namespace My
open PySem L2
theorem all_mk {c Pt : Addr} {l : PySem.W.OpenLaw} {w : World} {K : PySem.W.Frag} {h : Heap} {mg : Str → Option Value} {fa : Addr} (X : K.In h) (G : h.Ns mainGlobals mg) (hfa : mg "law" = some (.ref fa))
    {f0 : Addr} {od0 an0 : Option Addr} {sl0 : Array (Option Value)} {oc0 kV0 dc0 pm0 cd0 ct0 : Value}
    {f1 : Addr} {od1 an1 : Option Addr} {sl1 : Array (Option Value)} {oc1 kV1 dc1 pm1 cd1 ct1 : Value}
    {f2 : Addr} {od2 an2 : Option Addr} {sl2 : Array (Option Value)} {oc2 kV2 dc2 pm2 cd2 ct2 : Value}
    {f3 : Addr} {od3 an3 : Option Addr} {sl3 : Array (Option Value)} {oc3 kV3 dc3 pm3 cd3 ct3 : Value}
    {f4 : Addr} {od4 an4 : Option Addr} {sl4 : Array (Option Value)} {oc4 kV4 dc4 pm4 cd4 ct4 : Value}
    {f5 : Addr} {od5 an5 : Option Addr} {sl5 : Array (Option Value)} {oc5 kV5 dc5 pm5 cd5 ct5 : Value}
    {f6 : Addr} {od6 an6 : Option Addr} {sl6 : Array (Option Value)} {oc6 kV6 dc6 pm6 cd6 ct6 : Value}
    {f7 : Addr} {od7 an7 : Option Addr} {sl7 : Array (Option Value)} {oc7 kV7 dc7 pm7 cd7 ct7 : Value}
    {f8 : Addr} {od8 an8 : Option Addr} {sl8 : Array (Option Value)} {oc8 kV8 dc8 pm8 cd8 ct8 : Value}
    {f9 : Addr} {od9 an9 : Option Addr} {sl9 : Array (Option Value)} {oc9 kV9 dc9 pm9 cd9 ct9 : Value}
    {f10 : Addr} {od10 an10 : Option Addr} {sl10 : Array (Option Value)} {oc10 kV10 dc10 pm10 cd10 ct10 : Value}
    {f11 : Addr} {od11 an11 : Option Addr} {sl11 : Array (Option Value)} {oc11 kV11 dc11 pm11 ct11 : Value}
    {f12 : Addr} {od12 an12 : Option Addr} {sl12 : Array (Option Value)} {oc12 kV12 dc12 pm12 cd12 ct12 : Value}
    {f13 : Addr} {od13 an13 : Option Addr} {sl13 : Array (Option Value)} {oc13 kV13 dc13 pm13 cd13 ct13 : Value}
    {f14 : Addr} {od14 an14 : Option Addr} {sl14 : Array (Option Value)} {oc14 kV14 dc14 pm14 cd14 ct14 : Value}
    {f15 : Addr} {od15 an15 : Option Addr} {sl15 : Array (Option Value)} {oc15 kV15 dc15 pm15 cd15 ct15 : Value}
    {f16 : Addr} {od16 an16 : Option Addr} {sl16 : Array (Option Value)} {oc16 kV16 dc16 pm16 cd16 ct16 : Value}
    {f17 : Addr} {od17 an17 : Option Addr} {sl17 : Array (Option Value)} {oc17 kV17 dc17 pm17 cd17 ct17 : Value}
    {f18 : Addr} {od18 an18 : Option Addr} {sl18 : Array (Option Value)} {oc18 kV18 dc18 pm18 cd18 ct18 : Value}
    {f19 : Addr} {od19 an19 : Option Addr} {sl19 : Array (Option Value)} {oc19 kV19 dc19 pm19 cd19 ct19 : Value}
    {f20 : Addr} {od20 an20 : Option Addr} {sl20 : Array (Option Value)} {oc20 kV20 dc20 pm20 cd20 ct20 : Value}
    {f21 : Addr} {od21 an21 : Option Addr} {sl21 : Array (Option Value)} {oc21 kV21 dc21 pm21 cd21 ct21 : Value}
    {t_LONGEST_NAME : Tok}
    {t_MOST_WINDOWS : Tok}
    (a0 : PySem.W.nsIn K mainGlobals "_law_take" = some (some (.ref f0))) (l0 : K.lookup f0 = some ⟨oc0, od0, .func (PySem.W.fnOf "_law_take" "_law_take" (defArgs s_take) (defBody s_take) (defScope s_take) .none kV0 dc0 pm0 an0 cd0 ct0), sl0⟩) (c0 : PySem.W.codeIn K cd0 "_law_take" = true) (k0 : PySem.W.keepIn K (.ref f0) = true)
    (a1 : PySem.W.nsIn K mainGlobals "_law_purse" = some (some (.ref f1))) (l1 : K.lookup f1 = some ⟨oc1, od1, .func (PySem.W.fnOf "_law_purse" "_law_purse" (defArgs s_purse) (defBody s_purse) (defScope s_purse) .none kV1 dc1 pm1 an1 cd1 ct1), sl1⟩) (c1 : PySem.W.codeIn K cd1 "_law_purse" = true) (k1 : PySem.W.keepIn K (.ref f1) = true)
    (a2 : PySem.W.nsIn K mainGlobals "_law_cell" = some (some (.ref f2))) (l2 : K.lookup f2 = some ⟨oc2, od2, .func (PySem.W.fnOf "_law_cell" "_law_cell" (defArgs s_cell) (defBody s_cell) (defScope s_cell) .none kV2 dc2 pm2 an2 cd2 ct2), sl2⟩) (c2 : PySem.W.codeIn K cd2 "_law_cell" = true) (k2 : PySem.W.keepIn K (.ref f2) = true)
    (a3 : PySem.W.nsIn K mainGlobals "_law_names" = some (some (.ref f3))) (l3 : K.lookup f3 = some ⟨oc3, od3, .func (PySem.W.fnOf "_law_names" "_law_names" (defArgs s_names) (defBody s_names) (defScope s_names) .none kV3 dc3 pm3 an3 cd3 ct3), sl3⟩) (c3 : PySem.W.codeIn K cd3 "_law_names" = true) (k3 : PySem.W.keepIn K (.ref f3) = true)
    (a4 : PySem.W.nsIn K mainGlobals "is_whole" = some (some (.ref f4))) (l4 : K.lookup f4 = some ⟨oc4, od4, .func (PySem.W.fnOf "is_whole" "is_whole" (defArgs s_is_whole) (defBody s_is_whole) (defScope s_is_whole) .none kV4 dc4 pm4 an4 cd4 ct4), sl4⟩) (c4 : PySem.W.codeIn K cd4 "is_whole" = true) (k4 : PySem.W.keepIn K (.ref f4) = true)
    (a5 : PySem.W.nsIn K mainGlobals "is_name" = some (some (.ref f5))) (l5 : K.lookup f5 = some ⟨oc5, od5, .func (PySem.W.fnOf "is_name" "is_name" (defArgs s_is_name) (defBody s_is_name) (defScope s_is_name) .none kV5 dc5 pm5 an5 cd5 ct5), sl5⟩) (c5 : PySem.W.codeIn K cd5 "is_name" = true) (k5 : PySem.W.keepIn K (.ref f5) = true)
    (a6 : PySem.W.nsIn K mainGlobals "check_benches" = some (some (.ref f6))) (l6 : K.lookup f6 = some ⟨oc6, od6, .func (PySem.W.fnOf "check_benches" "check_benches" (defArgs s_check_benches) (defBody s_check_benches) (defScope s_check_benches) .none kV6 dc6 pm6 an6 cd6 ct6), sl6⟩) (c6 : PySem.W.codeIn K cd6 "check_benches" = true) (k6 : PySem.W.keepIn K (.ref f6) = true)
    (a7 : PySem.W.nsIn K mainGlobals "is_window" = some (some (.ref f7))) (l7 : K.lookup f7 = some ⟨oc7, od7, .func (PySem.W.fnOf "is_window" "is_window" (defArgs s_is_window) (defBody s_is_window) (defScope s_is_window) .none kV7 dc7 pm7 an7 cd7 ct7), sl7⟩) (c7 : PySem.W.codeIn K cd7 "is_window" = true) (k7 : PySem.W.keepIn K (.ref f7) = true)
    (a8 : PySem.W.nsIn K mainGlobals "check_windows" = some (some (.ref f8))) (l8 : K.lookup f8 = some ⟨oc8, od8, .func (PySem.W.fnOf "check_windows" "check_windows" (defArgs s_check_windows) (defBody s_check_windows) (defScope s_check_windows) .none kV8 dc8 pm8 an8 cd8 ct8), sl8⟩) (c8 : PySem.W.codeIn K cd8 "check_windows" = true) (k8 : PySem.W.keepIn K (.ref f8) = true)
    (a9 : PySem.W.nsIn K mainGlobals "find_crowd" = some (some (.ref f9))) (l9 : K.lookup f9 = some ⟨oc9, od9, .func (PySem.W.fnOf "find_crowd" "find_crowd" (defArgs s_find_crowd) (defBody s_find_crowd) (defScope s_find_crowd) .none kV9 dc9 pm9 an9 cd9 ct9), sl9⟩) (c9 : PySem.W.codeIn K cd9 "find_crowd" = true) (k9 : PySem.W.keepIn K (.ref f9) = true)
    (a10 : PySem.W.nsIn K mainGlobals "next_turn" = some (some (.ref f10))) (l10 : K.lookup f10 = some ⟨oc10, od10, .func (PySem.W.fnOf "next_turn" "next_turn" (defArgs s_next_turn) (defBody s_next_turn) (defScope s_next_turn) .none kV10 dc10 pm10 an10 cd10 ct10), sl10⟩) (c10 : PySem.W.codeIn K cd10 "next_turn" = true) (k10 : PySem.W.keepIn K (.ref f10) = true)
    (a11 : PySem.W.nsIn K mainGlobals "soonest_end_first" = some (some (.ref f11))) (l11 : K.lookup f11 = some ⟨oc11, od11, .func (PySem.W.fnOf "soonest_end_first" "soonest_end_first" (defArgs s_soonest_end_first) (defBody s_soonest_end_first) (defScope s_soonest_end_first) .none kV11 dc11 pm11 an11 (.ref c) ct11), sl11⟩) (c11 : PySem.W.codeIn K (.ref c) "soonest_end_first" = true) (k11 : PySem.W.keepIn K (.ref f11) = true)
    (a12 : PySem.W.nsIn K mainGlobals "windowed" = some (some (.ref f12))) (l12 : K.lookup f12 = some ⟨oc12, od12, .func (PySem.W.fnOf "windowed" "windowed" (defArgs s_windowed) (defBody s_windowed) (defScope s_windowed) .none kV12 dc12 pm12 an12 cd12 ct12), sl12⟩) (c12 : PySem.W.codeIn K cd12 "windowed" = true) (k12 : PySem.W.keepIn K (.ref f12) = true)
    (a13 : PySem.W.nsIn K mainGlobals "_law_benches" = some (some (.ref f13))) (l13 : K.lookup f13 = some ⟨oc13, od13, .func (PySem.W.fnOf "_law_benches" "_law_benches" (defArgs s_benches) (defBody s_benches) (defScope s_benches) .none kV13 dc13 pm13 an13 cd13 ct13), sl13⟩) (c13 : PySem.W.codeIn K cd13 "_law_benches" = true) (k13 : PySem.W.keepIn K (.ref f13) = true)
    (a14 : PySem.W.nsIn K mainGlobals "_law_far" = some (some (.ref f14))) (l14 : K.lookup f14 = some ⟨oc14, od14, .func (PySem.W.fnOf "_law_far" "_law_far" (defArgs s_far) (defBody s_far) (defScope s_far) .none kV14 dc14 pm14 an14 cd14 ct14), sl14⟩) (c14 : PySem.W.codeIn K cd14 "_law_far" = true) (k14 : PySem.W.keepIn K (.ref f14) = true)
    (a15 : PySem.W.nsIn K mainGlobals "_law_windows" = some (some (.ref f15))) (l15 : K.lookup f15 = some ⟨oc15, od15, .func (PySem.W.fnOf "_law_windows" "_law_windows" (defArgs s_windows) (defBody s_windows) (defScope s_windows) .none kV15 dc15 pm15 an15 cd15 ct15), sl15⟩) (c15 : PySem.W.codeIn K cd15 "_law_windows" = true) (k15 : PySem.W.keepIn K (.ref f15) = true)
    (a16 : PySem.W.nsIn K mainGlobals "_law_whole" = some (some (.ref f16))) (l16 : K.lookup f16 = some ⟨oc16, od16, .func (PySem.W.fnOf "_law_whole" "_law_whole" (defArgs s_whole) (defBody s_whole) (defScope s_whole) .none kV16 dc16 pm16 an16 cd16 ct16), sl16⟩) (c16 : PySem.W.codeIn K cd16 "_law_whole" = true) (k16 : PySem.W.keepIn K (.ref f16) = true)
    (a17 : PySem.W.nsIn K mainGlobals "_law_is_plan" = some (some (.ref f17))) (l17 : K.lookup f17 = some ⟨oc17, od17, .func (PySem.W.fnOf "_law_is_plan" "_law_is_plan" (defArgs s_is_plan) (defBody s_is_plan) (defScope s_is_plan) .none kV17 dc17 pm17 an17 cd17 ct17), sl17⟩) (c17 : PySem.W.codeIn K cd17 "_law_is_plan" = true) (k17 : PySem.W.keepIn K (.ref f17) = true)
    (a18 : PySem.W.nsIn K mainGlobals "_law_is_crowd" = some (some (.ref f18))) (l18 : K.lookup f18 = some ⟨oc18, od18, .func (PySem.W.fnOf "_law_is_crowd" "_law_is_crowd" (defArgs s_is_crowd) (defBody s_is_crowd) (defScope s_is_crowd) .none kV18 dc18 pm18 an18 cd18 ct18), sl18⟩) (c18 : PySem.W.codeIn K cd18 "_law_is_crowd" = true) (k18 : PySem.W.keepIn K (.ref f18) = true)
    (a19 : PySem.W.nsIn K mainGlobals "_law_is_answer" = some (some (.ref f19))) (l19 : K.lookup f19 = some ⟨oc19, od19, .func (PySem.W.fnOf "_law_is_answer" "_law_is_answer" (defArgs s_is_answer) (defBody s_is_answer) (defScope s_is_answer) .none kV19 dc19 pm19 an19 cd19 ct19), sl19⟩) (c19 : PySem.W.codeIn K cd19 "_law_is_answer" = true) (k19 : PySem.W.keepIn K (.ref f19) = true)
    (a20 : PySem.W.nsIn K mainGlobals "_law_right" = some (some (.ref f20))) (l20 : K.lookup f20 = some ⟨oc20, od20, .func (PySem.W.fnOf "_law_right" "_law_right" (defArgs s_right) (defBody s_right) (defScope s_right) .none kV20 dc20 pm20 an20 cd20 ct20), sl20⟩) (c20 : PySem.W.codeIn K cd20 "_law_right" = true) (k20 : PySem.W.keepIn K (.ref f20) = true)
    (a21 : PySem.W.nsIn K mainGlobals "law" = some (some (.ref f21))) (l21 : K.lookup f21 = some ⟨oc21, od21, .func (PySem.W.fnOf "law" "law" (defArgs s_law) (defBody s_law) (defScope s_law) .none kV21 dc21 pm21 an21 cd21 ct21), sl21⟩) (c21 : PySem.W.codeIn K cd21 "law" = true) (k21 : PySem.W.keepIn K (.ref f21) = true)
    (z_len : PySem.W.nsIn K mainGlobals "len" = some none)
    (z_max : PySem.W.nsIn K mainGlobals "max" = some none)
    (z_range : PySem.W.nsIn K mainGlobals "range" = some none)
    (z_int : PySem.W.nsIn K mainGlobals "int" = some none)
    (z_list : PySem.W.nsIn K mainGlobals "list" = some none)
    (z_min : PySem.W.nsIn K mainGlobals "min" = some none)
    (z_dict : PySem.W.nsIn K mainGlobals "dict" = some none)
    (z_enumerate : PySem.W.nsIn K mainGlobals "enumerate" = some none)
    (z_bool : PySem.W.nsIn K mainGlobals "bool" = some none)
    (z_sum : PySem.W.nsIn K mainGlobals "sum" = some none)
    (z_sorted : PySem.W.nsIn K mainGlobals "sorted" = some none)
    (z_str : PySem.W.nsIn K mainGlobals "str" = some none)
    (z_all : PySem.W.nsIn K mainGlobals "all" = some none)
    (z_tuple : PySem.W.nsIn K mainGlobals "tuple" = some none)
    (z_isinstance : PySem.W.nsIn K mainGlobals "isinstance" = some none)
    (e_LONGEST_NAME : PySem.W.nsIn K mainGlobals "LONGEST_NAME" = some (some (.int 8 t_LONGEST_NAME)))
    (e_MOST_WINDOWS : PySem.W.nsIn K mainGlobals "MOST_WINDOWS" = some (some (.int 20 t_MOST_WINDOWS)))
    : ∃ fd : FuncData, (∀ (s : Shared) (v : Value), BindsTo s fd ⟨[v], []⟩ [("_law_script", v)]) ∧ ∀ base : Heap, K.In base → base.Ns mainGlobals mg → BltAt mg base → (∀ q ∈ [(c, Pt)], PySem.W.CodeHd base q.1 q.2) → FnOk l.prog w K mg base CX0 7 fa fd ["_law_script"] (spLaw K Pt) := by
  have e := hfa.symm.trans (PySem.W.mg_of X G a21)
  cases e
  have T : Txt K mg := { z_len := PySem.W.mg_none_of X G z_len, z_max := PySem.W.mg_none_of X G z_max, z_range := PySem.W.mg_none_of X G z_range, z_int := PySem.W.mg_none_of X G z_int, z_list := PySem.W.mg_none_of X G z_list, z_min := PySem.W.mg_none_of X G z_min, z_dict := PySem.W.mg_none_of X G z_dict, z_enumerate := PySem.W.mg_none_of X G z_enumerate, z_bool := PySem.W.mg_none_of X G z_bool, z_sum := PySem.W.mg_none_of X G z_sum, z_sorted := PySem.W.mg_none_of X G z_sorted, z_str := PySem.W.mg_none_of X G z_str, z_all := PySem.W.mg_none_of X G z_all, z_tuple := PySem.W.mg_none_of X G z_tuple, z_isinstance := PySem.W.mg_none_of X G z_isinstance, c_LONGEST_NAME := ⟨_, PySem.W.mg_of X G e_LONGEST_NAME⟩, c_MOST_WINDOWS := ⟨_, PySem.W.mg_of X G e_MOST_WINDOWS⟩ }
  have F0 := fun_mk (st := s_take) l0 c0 k0
  have b0 := F0.binds (ps := ["_law_purse_here", "_law_many"]) fun _ _ _ _ _ _ us hl => match us, hl with | [_, _], _ => rfl
  have F1 := fun_mk (st := s_purse) l1 c1 k1
  have b1 := F1.binds (ps := ["_law_cell_here", "_law_k"]) fun _ _ _ _ _ _ us hl => match us, hl with | [_, _], _ => rfl
  have F2 := fun_mk (st := s_cell) l2 c2 k2
  have b2 := F2.binds (ps := ["_law_script", "_law_k"]) fun _ _ _ _ _ _ us hl => match us, hl with | [_, _], _ => rfl
  have F3 := fun_mk (st := s_names) l3 c3 k3
  have b3 := F3.binds (ps := ["_law_purse_here", "_law_many"]) fun _ _ _ _ _ _ us hl => match us, hl with | [_, _], _ => rfl
  have F4 := fun_mk (st := s_is_whole) l4 c4 k4
  have b4 := F4.binds (ps := ["thing"]) fun _ _ _ _ _ _ us hl => match us, hl with | [_], _ => rfl
  have F5 := fun_mk (st := s_is_name) l5 c5 k5
  have b5 := F5.binds (ps := ["thing"]) fun _ _ _ _ _ _ us hl => match us, hl with | [_], _ => rfl
  have F6 := fun_mk (st := s_check_benches) l6 c6 k6
  have b6 := F6.binds (ps := ["benches"]) fun _ _ _ _ _ _ us hl => match us, hl with | [_], _ => rfl
  have F7 := fun_mk (st := s_is_window) l7 c7 k7
  have b7 := F7.binds (ps := ["thing"]) fun _ _ _ _ _ _ us hl => match us, hl with | [_], _ => rfl
  have F8 := fun_mk (st := s_check_windows) l8 c8 k8
  have b8 := F8.binds (ps := ["windows"]) fun _ _ _ _ _ _ us hl => match us, hl with | [_], _ => rfl
  have F9 := fun_mk (st := s_find_crowd) l9 c9 k9
  have b9 := F9.binds (ps := ["benches", "windows"]) fun _ _ _ _ _ _ us hl => match us, hl with | [_, _], _ => rfl
  have F10 := fun_mk (st := s_next_turn) l10 c10 k10
  have b10 := F10.binds (ps := ["turns", "starts"]) fun _ _ _ _ _ _ us hl => match us, hl with | [_, _], _ => rfl
  have F11 := fun_mk (st := s_soonest_end_first) l11 c11 k11
  have b11 := F11.binds (ps := ["benches", "windows"]) fun _ _ _ _ _ _ us hl => match us, hl with | [_, _], _ => rfl
  have F12 := fun_mk (st := s_windowed) l12 c12 k12
  have b12 := F12.binds (ps := ["benches", "windows"]) fun _ _ _ _ _ _ us hl => match us, hl with | [_, _], _ => rfl
  have F13 := fun_mk (st := s_benches) l13 c13 k13
  have b13 := F13.binds (ps := ["_law_purse_here"]) fun _ _ _ _ _ _ us hl => match us, hl with | [_], _ => rfl
  have F14 := fun_mk (st := s_far) l14 c14 k14
  have b14 := F14.binds (ps := ["_law_purse_here"]) fun _ _ _ _ _ _ us hl => match us, hl with | [_], _ => rfl
  have F15 := fun_mk (st := s_windows) l15 c15 k15
  have b15 := F15.binds (ps := ["_law_purse_here"]) fun _ _ _ _ _ _ us hl => match us, hl with | [_], _ => rfl
  have F16 := fun_mk (st := s_whole) l16 c16 k16
  have b16 := F16.binds (ps := ["_law_found"]) fun _ _ _ _ _ _ us hl => match us, hl with | [_], _ => rfl
  have F17 := fun_mk (st := s_is_plan) l17 c17 k17
  have b17 := F17.binds (ps := ["_law_benches_here", "_law_windows_here", "_law_turns"]) fun _ _ _ _ _ _ us hl => match us, hl with | [_, _, _], _ => rfl
  have F18 := fun_mk (st := s_is_crowd) l18 c18 k18
  have b18 := F18.binds (ps := ["_law_benches_here", "_law_windows_here", "_law_told"]) fun _ _ _ _ _ _ us hl => match us, hl with | [_, _, _], _ => rfl
  have F19 := fun_mk (st := s_is_answer) l19 c19 k19
  have b19 := F19.binds (ps := ["_law_benches_here", "_law_windows_here", "_law_told"]) fun _ _ _ _ _ _ us hl => match us, hl with | [_, _, _], _ => rfl
  have F20 := fun_mk (st := s_right) l20 c20 k20
  have b20 := F20.binds (ps := ["_law_benches_here", "_law_windows_here"]) fun _ _ _ _ _ _ us hl => match us, hl with | [_, _], _ => rfl
  have F21 := fun_mk (st := s_law) l21 c21 k21
  refine ⟨PySem.W.fnOf "law" "law" (defArgs s_law) (defBody s_law) (defScope s_law) .none kV21 dc21 pm21 an21 cd21 ct21, fun s v => .of_eq rfl, fun base _ _ B CH => ?_⟩
  have C_take : Cal l.prog w K mg base "_law_take" 1 ["_law_purse_here", "_law_many"] spTake := ⟨f0, _, PySem.W.mg_of X G a0, k0, b0, ok_take F0 ⟩
  have C_purse : Cal l.prog w K mg base "_law_purse" 1 ["_law_cell_here", "_law_k"] spPurse := ⟨f1, _, PySem.W.mg_of X G a1, k1, b1, ok_purse F1 T⟩
  have C_cell : Cal l.prog w K mg base "_law_cell" 1 ["_law_script", "_law_k"] (spCell K) := ⟨f2, _, PySem.W.mg_of X G a2, k2, b2, ok_cell F2 T⟩
  have C_lnames : Cal l.prog w K mg base "_law_names" 2 ["_law_purse_here", "_law_many"] spLNames := ⟨f3, _, PySem.W.mg_of X G a3, k3, b3, ok_names F3 T C_take⟩
  have C_is_whole : Cal l.prog w K mg base "is_whole" 1 ["thing"] spWhole := ⟨f4, _, PySem.W.mg_of X G a4, k4, b4, ok_is_whole F4 T⟩
  have C_is_name : Cal l.prog w K mg base "is_name" 1 ["thing"] spIsName := ⟨f5, _, PySem.W.mg_of X G a5, k5, b5, ok_is_name F5 T⟩
  have C_check_benches : Cal l.prog w K mg base "check_benches" 2 ["benches"] spCheckB := ⟨f6, _, PySem.W.mg_of X G a6, k6, b6, ok_check_benches F6 C_is_whole⟩
  have C_is_window : Cal l.prog w K mg base "is_window" 2 ["thing"] spIsWin := ⟨f7, _, PySem.W.mg_of X G a7, k7, b7, ok_is_window F7 T C_is_whole⟩
  have C_check_windows : Cal l.prog w K mg base "check_windows" 3 ["windows"] spCheckW := ⟨f8, _, PySem.W.mg_of X G a8, k8, b8, ok_check_windows F8 T C_is_name C_is_window⟩
  have C_find_crowd : Cal l.prog w K mg base "find_crowd" 1 ["benches", "windows"] spFind := ⟨f9, _, PySem.W.mg_of X G a9, k9, b9, ok_find_crowd F9 T⟩
  have C_next_turn : Cal l.prog w K mg base "next_turn" 1 ["turns", "starts"] spNext := ⟨f10, _, PySem.W.mg_of X G a10, k10, b10, ok_next_turn F10 T⟩
  have C_soon : Cal l.prog w K mg base "soonest_end_first" 4 ["benches", "windows"] (spSoon Pt) := ⟨f11, _, PySem.W.mg_of X G a11, k11, b11, ok_soonest l11 c11 T B (CH (c, Pt) (List.mem_singleton.mpr rfl)) C_next_turn⟩
  have C_windowed : Cal l.prog w K mg base "windowed" 5 ["benches", "windows"] (spWindowed Pt) := ⟨f12, _, PySem.W.mg_of X G a12, k12, b12, ok_windowed F12 C_check_benches C_check_windows C_find_crowd C_soon⟩
  have C_benches : Cal l.prog w K mg base "_law_benches" 2 ["_law_purse_here"] spLBenches := ⟨f13, _, PySem.W.mg_of X G a13, k13, b13, ok_benches F13 C_take⟩
  have C_far : Cal l.prog w K mg base "_law_far" 2 ["_law_purse_here"] spFar := ⟨f14, _, PySem.W.mg_of X G a14, k14, b14, ok_far F14 C_take⟩
  have C_windows : Cal l.prog w K mg base "_law_windows" 3 ["_law_purse_here"] spLWin := ⟨f15, _, PySem.W.mg_of X G a15, k15, b15, ok_windows F15 C_take C_lnames C_far⟩
  have C_whole : Cal l.prog w K mg base "_law_whole" 1 ["_law_found"] spWhole := ⟨f16, _, PySem.W.mg_of X G a16, k16, b16, ok_whole F16 T⟩
  have C_is_plan : Cal l.prog w K mg base "_law_is_plan" 2 ["_law_benches_here", "_law_windows_here", "_law_turns"] spIsPlan := ⟨f17, _, PySem.W.mg_of X G a17, k17, b17, ok_is_plan F17 T C_whole⟩
  have C_is_crowd : Cal l.prog w K mg base "_law_is_crowd" 2 ["_law_benches_here", "_law_windows_here", "_law_told"] spIsCrowd := ⟨f18, _, PySem.W.mg_of X G a18, k18, b18, ok_is_crowd F18 T C_whole⟩
  have C_is_answer : Cal l.prog w K mg base "_law_is_answer" 3 ["_law_benches_here", "_law_windows_here", "_law_told"] spIsAns := ⟨f19, _, PySem.W.mg_of X G a19, k19, b19, ok_is_answer F19 T C_is_plan C_is_crowd⟩
  have C_right : Cal l.prog w K mg base "_law_right" 6 ["_law_benches_here", "_law_windows_here"] (spRight Pt) := ⟨f20, _, PySem.W.mg_of X G a20, k20, b20, ok_right F20 T C_windowed C_is_answer⟩
  exact ok_law F21 T C_cell C_purse C_windows C_benches C_right
theorem walk {c Pt : Addr} {l : PySem.W.OpenLaw} {q : Program} {loose : List Str} {XP : (Str → Option Value) → Heap → Prop} {YP : World → Heap → Prop} {d : DefRec} {K : Params → PySem.W.Frag} (hn : l.most = some 63) (hdf : d.params.defaults = [])
    (hY : ∀ (w : World) (h : Heap), YP w h → (K w.params).In h) (hT : ∀ (w : World) (h : Heap), YP w h → PySem.W.TabsAt [(c, Pt)] h) (hKT : ∀ (w : World), ∀ q ∈ [(c, Pt)], (K w.params).lookup q.2 = none)
    (F : ∀ (w : World) (mg : Str → Option Value) (fa : Addr) (h : Heap), (K w.params).In h → h.Ns mainGlobals mg → mg d.name = some (.ref fa) →
      ∃ fd : FuncData, (∀ (s : Shared) (u : Value), BindsTo s fd ⟨[u], []⟩ [("_law_script", u)]) ∧ ∀ base : Heap, (K w.params).In base → base.Ns mainGlobals mg → BltAt mg base → (∀ q ∈ [(c, Pt)], PySem.W.CodeHd base q.1 q.2) → FnOk l.prog w (K w.params) mg base CX0 7 fa fd ["_law_script"] (spLaw (K w.params) Pt)) :
    PySem.W.WalkO q loose XP YP l.row.toRowW d [] (fun f vs => PySem.call f vs) :=
  L2.walk_ofT (n := 63) (k := 7) (x := "_law_script") (CX := fun _ => CX0) (sp := fun w => spLaw (K w.params) Pt) hn (by decide) hdf ⟨rfl, by decide, by decide⟩ hY hT hKT F (fun _ _ a ns hl hS hH => ⟨a, ns, rfl, hS, hl, .inl (hH (c, Pt) (List.mem_singleton.mpr rfl)), fun _ => rfl⟩) fun _ _ _ _ _ z => z
end My
namespace PySem.W.Fast
def tw8945240037247012667 : Nat := 0
def tw8361479589966436404 : Nat := 0
def tw16502118407310061583 : Nat := 0
def tw10321371939333061270 : Nat := 0
def tw18081901338424276825 : Nat := 0
def tw9113676164807030292 : Nat := 0
def tw6190030666742750200 : Nat := 0
def tw10425657777498670837 : Nat := 0
def tw7076057439862254264 : Nat := 0
def tw3308525096300875706 : Nat := 0
def tw3396153496667720088 : Nat := 0
end PySem.W.Fast
open PySem PySem.W PyProof.Rows
set_option maxRecDepth 100000 in
set_option maxHeartbeats 0 in
theorem PySem.Challenge.cw_levelbench_k71_whole_windows_or_a_crowd_holds : PySem.Challenge.rw_levelbench_k71_whole_windows_or_a_crowd.Holds := by
  w_on; o_law; k_head; (case hw => w_witness2)
  k_fill
  refine My.walk (c := 110) (Pt := 108) (l := PySem.Challenge.rw_levelbench_k71_whole_windows_or_a_crowd) rfl rfl (fun w h Y => PySem.W.km_in_of Y) (fun w h Y => List.forall_mem_cons.mpr ⟨⟨PySem.W.codeHd_of_K (c := 110) (P := 108) (PySem.W.km_in_of Y) (by kernel_rfl), PySem.W.km_tabs_of Y 108 (by k_mem)⟩, fun _ h => nomatch h⟩) (fun w => List.forall_mem_cons.mpr ⟨by kernel_rfl, fun _ h => nomatch h⟩) ?F
  case F =>
    intro w mg fa h KX G hmg
    refine' My.all_mk (c := 110) (Pt := 108) KX G hmg ?a0 ?l0 ?c0 ?k0 ?a1 ?l1 ?c1 ?k1 ?a2 ?l2 ?c2 ?k2 ?a3 ?l3 ?c3 ?k3 ?a4 ?l4 ?c4 ?k4 ?a5 ?l5 ?c5 ?k5 ?a6 ?l6 ?c6 ?k6 ?a7 ?l7 ?c7 ?k7 ?a8 ?l8 ?c8 ?k8 ?a9 ?l9 ?c9 ?k9 ?a10 ?l10 ?c10 ?k10 ?a11 ?l11 ?c11 ?k11 ?a12 ?l12 ?c12 ?k12 ?a13 ?l13 ?c13 ?k13 ?a14 ?l14 ?c14 ?k14 ?a15 ?l15 ?c15 ?k15 ?a16 ?l16 ?c16 ?k16 ?a17 ?l17 ?c17 ?k17 ?a18 ?l18 ?c18 ?k18 ?a19 ?l19 ?c19 ?k19 ?a20 ?l20 ?c20 ?k20 ?a21 ?l21 ?c21 ?k21 ?z_len ?z_max ?z_range ?z_int ?z_list ?z_min ?z_dict ?z_enumerate ?z_bool ?z_sum ?z_sorted ?z_str ?z_all ?z_tuple ?z_isinstance ?e_LONGEST_NAME ?e_MOST_WINDOWS
    (case a0 => k_is)
    (case l0 => k_is)
    (case c0 => k_is)
    (case k0 => k_is)
    (case a1 => k_is)
    (case l1 => k_is)
    (case c1 => k_is)
    (case k1 => k_is)
    (case a2 => k_is)
    (case l2 => k_is)
    (case c2 => k_is)
    (case k2 => k_is)
    (case a3 => k_is)
    (case l3 => k_is)
    (case c3 => k_is)
    (case k3 => k_is)
    (case a4 => k_is)
    (case l4 => k_is)
    (case c4 => k_is)
    (case k4 => k_is)
    (case a5 => k_is)
    (case l5 => k_is)
    (case c5 => k_is)
    (case k5 => k_is)
    (case a6 => k_is)
    (case l6 => k_is)
    (case c6 => k_is)
    (case k6 => k_is)
    (case a7 => k_is)
    (case l7 => k_is)
    (case c7 => k_is)
    (case k7 => k_is)
    (case a8 => k_is)
    (case l8 => k_is)
    (case c8 => k_is)
    (case k8 => k_is)
    (case a9 => k_is)
    (case l9 => k_is)
    (case c9 => k_is)
    (case k9 => k_is)
    (case a10 => k_is)
    (case l10 => k_is)
    (case c10 => k_is)
    (case k10 => k_is)
    (case a11 => k_is)
    (case l11 => k_is)
    (case c11 => k_is)
    (case k11 => k_is)
    (case a12 => k_is)
    (case l12 => k_is)
    (case c12 => k_is)
    (case k12 => k_is)
    (case a13 => k_is)
    (case l13 => k_is)
    (case c13 => k_is)
    (case k13 => k_is)
    (case a14 => k_is)
    (case l14 => k_is)
    (case c14 => k_is)
    (case k14 => k_is)
    (case a15 => k_is)
    (case l15 => k_is)
    (case c15 => k_is)
    (case k15 => k_is)
    (case a16 => k_is)
    (case l16 => k_is)
    (case c16 => k_is)
    (case k16 => k_is)
    (case a17 => k_is)
    (case l17 => k_is)
    (case c17 => k_is)
    (case k17 => k_is)
    (case a18 => k_is)
    (case l18 => k_is)
    (case c18 => k_is)
    (case k18 => k_is)
    (case a19 => k_is)
    (case l19 => k_is)
    (case c19 => k_is)
    (case k19 => k_is)
    (case a20 => k_is)
    (case l20 => k_is)
    (case c20 => k_is)
    (case k20 => k_is)
    (case a21 => k_is)
    (case l21 => k_is)
    (case c21 => k_is)
    (case k21 => k_is)
    (case z_len => k_is)
    (case z_max => k_is)
    (case z_range => k_is)
    (case z_int => k_is)
    (case z_list => k_is)
    (case z_min => k_is)
    (case z_dict => k_is)
    (case z_enumerate => k_is)
    (case z_bool => k_is)
    (case z_sum => k_is)
    (case z_sorted => k_is)
    (case z_str => k_is)
    (case z_all => k_is)
    (case z_tuple => k_is)
    (case z_isinstance => k_is)
    (case e_LONGEST_NAME => k_is)
    (case e_MOST_WINDOWS => k_is)
