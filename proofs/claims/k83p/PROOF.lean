import PyProof.Rows.All
import Wide.All
import OpenK.AllK
import Wide.FinOn
import Lean
import PyProof.EqAt
import PyProof.EqKinds
import PyProof.TupleCall
import PyProof.StrLawsTight
import PyProof.FitsReplace
import KE.KSortTup
import PyProof.TupleKey
import PyProof.SetKind
import PyProof.IsRules
import PyProof.Rows.SetFrom
import PyProof.CollectWalk
import PyProof.DictUpdate
import PyProof.AutoListH
import PyProof.SeqI3
import PyProof.EnumStmt
import PyProof.EnumMake
import PyProof.Rows.CallKwBuiltin
import PyProof.NeKinds
import PyProof.StationsW
import PyProof.ExcClass3
import PyProof.PassesOwn
import OpenK.KOwn
import PyProof.RulesAs
import PyProof.RulesDel
import KE.KIsAll
import PyProof.ExcArgsOwn
import PyProof.StrLawsIn
import PyProof.Rows.Range3
import PyProof.Rows.FStr
import KE.KRevIter
import PyProof.DictItems
import PyProof.AttrMissHeap
import PyProof.ListCopy
import KE.KDictOf
import KE.KDictSum
import PyProof.Rows.SortRev
import PyProof.Rows.IntMath
import KE.KLam
import KE.KSortKey
import KE.KNestM
import PyProof.ZipIter
import PyProof.Rows.SumAny
import PySem.Challenge.RW_levelbench_k83_papers_refused
set_option Elab.async false
set_option linter.all false
set_option maxRecDepth 100000
def qAA:=@PySem.wpAny_bind
def qAB:=@if_neg
def qAC:=@if_pos
def qAD:=@List.length_map
def qAE:=@PySem.wpAny_pure
def qAF:=@PyProof.Rows.wpS_bind
def qAG:=@Nat.le_refl
def qAH:=@PyProof.Rows.wpS_pure
def qAI:=@PySem.Heap.lt_size
def qAJ:=@List.mem_of_getElem?
def qAK:=@PySem.sizeLine_eq
def qAL:=@List.getElem?_eq_some_iff
def qAM:=@PySem.Heap.get?_push_of_some
def qAN:=@List.length_append
def qAO:=@List.mem_singleton
def qAP:=@List.map_append
def qAQ:=@Nat.ne_of_lt
def qAR:=@List.mem_append
def qAS:=@List.size_toArray
def qAT:=@List.mem_cons
def qAU:=@List.length_take
def qAV:=@decide_eq_true
def qAW:=@Nat.le_trans
def qAX:=@List.mem_cons_of_mem
def qAY:=@List.getElem?_map
def qAZ:=@decide_eq_false
def qAa:=@List.length_cons
def qAb:=@Option.some.inj
def qAc:=@PySem.PassesOwn.never
def qAd:=@Bool.false_ne_true
def qAe:=@List.mem_map
def qAf:=@List.mem_cons_self
def qAg:=@List.take_length
def qAh:=@Ne.symm
def qAi:=@Nat.zero_le
def qAj:=@Nat.lt_of_lt_of_le
def qAk:=@PySem.Heap.get?_push_size
def qAl:=@congrArg
def qAm:=@List.append_nil
def qAn:=@List.length_singleton
def qAo:=@Array.getElem?_toList
def qAp:=@List.mem_append_left
def qAq:=@List.getElem?_eq_getElem
def qAr:=@PySem.Heap.SameBut.update
def qAs:=@List.mem_append_right
def qAt:=@List.map_cons
def qAu:=@PySem.Obj.data_mapFields
def qAv:=@PySem.wpAny_mono
def qAw:=@Int.emod_nonneg
def qAx:=@PySem.F.plainAttrs_list
def qAy:=@PySem.wpAny_holding
def qAz:=@List.length_drop
def qA0:=@Int.emod_lt_of_pos
def qA1:=@PyProof.Rows.wpS_forRange
def qA2:=@Nat.lt_irrefl
def qA3:=@PyProof.Rows.wpS_mono
def qA4:=@Nat.ne_of_gt
def qA5:=@List.getElem?_append_left
def qA6:=@PySem.wpAny_setField
def qA7:=@PyProof.Rows.wpS_modify
def qA8:=@PySem.W.kia_one
def qA9:=@PySem.Heap.get?_update_self
def qBA:=@List.flatten_cons
def qBB:=@List.length_nil
def qBC:=@List.nodup_nil
def qBD:=@PySem.wpAny_rule
def qBE:=@PySem.wpAny_field
def qBF:=@List.filter_cons
def qBG:=@beq_eq_false_iff_ne
def qBH:=@List.mem_range
def qBI:=@List.nodup_cons
def qBJ:=@List.getElem?_append_right
def qBK:=@List.append_assoc
def qBL:=@List.mem_iff_getElem
def qBM:=@Array.getElem?_eq_some_iff
def qBN:=@List.take_of_length_le
def qBO:=@List.map_map
def qBP:=@PySem.wpAny_truthy_bool
def qBQ:=@beq_iff_eq
def qBR:=@PySem.Heap.size_push
def qBS:=@Bool.and_eq_true
def qBT:=@PySem.call_meets
def qBU:=@Option.map_eq_some_iff
def qBV:=@List.lookup_cons
def qBW:=@PyProof.Rows.wpS_get
def qBX:=@List.nodup_append
def qBY:=@List.filter_append
def qBZ:=@List.mem_filter
def qBa:=@PySem.wpAny_newObj_type
def qBb:=@List.take_append_drop
def qBc:=@PySem.wpAny_askSetting
def qBd:=@PySem.Obj.isFreed_of_fields
def qBe:=@List.length_filter_le
def qBf:=@PySem.codeAny_mono
def qBg:=@List.getD_eq_getElem?_getD
def qBh:=@Classical.byContradiction
def qBi:=@Array.toList_extract
def qBj:=@List.mem_of_mem_take
def qBk:=@List.map_take
def qBl:=@List.map_drop
def qBm:=@of_decide_eq_true
def qBn:=@List.flatten_append
def qBo:=@List.filterMap_cons
def qBp:=@PySem.typeIs_str
def qBq:=@PySem.Heap.get?_update_other
def qBr:=@List.foldl_cons
def qBs:=@Nat.lt_succ_of_lt
def qBt:=@List.all_eq_true
def qBu:=@PyProof.Rows.wpS_lift
def qBv:=@PySem.codeAny_builtin
def qBw:=@PySem.F.called_set
def qBx:=@List.length_eq_zero_iff
def qBy:=@PySem.wpAny_call_entry
def qBz:=@PySem.F.slot_list_append
def qB0:=@PySem.F.type_list_append
def qB1:=@List.length_pos_iff
def qB2:=@Array.length_toList
def qB3:=@PySem.wpAny_passesOwn
def qB4:=@PySem.wpAny_load
def qB5:=@Bool.eq_iff_iff
def qB6:=@Nat.le_succ
def qB7:=@if_false
def qB8:=@List.getElem_mem
def qB9:=@PySem.wpAny_attempt
def qCA:=@PySem.Obj.cls_mapFields
def qCB:=@List.countP_append
def qCC:=@Nat.sub_self
def qCD:=@PySem.Paired.length
def qCE:=@List.getElem?_set_self
def qCF:=@PySem.wpAny_call
def qCG:=@PySem.wpAny_Call_Name_kw
def qCH:=@PySem.mem_of_lookup
def qCI:=@List.any_cons
def qCJ:=@List.find?_cons
def qCK:=@Array.toList_push
def qCL:=@List.getElem?_drop
def qCM:=@PySem.wpAny_of_eq
def qCN:=@Nat.not_lt
def qCO:=@PySem.wpAny_seqItems
def qCP:=@PySem.wpAny_isInstance
def qCQ:=@Int.ediv_nonneg
def qCR:=@Nat.le_of_lt
def qCS:=@PySem.wpAny_execs_nil
def qCT:=@PyProof.Rows.callWith_type1
def qCU:=@Nat.le_of_eq
def qCV:=@Nat.lt_succ_self
def qCW:=@PySem.W.callWith_K
def qCX:=@List.replicate_succ
def qCY:=@Array.toList_append
def qCZ:=@List.getElem?_cons_succ
def qCa:=@List.not_mem_nil
def qCb:=@PySem.Around.under_plainId
def qCc:=@PySem.wpAny_callSpecial?_slot
def qCd:=@List.map_eq_nil_iff
def qCe:=@Bool.false_eq_true
def qCf:=@List.drop_of_length_le
def qCg:=@List.all_map
def qCh:=@PyProof.Rows.wpS_reverse
def qCi:=@PySem.F.slot_list_extend
def qCj:=@PySem.F.type_list_extend
def qCk:=@List.flatten_nil
def qCl:=@List.getElem?_set_ne
def qCm:=@PySem.wpAny_standAt
def qCn:=@List.of_mem_zip
def qCo:=@PySem.W.cellsFrom_some
def qCp:=@Int.toNat_natCast
def qCq:=@List.length_set
def qCr:=@PySem.SeqAt.EqAt.same
def qCs:=@Nat.add_comm
def qCt:=@Nat.lt_trans
def qCu:=@PySem.tupleKind_room_in1
def qCv:=@PySem.wpAny_specialOf
def qCw:=@PySem.pushCells_keeps
def qCx:=@Nat.add_zero
def qCy:=@Nat.le_add_right
def qCz:=@List.mem_of_mem_drop
def qC0:=@List.getElem?_eq_none
def qC1:=@List.take_succ
def qC2:=@PySem.plainId_quiet
def qC3:=@Array.perm_iff_toList_perm
def qC4:=@PySem.F.sub_str_dict
def qC5:=@decide_eq_true_eq
def qC6:=@List.take_zero
def qC7:=@List.drop_eq_getElem_cons
def qC8:=@PySem.F.slot_list_insert
def qC9:=@PySem.F.type_list_insert
def qDA:=@PySem.wpAny_pyIter_zip
def qDB:=@List.mem_flatten
def qDC:=@Array.mem_toList_iff
def qDD:=@List.getElem?_take_of_lt
def qDE:=@List.mem_of_find?_eq_some
def qDF:=@Array.size_setIfInBounds
def qDG:=@Array.getElem?_setIfInBounds_ne
def qDH:=@Array.getElem?_setIfInBounds_self_of_lt
def qDI:=@PyProof.Rows.F.plain_set_update_loop
def qDJ:=@PySem.codeAny_call_builtin
def qDK:=@PySem.builtinLookup_eq_fast
def qDL:=@List.getElem?_eq_none_iff
def qDM:=@Option.map_eq_none_iff
def qDN:=@List.getElem?_of_mem
namespace L2
open PySem PySem.Spec PyProof.Rows
variable{us:List Value}{x:Str}{u:Value}{a C:Addr}{P:Program}{w:World}{h base:Heap}{t' i:Nat}{e tg:Expr}{A:Around}{s:Shared}{pos:Pos}{pins:List (Addr×Obj)}{op:CmpOp}{K:PySem.W.Frag}
abbrev Key:=Sum Int Str
def bW:Key->Value->Bool
 | .inl k,v=>Value.isInt k v
 | .inr x,v=>Value.isStrOf x v
def vB(w:World):Key->Int
 | .inl k=>hashInt k
 | .inr x=>hashStr w x
theorem zBo:∀{k:Key}{v:Value},bW k v=true->(∃i t,k=Sum.inl i/\v=Value.int i t)\/(∃x t,k=Sum.inr x/\v=Value.str x t)
 | .inl i,v,h=>by
  obtain⟨t,e⟩:=Value.isInt_shape (k:=i) (v:=v) h;exact .inl ⟨i,t,rfl,e⟩
 | .inr x,v,h=>by
  obtain⟨t,e⟩:=Value.isStrOf_shape (x:=x) (v:=v) h;exact .inr ⟨x,t,rfl,e⟩
theorem jZ(i:Int)(t:Tok):bW (.inl i) (.int i t)=true:=by simp[bW,Value.isInt]
theorem lC(x:Str)(t:Tok):bW (.inr x) (.str x t)=true:=by simp[bW,Value.isStrOf]
theorem sX(a b:Int):decide ((Sum.inl a:Key)=Sum.inl b)=(a==b):=by
 by_cases e:a=b
 .subst e;simp
 .have h:¬(Sum.inl a:Key)=Sum.inl b:=λq=>e (Sum.inl.inj q);rw[qAZ h];exact(qBG.mpr e).symm
theorem rQ(a b:Str):decide ((Sum.inr a:Key)=Sum.inr b)=decide (a=b):=by
 by_cases e:a=b
 .subst e;simp
 .have h:¬(Sum.inr a:Key)=Sum.inr b:=λq=>e (Sum.inr.inj q);rw[qAZ h,qAZ e]
theorem su(a:Int)(b:Str):decide ((Sum.inl a:Key)=Sum.inr b)=false:=qAZ (λq=>nomatch q)
theorem sW(a:Str)(b:Int):decide ((Sum.inr a:Key)=Sum.inl b)=false:=qAZ (λq=>nomatch q)
def zB5(prog:Program)(w:World):PySem.KeyKind prog w Key where
 is:=bW
 hash:=vB w
 inj:=λv a b ha hb=>by
  rcases zBo ha with⟨i,t,rfl,rfl⟩|⟨x,t,rfl,rfl⟩
  .rcases zBo hb with⟨j,u,rfl,e⟩|⟨y,u,rfl,e⟩
   .injection e with e1 _;rw[e1]
   .exact nomatch e
  .rcases zBo hb with⟨j,u,rfl,e⟩|⟨y,u,rfl,e⟩
   .exact nomatch e
   .injection e with e1 _;rw[e1]
 byValue:=λk v h=>by
  rcases zBo h with⟨i,t,rfl,rfl⟩|⟨x,t,rfl,rfl⟩<;>rfl
 pyHash:=λhv h=>by
  rcases zBo hv with⟨i,t,rfl,rfl⟩|⟨x,t,rfl,rfl⟩
  .exact wpAny_pyHash_int h
  .exact wpAny_pyHash_str h
 eqBool:=λhu hv h=>by
  rcases zBo hu with⟨i,t,rfl,rfl⟩|⟨x,t,rfl,rfl⟩
  .rcases zBo hv with⟨j,u,rfl,rfl⟩|⟨y,u,rfl,rfl⟩
   .rw [sX]at h;exact wpAny_eqBool_int h
   .rw [su]at h;exact SeqAt.EqAt.int_str i t y u _ _ _ _ h
  .rcases zBo hv with⟨j,u,rfl,rfl⟩|⟨y,u,rfl,rfl⟩
   .rw [sW]at h;exact SeqAt.EqAt.str_int x t j u _ _ _ _ h
   .rw [rQ]at h;exact wpAny_eqBool_str h
 «strs»:=λk x t v h=>by
  rcases zBo h with⟨i,u,rfl,e⟩|⟨y,u,rfl,e⟩
  .exact nomatch e
  .injection e with e1 _;subst e1
   cases v<;>rfl
theorem gE(prog:Program)(w:World)(i:Int)(t:Tok):(zB5 prog w).is (.inl i) (.int i t)=true:=jZ i t
theorem gx(prog:Program)(w:World)(x:Str)(t:Tok):(zB5 prog w).is (.inr x) (.str x t)=true:=lC x t
inductive V where
 |non|bl (b:Bool)|int (i:Int)|str (x:Str)|byt (b:Array UInt8)|flt (b:UInt64)|ref (a:Addr)|ty (n:String)
 deriving DecidableEq
variable{xs:List V}{v y:V}
def am:V->Value->Prop
 | .non,u=>u=Value.none
 | .bl b,u=>u=Value.bool b
 | .int i,u=>∃t,u=Value.int i t
 | .str x,u=>∃t,u=Value.str x t
 | .byt b,u=>∃t,u=Value.bytes b t
 | .flt b,u=>∃t,u=Value.float b t
 | .ref a,u=>u=Value.ref a
 | .ty n,u=>u=Value.type n
abbrev aj:List V->List Value->Prop:=Paired am
theorem aj.length(r:aj xs us):xs.length=us.length:=qCD r
theorem aj.get:∀{xs:List V}{us:List Value}{i:Nat}{x:V},aj xs us->xs[i]?=some x->∃u,us[i]?=some u/\am x u
 |_,_,_,_,.nil,e=>by simp at e
 |_,_,0,_,.cons r _,e=>by simp at e;subst e;exact⟨_,rfl,r⟩
 |_,_,i+1,x,.cons _ t,e=>by
  obtain⟨u,h1,h2⟩:=aj.get (i:=i) (x:=x) t (by simpa using e);exact⟨u,by simpa using h1,h2⟩
theorem aj.set{x:V}(r:am x u):∀{xs:List V}{us:List Value}(i:Nat),aj xs us->aj (xs.set i x) (us.set i u)
 |_,_,_,.nil=>.nil
 |_,_,0,.cons _ t=>.cons r t
 |_,_,i+1,.cons q t=>.cons q (aj.set r i t)
theorem aj.append:∀{xs ys:List V}{us ws:List Value},aj xs us->aj ys ws->aj (xs++ys) (us++ws)
 |_,_,_,_,.nil,s=>s
 |_,_,_,_,.cons r t,s=>.cons r (aj.append t s)
theorem aj.take:∀{xs:List V}{us:List Value}(n:Nat),aj xs us->aj (xs.take n) (us.take n)
 |_,_,0,_=>.nil
 |_,_,_+1,.nil=>.nil
 |_,_,n+1,.cons r t=>.cons r (aj.take n t)
theorem aj.drop:∀{xs:List V}{us:List Value}(n:Nat),aj xs us->aj (xs.drop n) (us.drop n)
 |_,_,0,r=>r
 |_,_,_+1,.nil=>.nil
 |_,_,n+1,.cons _ t=>aj.drop n t
def bj:Option V->Option Value->Prop
 |some v,some u=>am v u
 |none,none=>True
 |_,_=>False
def KV{κ:Type}:List (κ×V)->List (κ×Value)->Prop:=Paired λ(p:κ×V)(q:κ×Value)=>p.1=q.1/\am p.2 q.2
def kV:Key->V
 | .inl i=>.int i
 | .inr x=>.str x
inductive HO where
 |lst (xs:List V)
 |tup (xs:List V)
 |dK (kvs:List (Key×V))|dT (kvs:List (List Key×V))
 |set (S:Int->Bool) (n:Nat)
 |ins (C dx:Addr) (fs:List (Str×V))
 |own (x:Addr)
 |xd (fs:List (Str×V))
 |met (f x:Addr)
 |rng (lo hi:Int)
 |frz (o:Obj) (u:HO)
 |tbl (ps:Array Value)
 |ext (φ:Heap->Prop)
variable{o:HO}
abbrev Hp:=Addr->Option HO
variable{H:Hp}
def upd(H:Hp)(a:Addr)(o:HO):Hp:=λb=>if b=a then some o else H b
theorem ac :upd H a o a=some o:=by unfold upd;rw[qAC rfl]
theorem ad{b:Addr}(h:b≠a):upd H a o b=H b:=by unfold upd;rw[qAB h]
theorem zB7{u:HO}:upd (upd H a o) a u=upd H a u:=by
 funext b;unfold upd;split<;>rfl
theorem zCp{b:Addr}{u:HO}(h:H a=some o)(h':H b=some u)(d:o≠u):a≠b:=by
 intro e;subst e;rw[h]at h';exact d (qAb h')
theorem zAm{b:Addr}(h:H a=some o)(h':H b=none):a≠b:=by
 intro e;subst e;rw[h]at h';cases h'
section
variable(P:Program)(w:World)
def zBq(H:Hp)(h:Heap)(a:Addr):HO->Prop
 | .lst xs=>xs.length<=sizeLine/\∃(its:List Value)(n:Nat),aj xs its/\h.get? a=some {cls:=.type "list",data:=.seq its.toArray n}
 | .tup xs=>xs.length<=sizeLine/\∃its:List Value,aj xs its/\IsTup h a its.toArray
 | .dK kvs=>kvs.length<=sizeLine/\(a==sysModules)=false/\∃vs,KV kvs vs/\h.DictOf (zB5 P w) a vs
 | .dT kvs=>kvs.length<=sizeLine/\(a==sysModules)=false/\∃xs:List (List Key×Addr×Value),
   Paired (λ(p:List Key×V)(q:List Key×Addr×Value)=>p.1=q.1/\H q.2.1=some (.tup (p.1.map kV))/\am p.2 q.2.2) kvs xs /\
   ∃o es ep,h.get? a=some o/\o.ExactDict/\o.data= .dict es ep/\es.toList=xs.map (entryOfKey (tupleKind (zB5 P w)))/\(xs.map (·.1)).Nodup
 | .set S n=>h.SetOf (intKind P w) a S n
 | .ins C dx fs=>H dx=some (.own a)/\fs.length<=1000/\dx≠a/\h.get? a=some (PySem.W.instObj C dx) /\
   ∃mA,h.Ns1 dx mA/\(∀f,bj (fs.lookup f) (mA f))/\PySem.Within mA (fs.map (·.1))
 | .own _=>∃o,h.get? a=some o
 | .xd fs=>∃mA,h.Ns1 a mA/\∀f,bj (fs.lookup f) (mA f)
 | .rng lo hi=>∃t u v,h.get? a=some {cls:=.type "range",data:=.fields #[.int lo t,.int hi u,.int 1 v]}
 | .frz o u=>h.get? a=some o/\zBq H h a u
 | .tbl ps=>h.get? a=some {cls:=.none,data:=.fields ps}
 | .met f x=>h.get? a=some (PySem.W.methodObj (.ref f) (.ref x))
 | .ext φ=>φ h/\(∃o,h.get? a=some o)/\∀h1 h2:Heap,φ h1->(∀o,h1.get? a=some o->h2.get? a=some o)->φ h2
def HOk(H:Hp)(h:Heap):Prop:=∀a o,H a=some o->zBq P w H h a o
end
section
variable{P:Program}{w:World}{H H':Hp}{h h':Heap}{a:Addr}{o:HO}
theorem zBq.lt(x:zBq P w H h a o):a<h.objs.size:=by
 cases o with
 |lst xs=>obtain⟨_,_,_,_,e⟩:=x;exact qAI e
 |tup xs=>obtain⟨_,_,_,p⟩:=x;exact p.lt
 |dK kvs=>obtain⟨_,_,_,_,o,_,_,e,_⟩:=x;exact qAI e
 |dT kvs=>obtain⟨_,_,_,_,o,_,_,e,_⟩:=x;exact qAI e
 |set S n=>obtain⟨o,_,_,_,e,_⟩:=x;exact qAI e
 |ins C dx fs=>obtain⟨_,_,_,e,_⟩:=x;exact qAI e
 |own y=>obtain⟨_,e⟩:=x;exact qAI e
 |xd fs=>obtain⟨_,⟨_,_,_,e,_⟩,_⟩:=x;exact qAI e
 |rng lo hi=>obtain⟨_,_,_,e⟩:=x;exact qAI e
 |frz ob u=>obtain⟨e,_⟩:=x;exact qAI e
 |tbl ps=>exact qAI (show h.get? a=some _ from x)
 |met f y=>exact qAI (show h.get? a=some _ from x)
 |ext φ=>obtain⟨_,⟨_,e⟩,_⟩:=x;exact qAI e
theorem Paired.mapP{α β:Type}{F G:α->β->Prop}:∀{l₁:List α}{l₂:List β},Paired F l₁ l₂->(∀a b,F a b->G a b)->Paired G l₁ l₂
 |_,_,.nil,_=>.nil
 |_,_,.cons r t,f=>.cons (f _ _ r) (Paired.mapP t f)
theorem zBq.stay(x:zBq P w H h a o)(k:∀b u,(b=a\/H b=some (.own a))->h.get? b=some u->h'.get? b=some u)
  (ho:∀b,H b=some (.own a)->H' b=some (.own a)) (ht:∀b xs,H b=some (.tup xs)->H' b=some (.tup xs)):zBq P w H' h' a o:=by
 induction o with
 |lst xs=>obtain⟨z,its,n,r,e⟩:=x;exact⟨z,its,n,r,k _ _ (.inl rfl) e⟩
 |tup xs=>obtain⟨z,its,r,ob,e,c⟩:=x;exact⟨z,its,r,ob,k _ _ (.inl rfl) e,c⟩
 |dK kvs=>obtain⟨z,y,vs,r,ob,es,ep,e,c⟩:=x;exact⟨z,y,vs,r,ob,es,ep,k _ _ (.inl rfl) e,c⟩
 |dT kvs=>
  obtain⟨z,y,xs,r,ob,es,ep,e,c⟩:=x;exact⟨z,y,xs,Paired.mapP r λp q z=>⟨z.1,ht _ _ z.2.1,z.2.2⟩,ob,es,ep,k _ _ (.inl rfl) e,c⟩
 |set S n=>obtain⟨ob,es,ep,t,e,c⟩:=x;exact⟨ob,es,ep,t,k _ _ (.inl rfl) e,c⟩
 |ins C dx fs=>
  obtain⟨d,z,ne,e,mA,⟨od,es,ep,e2,c⟩,r⟩:=x;exact⟨ho _ d,z,ne,k _ _ (.inl rfl) e,mA,⟨od,es,ep,k _ _ (.inr d) e2,c⟩,r⟩
 |own y=>obtain⟨ob,e⟩:=x;exact⟨ob,k _ _ (.inl rfl) e⟩
 |xd fs=>obtain⟨mA,⟨od,es,ep,e,c⟩,r⟩:=x;exact⟨mA,⟨od,es,ep,k _ _ (.inl rfl) e,c⟩,r⟩
 |rng lo hi=>obtain⟨t,u,v,e⟩:=x;exact⟨t,u,v,k _ _ (.inl rfl) e⟩
 |frz ob u ih=>obtain⟨e,q⟩:=x;exact⟨k _ _ (.inl rfl) e,ih q⟩
 |tbl ps=>
  have e:h.get? a=some {cls:=.none,data:=.fields ps}:=x;show h'.get? a=some {cls:=.none,data:=.fields ps};exact k a _ (.inl rfl) e
 |met f y=>
  have e:h.get? a=some (PySem.W.methodObj (.ref f) (.ref y)):=x;show h'.get? a=some (PySem.W.methodObj (.ref f) (.ref y));exact k a _ (.inl rfl) e
 |ext φ=>obtain⟨p,⟨o,e⟩,st⟩:=x;exact⟨st _ _ p λo q=>k _ _ (.inl rfl) q,⟨o,k _ _ (.inl rfl) e⟩,st⟩
theorem HOk.lt(x:HOk P w H h)(e:H a=some o):a<h.objs.size:=(x a o e).lt
theorem HOk.fresh(x:HOk P w H h)(e:h.objs.size<=a):H a=none:=by
 cases q:H a with
 |none=>rfl
 |some u=>exact absurd (qAj (x.lt q) e) (qA2 _)
theorem HOk.kept(x:HOk P w H h)(k:∀b u,h.get? b=some u->h'.get? b=some u):HOk P w H h':=λa o e=>
 (x a o e).stay (λb u _ q=>k b u q) (λ_ q=>q) λ_ _ q=>q
theorem HOk.laid(x:HOk P w H h)(k:∀b u,h.get? b=some u->h'.get? b=some u)(hp:h.objs.size<=a)(new:zBq P w (upd H a o) h' a o):HOk P w (upd H a o) h':=λb u e=>by
 have hn:=x.fresh hp
 by_cases hb:b=a
 .subst hb;rw[ac]at e;cases e;exact new
 .rw [ad hb]at e;exact(x b u e).stay (λc v _ q=>k c v q) (λc q=>by rw[ad (zAm q hn)];exact q) λc xs q=>by rw[ad (zAm q hn)];exact q
end
def Rd(H:Hp)(a:Addr)(u:HO):Prop:=H a=some u\/∃o,H a=some (.frz o u)
theorem Rd.ok{u:HO}(r:Rd H a u)(x:HOk P w H h):zBq P w H h a u:=by
 rcases r with r|⟨o,r⟩
 .exact x a u r
 .obtain ⟨_,q⟩:=x a _ r;exact q
def Mut:Option HO->Prop
 |some (.lst _)=>True
 |some (.dK _)=>True
 |some (.dT _)=>True
 |some (.set _ _)=>True
 |some (.ins _ _ _)=>True
 |some (.ext _)=>True
 |_=>False
section
variable{P:Program}{w:World}{H:Hp}{h h':Heap}{x e:Addr}{o':HO}
theorem HOk.write(ok:HOk P w H h)(mu:Mut (H x))(he:e=x\/H e=some (.own x))(k:∀b u,b≠e->h.get? b=some u->h'.get? b=some u)(heo:∃u,h'.get? e=some u)
  (new:zBq P w (upd H x o') h' x o'):HOk P w (upd H x o') h':=λb u q=>by
 have nown:∀c y,H c=some (.own y)->c≠x:=λc y r z=>by subst z;rw[r]at mu;exact mu
 have ntup:∀c xs,H c=some (.tup xs)->c≠x:=λc xs r z=>by subst z;rw[r]at mu;exact mu
 by_cases hb:b=x
 .subst hb;rw[ac]at q;cases q;exact new
 .rw [ad hb]at q
  by_cases hbe:b=e
  .have q':H b=some (.own x):=by
    rcases he with z|z
    .exact absurd (hbe.trans z) hb
    .rw [hbe];exact z
   rw[q]at q';cases q';obtain⟨v,hv⟩:=heo;exact⟨v,by rw[hbe];exact hv⟩
  .refine (ok b u q).stay (λc v hc r=>k c v ?_ r) (λc r=>by rw[ad (nown c b r)];exact r) λc xs r=>by rw[ad (ntup c xs r)];exact r
   rcases hc with rfl|hc
   .exact hbe
   .rintro rfl;rcases he with z|z
    .exact nown c b hc z
    .rw [hc]at z;cases z;exact hb rfl
end
structure Un(fs ex:List Addr)(H H':Hp)(h h':Heap):Prop where
 keep:∀b o,h.get? b=some o->H b=none->b∉fs->b∉ex->h'.get? b=some o
 slot:∀b o,h.get? b=some o->H b=none->b∈fs->b∉ex->∃sl,h'.get? b=some {o with slots:=sl}
 free:∀b o,h.get? b=some o->H b=none->b∉ex->H' b=none
 there:∀b o,h.get? b=some o->b∉ex->∃o',h'.get? b=some o'
 tups:∀b xs,H b=some (.tup xs)->H' b=some (.tup xs)
 frzs:∀b o u,H b=some (.frz o u)->H' b=some (.frz o u)
 tbls:∀b ps,H b=some (.tbl ps)->∃more,H' b=some (.tbl (ps++more))
section
variable{fs fs' ex ex':List Addr}{H H1 H2:Hp}{h h1 h2 h':Heap}{a x e:Addr}{o:HO}
theorem Un.any(u:Un fs ex H H1 h h1){b:Addr}{ob:Obj}(q:h.get? b=some ob)(n:H b=none)(hx:b∉ex):∃sl,h1.get? b=some {ob with slots:=sl}:=by
 by_cases hb:b∈fs
 .exact u.slot b ob q n hb hx
 .exact ⟨ob.slots,u.keep b ob q n hb hx⟩
theorem Un.kept(k:∀b u,h.get? b=some u->h'.get? b=some u):Un fs ex H H h h' :=
 ⟨λb ob q _ _ _=>k b ob q,λb ob q _ _ _=>⟨ob.slots,k b ob q⟩,λ_ _ _ n _=>n,λb ob q _=>⟨ob,k b ob q⟩,λ_ _ q=>q,λ_ _ _ q=>q,λ_ ps q=>⟨#[],by rw[q];simp⟩⟩
theorem Un.refl:Un fs ex H H h h:=Un.kept λ_ _ q=>q
theorem Un.laid(k:∀b u,h.get? b=some u->h'.get? b=some u)(hp:h.objs.size<=a)(hn:H a=none):Un fs ex H (upd H a o) h h' where
 keep:=λb u q _ _ _=>k b u q
 slot:=λb u q _ _ _=>⟨u.slots,k b u q⟩
 free:=λb u q n _=>by rw[ad (qAQ (qAj (qAI q) hp))];exact n
 there:=λb u q _=>⟨u,k b u q⟩
 tups:=λb xs q=>by rw[ad (zAm q hn)];exact q
 frzs:=λb u xs q=>by rw[ad (zAm q hn)];exact q
 tbls:=λb ps q=>⟨#[],by rw[ad (zAm q hn),q];simp⟩
theorem Un.write(mu:Mut (H x))(he:e=x\/H e=some (.own x))(k:∀b u,b≠e->h.get? b=some u->h'.get? b=some u)(heo:∃u,h'.get? e=some u):Un fs ex H (upd H x o) h h':=by
 have hx:∀b,H b=none->b≠x:=λb n z=>by subst z;rw[n]at mu;exact mu
 have hb:∀b,H b=none->b≠e:=λb n z=>by
  subst z;rcases he with r|r
  .exact hx b n r
  .rw [n]at r;cases r
 have hm:∀b u,H b=some u->¬Mut (some u)->b≠x:=λb u q nm z=>by subst z;rw[q]at mu;exact nm mu
 refine⟨λb u q n _ _=>k b u (hb b n) q,λb u q n _ _=>⟨u.slots,k b u (hb b n) q⟩,λb u q n _=>by rw[ad (hx b n)];exact n,λb u q _=>?_,
  λb xs q=>by rw[ad (hm b _ q λz=>z)];exact q,λb u xs q=>by rw[ad (hm b _ q λz=>z)];exact q,λb ps q=>⟨#[],by rw[ad (hm b _ q λz=>z),q];simp⟩⟩
 by_cases hbe:b=e
 .subst hbe;exact heo
 .exact ⟨u,k b u hbe q⟩
end
def trk(h:Heap)(H:Hp):List Addr:=(List.range h.objs.size).filter λa=>(H a).isSome
def bO(h:Heap)(H:Hp):Heap:=PySem.W.hideAll h (trk h H)
theorem kn(h:Heap)(H:Hp):(bO h H).objs.size=h.objs.size:=PySem.W.hideAll_size _ _
theorem md{b:Addr}{o:Obj}(e:h.get? b=some o)(n:H b=none):(bO h H).get? b=some o :=
 PySem.W.hideAll_get _ e λhm=>by
  have q:(H b).isSome=true:=(qBZ.mp hm).2;rw[n]at q;simp at q
theorem pd{b:Addr}{o:Obj}(e:(bO h H).get? b=some o):h.get? b=some o/\H b=none:=by
 have e':h.get? b=some o:=PySem.W.of_hideAll (trk h H) e;refine⟨e',?_⟩
 cases q:H b with
 |none=>rfl
 |some x=>
  have hm:b∈trk h H:=qBZ.mpr ⟨qBH.mpr (qAI e'),by simp[q]⟩;have z:(bO h H).get? b=none:=PySem.W.hideAll_none (trk h H) hm;rw[z]at e;cases e
structure Mod(K:PySem.W.Frag)(mg:Str->Option Value)(base:Heap):Prop where
 kin:K.In base
 glob:base.Ns mainGlobals mg
 blt:∃mb,base.Ns builtinsNs mb/\∀x:Str,x≠ "__name__"->mb x=bootBuiltins x
 nolimit:base.NoLimit
structure Cx where
 prog:Program
 w:World
 K:PySem.W.Frag
 mg:Str->Option Value
 base:Heap
 A:Around
 N:List Str
 s₀:Shared
 H₀:Hp
 env:Env
 outer:List Env
 stack:List Env
 ex:List Addr
 fn:Str->Bool
 calm:Bool
 pn:List (Addr×Obj)
 xe:Value->Shared->Prop
variable{X:Cx}
def frs(l:List Env):List Addr:=l.filterMap (·.frame)
abbrev Cx.fs(X:Cx):List Addr:=frs X.outer
def Vis(sc:Scope)(x:Str):Prop:=sc.names.lookup x=some .local\/sc.names.lookup x=some .cell\/sc.names.lookup x=some .free
def Loc(sc:Scope)(x:Str):Prop:=sc.names.lookup x=some .local\/sc.names.lookup x=some .cell
def uk(env:Env)(h:Heap)(m:Str->Option Value)(x:Str)(u:Value):Prop :=
 (env.kindOf x=some .local/\m x=some u)\/((env.kindOf x=some .cell\/env.kindOf x=some .free)/\∃c,env.cells.lookup x=some c/\h.IsCell c (some u))
structure Cx.Ok(X:Cx):Prop where
 mod:Mod X.K X.mg X.base
 kind:X.env.scope.kind= .function
 glob:X.env.globals=mainGlobals
 blt:X.env.builtins=builtinsNs
 above:X.s₀.heap.objs.size<=X.env.locals
 inj:∀x y c,X.env.cells.lookup x=some c->X.env.cells.lookup y=some c->x=y
 has:∀x,(X.env.kindOf x=some .cell\/X.env.kindOf x=some .free)->∃c,X.env.cells.lookup x=some c
 cab:∀x c,X.fn x=true->X.env.cells.lookup x=some c->X.s₀.heap.objs.size<=c
 hd:X.calm=true->X.A.handled=none
 frames:X.A.frames=some X.stack
 stk:X.stack=X.outer\/(X.stack=X.env::X.outer/\X.env.frame=some X.env.locals)
 exf:∀b∈X.ex,b≠X.env.locals/\∀x c,X.env.cells.lookup x=some c->c≠b
 bs:∀b o,X.base.get? b=some o->X.s₀.heap.get? b=some o/\X.H₀ b=none
 bsz:X.base.objs.size<=X.s₀.heap.objs.size
 noex:∀b o,X.base.get? b=some o->b∉X.ex
 exfs:∀b∈X.ex,b∉X.fs
 funs:X.s₀.heap.FunFrames X.base X.outer
 frf:∀b∈X.fs,X.H₀ b=none
structure Inv(X:Cx)(pins:List (Addr×Obj))(σ:List (Option V))(H:Hp)(s:Shared):Prop where
 ok:X.Ok
 os:s.os=X.s₀.os
 bare:AllBare s.gens
 base:Un X.fs X.ex X.H₀ H X.s₀.heap s.heap
 loc:∃m,s.heap.Ns X.env.locals m/\∀(i:Nat)(x:Str)(v:V),X.N[i]?=some x->σ[i]?=some (some v)->Vis X.env.scope x->∃u,am v u/\uk X.env s.heap m x u
 cell:∀x c,X.env.cells.lookup x=some c->∃v,s.heap.IsCell c v
 free:H X.env.locals=none
 freeC:∀x c,X.env.cells.lookup x=some c->H c=none
 pin:∀p∈X.pn++pins,s.heap.get? p.1=some p.2/\H p.1=none/\p.1≠X.env.locals/\p.1∉X.fs/\∀v,p.2.data≠.cell v
 hok:HOk X.prog X.w H s.heap
 len:σ.length=X.N.length
section
variable{X:Cx}{pins:List (Addr×Obj)}{σ:List (Option V)}{H H':Hp}{s:Shared}{h':Heap}
theorem Cx.Ok.nofr(ok:X.Ok){b:Addr}{o:Obj}(e:X.base.get? b=some o):b∉X.fs:=λhb=>by
 have:=(ok.funs.mem hb).1;rw[e]at this;cases this
theorem Inv.bs(I:Inv X pins σ H s):∀b o,X.base.get? b=some o->s.heap.get? b=some o/\H b=none:=λb o e=>
 ⟨I.base.keep b o (I.ok.bs b o e).1 (I.ok.bs b o e).2 (I.ok.nofr e) (I.ok.noex b o e),I.base.free b o (I.ok.bs b o e).1 (I.ok.bs b o e).2 (I.ok.noex b o e)⟩
theorem Inv.bk(I:Inv X pins σ H s):∀b o,X.base.get? b=some o->s.heap.get? b=some o:=λb o e=>(I.bs b o e).1
theorem Inv.mod(I:Inv X pins σ H s):Mod X.K X.mg X.base:=I.ok.mod
theorem Inv.kIn(I:Inv X pins σ H s):X.K.In s.heap:=I.ok.mod.kin.keeps I.bk
theorem Inv.lt(I:Inv X pins σ H s):X.env.locals<s.heap.objs.size:=let⟨_,hn,_⟩:=I.loc;hn.lt
theorem Inv.sz(I:Inv X pins σ H s):X.s₀.heap.objs.size<=s.heap.objs.size:=qAW I.ok.above (qCR I.lt)
theorem Inv.nofs(I:Inv X pins σ H s)(h:s.heap.objs.size<=a):a∉X.fs:=λhb=>by
 obtain⟨_,o,ho,_⟩:=I.ok.funs.mem hb;exact absurd (qAj (qAI ho) (qAW I.sz h)) (qA2 _)
theorem Inv.cne(I:Inv X pins σ H s):∀x c,X.env.cells.lookup x=some c->c≠X.env.locals:=λx c e z=>by
 obtain⟨v,o,ho,hd⟩:=I.cell x c e;obtain⟨m,⟨o',es,ep,ho',hd',_⟩,_⟩:=I.loc;rw[z,ho']at ho;cases ho;rw[hd']at hd;cases hd
theorem Inv.funs(I:Inv X pins σ H s):s.heap.FunFrames X.base X.outer:=by
 have all:∀(l:List Env),(∀b∈frs l,b∈X.fs)->X.s₀.heap.FunFrames X.base l->s.heap.FunFrames X.base l:=by
  intro l
  induction l with
  |nil=>intro _ _;trivial
  |cons env r ih=>
   intro hs hl;obtain⟨hk,⟨L,o,hf,hn,ho,hd⟩,hr⟩:=hl;have hL:L∈X.fs:=hs L (by unfold frs;rw[qBo,hf];exact qAf);obtain⟨sl,e⟩:=I.base.slot L o ho (I.ok.frf L hL) hL λz=>I.ok.exfs L z hL;exact⟨hk,⟨L,_,hf,hn,e,hd⟩,ih (λb hb=>hs b (by unfold frs;rw[qBo,hf];exact qAX _ hb)) hr⟩
 exact all X.outer (λ_ hb=>hb) I.ok.funs
theorem Inv.stack(I:Inv X pins σ H s):s.heap.FunFrames X.base X.stack:=by
 rcases I.ok.stk with e|⟨e,hf⟩
 .rw [e];exact I.funs
 .rw [e];obtain⟨m,hn,_⟩:=I.loc;refine .cons (by rw[I.ok.kind];decide) hf hn ?_ I.funs;exact Heap.get?_none_of_le (qAW I.ok.bsz I.ok.above)
theorem Inv.stkSub(I:Inv X pins σ H s):∀b∈frs X.stack,b∈X.env.locals::X.fs:=λb hb=>by
 rcases I.ok.stk with e|⟨e,hf⟩
 .rw [e]at hb;exact qAX _ hb
 .rw [e]at hb;unfold frs at hb;rw[qBo,hf]at hb;exact hb
theorem Inv.stkFree(I:Inv X pins σ H s):∀b∈frs X.stack,H b=none:=λb hb=>by
 rcases qAT.mp (I.stkSub b hb)with e|hb
 .rw [e];exact I.free
 .obtain ⟨_,o,ho,_⟩:=I.ok.funs.mem hb;exact I.base.free b o ho (I.ok.frf b hb) λz=>I.ok.exfs b z hb
theorem Inv.step{g':Array GenState}{t':Nat}{d':Drawn}{ch:List Addr}(I:Inv X pins σ H s)
  (hch:∀b∈ch,(b∈X.ex\/X.s₀.heap.objs.size<=b)/\b≠X.env.locals/\(∀x c,X.env.cells.lookup x=some c->c≠b)/\∀p∈X.pn++pins,p.1≠b)
  (keep:∀b o,b≠X.env.locals->b∉X.fs->b∉ch->s.heap.get? b=some o->H b=none->h'.get? b=some o)
  (slot:∀b o,b≠X.env.locals->b∈X.fs->b∉ch->s.heap.get? b=some o->H b=none->∃sl,h'.get? b=some {o with slots:=sl}) (free:∀b o,b∉ch->s.heap.get? b=some o->H b=none->H' b=none)
  (there:∀b o,b∉ch->s.heap.get? b=some o->∃o',h'.get? b=some o')
  (tups:∀b xs,H b=some (.tup xs)->H' b=some (.tup xs)) (frzs:∀b o u,H b=some (.frz o u)->H' b=some (.frz o u)) (tbls:∀b ps,H b=some (.tbl ps)->∃more,H' b=some (.tbl (ps++more)))
  (ns:∀m,s.heap.Ns X.env.locals m->h'.Ns X.env.locals m) (hok:HOk X.prog X.w H' h') (hg:AllBare g') :
  Inv X pins σ H' {s with heap:=h',gens:=g',drawn:=d',toks:=t'}:=by
 have neL:∀b o,X.s₀.heap.get? b=some o->b≠X.env.locals:=λb o e=>qAQ (qAj (qAI e) I.ok.above)
 have neC:∀b o,X.s₀.heap.get? b=some o->b∉X.ex->b∉ch:=λb o e hx hb=>by
  rcases(hch b hb).1 with z|z
  .exact hx z
  .exact absurd (qAj (qAI e) z) (qA2 _)
 have cellK:∀x c,X.env.cells.lookup x=some c->∀v,s.heap.IsCell c v->h'.IsCell c v:=λx c e v ⟨o,ho,hd⟩=>by
  have nch:c∉ch:=λz=>(hch c z).2.2.1 x c e rfl
  by_cases hc:c∈X.fs
  .obtain ⟨sl,q⟩:=slot c o (I.cne x c e) hc nch ho (I.freeC x c e);exact⟨_,q,hd⟩
  .exact ⟨o,keep c o (I.cne x c e) hc nch ho (I.freeC x c e),hd⟩
 refine⟨I.ok,I.os,hg,⟨λb o e n hb hx=>?_,λb o e n hb hx=>?_,λb o e n hx=>?_,λb o e hx=>?_,λb xs e=>tups b xs (I.base.tups b xs e),λb o xs e=>frzs b o xs (I.base.frzs b o xs e),λb ps e=>?_⟩,?_,λx c e=>?_,?_,λx c e=>?_,λp hp=>?_,hok,I.len⟩
 .exact keep b o (neL b o e) hb (neC b o e hx) (I.base.keep b o e n hb hx) (I.base.free b o e n hx)
 .obtain ⟨sl,e1⟩:=I.base.slot b o e n hb hx;obtain⟨sl',e2⟩:=slot b _ (neL b o e) hb (neC b o e hx) e1 (I.base.free b o e n hx);exact⟨sl',e2⟩
 .obtain ⟨o',e1⟩:=I.base.there b o e hx;exact free b o' (neC b o e hx) e1 (I.base.free b o e n hx)
 .obtain ⟨o',e1⟩:=I.base.there b o e hx;exact there b o' (neC b o e hx) e1
 .obtain ⟨m1,e1⟩:=I.base.tbls b ps e;obtain⟨m2,e2⟩:=tbls b _ e1;exact⟨m1++m2,by rw[e2,Array.append_assoc]⟩
 .obtain ⟨m,hn,hl⟩:=I.loc;refine⟨m,ns m hn,λi x v e1 e2 e3=>?_⟩;obtain⟨u,r,l⟩:=hl i x v e1 e2 e3;refine⟨u,r,?_⟩;rcases l with l|⟨k,c,e,z⟩
  .exact .inl l
  .exact .inr ⟨k,c,e,cellK x c e _ z⟩
 .obtain ⟨v,z⟩:=I.cell x c e;exact⟨v,cellK x c e v z⟩
 .obtain ⟨m,⟨o,_,_,ho,_⟩,_⟩:=I.loc;exact free _ o (λz=>(hch _ z).2.1 rfl) ho I.free
 .obtain ⟨v,o,ho,hd⟩:=I.cell x c e;exact free c o (λz=>(hch c z).2.2.1 x c e rfl) ho (I.freeC x c e)
 .obtain ⟨e,n,ne,nf,d⟩:=I.pin p hp;have nch:p.1∉ch:=λz=>(hch p.1 z).2.2.2 p hp rfl;exact⟨keep p.1 p.2 ne nf nch e n,free p.1 p.2 nch e n,ne,nf,d⟩
theorem Inv.un{t':Nat}(I:Inv X pins σ H s)(u:Un X.fs [] H H' s.heap h')(hok:HOk X.prog X.w H' h'):Inv X pins σ H' {s with heap:=h',toks:=t'}:=by
 obtain⟨m,⟨o,es,ep,ho,r⟩,_⟩:=id I.loc;obtain⟨sl,hL⟩:=u.any ho I.free (by simp)
 exact I.step (g':=s.gens) (d':=s.drawn) (ch:=[]) (λ_ z=>nomatch z) (λb o _ hb _ e n=>u.keep b o e n hb (by simp)) (λb o _ hb _ e n=>u.slot b o e n hb (by simp)) (λb o _ e n=>u.free b o e n (by simp)) (λb o _ e=>u.there b o e (by simp)) u.tups u.frzs u.tbls (λm' hm=>by
  obtain⟨o',es',ep',ho',r'⟩:=hm;rw[ho]at ho';cases ho';exact⟨_,es',ep',hL,r'⟩) hok I.bare
theorem Inv.call{g':Array GenState}{t':Nat}{d':Drawn}{ch:List Addr}(I:Inv X pins σ H s)(u:Un (frs X.stack) ch H H' s.heap h')(hok:HOk X.prog X.w H' h')(hg:AllBare g')
  (hch:∀b∈ch,(b∈X.ex\/X.s₀.heap.objs.size<=b)/\b≠X.env.locals/\(∀x c,X.env.cells.lookup x=some c->c≠b)/\∀p∈X.pn++pins,p.1≠b) :
  Inv X pins σ H' {s with heap:=h',gens:=g',drawn:=d',toks:=t'}:=by
 obtain⟨m,⟨o,es,ep,ho,r⟩,_⟩:=id I.loc;obtain⟨sl,hL⟩:=u.any ho I.free λz=>(hch _ z).2.1 rfl
 exact I.step (ch:=ch) hch (λb o hL hb hc e n=>u.keep b o e n (λz=>(qAT.mp (I.stkSub b z)).elim hL hb) hc) (λb o _ _ hc e n=>u.any e n hc) (λb o hc e n=>u.free b o e n hc) (λb o hc e=>u.there b o e hc) u.tups u.frzs u.tbls (λm' hm=>by
  obtain⟨o',es',ep',ho',r'⟩:=hm;rw[ho]at ho';cases ho';exact⟨_,es',ep',hL,r'⟩) hok hg
theorem Inv.turned{t':Nat}{it:Addr}(I:Inv X pins σ H s)(k:∀b o,b≠it->s.heap.get? b=some o->h'.get? b=some o)(hn:H it=none)(hL:it≠X.env.locals)
  (h1:it∈X.ex\/X.s₀.heap.objs.size<=it) (h2:∀x c,X.env.cells.lookup x=some c->c≠it) (h3:∀p∈X.pn++pins,p.1≠it):Inv X pins σ H {s with heap:=h',toks:=t'}:=by
 have nit:∀b u,H b=some u->b≠it:=λb u e z=>by rw[z,hn]at e;cases e
 refine I.step (g':=s.gens) (d':=s.drawn) (ch:=[it]) (λb hb=>?_) (λb o _ _ hc e _=>k b o (λz=>hc (by simp[z])) e) (λb o _ _ hc e _=>⟨o.slots,k b o (λz=>hc (by simp[z])) e⟩) (λ_ _ _ _ n=>n)
  (λb o hc e=>⟨o,k b o (λz=>hc (by simp[z])) e⟩) (λ_ _ e=>e) (λ_ _ _ e=>e) (λb ps e=>⟨#[],by rw[e];simp⟩) (λm hm=>?_) (λb u e=>?_) I.bare
 .have e:b=it:=by simpa using hb
  subst e;exact⟨h1,hL,h2,h3⟩
 .obtain ⟨o,es,ep,ho,r⟩:=hm;exact⟨o,es,ep,k _ o (qAh hL) ho,r⟩
 .refine (I.hok b u e).stay (λc v hc q=>k c v ?_ q) (λ_ q=>q) λ_ _ q=>q;rcases hc with z|z
  .rw [z];exact nit b u e
  .exact nit c _ z
theorem Inv.tok(I:Inv X pins σ H s)(t:Nat):Inv X pins σ H {s with toks:=t}:=I.un (h':=s.heap) (t':=t) Un.refl I.hok
theorem Inv.kept{t':Nat}(I:Inv X pins σ H s)(k:∀b u,s.heap.get? b=some u->h'.get? b=some u):Inv X pins σ H {s with heap:=h',toks:=t'}:=I.un (Un.kept k) (I.hok.kept k)
theorem Inv.laid{a:Addr}{o:HO}{t':Nat}(I:Inv X pins σ H s)(k:∀b u,s.heap.get? b=some u->h'.get? b=some u)(hp:s.heap.objs.size<=a)(new:zBq X.prog X.w (upd H a o) h' a o) :
  Inv X pins σ (upd H a o) {s with heap:=h',toks:=t'}:=I.un (Un.laid k hp (I.hok.fresh hp)) (I.hok.laid k hp new)
theorem Inv.write{x e:Addr}{t':Nat}(I:Inv X pins σ H s)(mu:Mut (H x))(he:e=x\/H e=some (.own x))(k:∀b u,b≠e->s.heap.get? b=some u->h'.get? b=some u)(heo:∃u,h'.get? e=some u)
  (new:zBq X.prog X.w (upd H x o) h' x o):Inv X pins σ (upd H x o) {s with heap:=h',toks:=t'}:=I.un (Un.write mu he k heo) (I.hok.write mu he k heo new)
theorem Inv.pins_of{pins':List (Addr×Obj)}(I:Inv X pins σ H s)(h:∀p∈pins',s.heap.get? p.1=some p.2/\H p.1=none/\p.1≠X.env.locals/\p.1∉X.fs/\∀v,p.2.data≠.cell v):Inv X pins' σ H s :=
 ⟨I.ok,I.os,I.bare,I.base,I.loc,I.cell,I.free,I.freeC,λp hp=>(qAR.mp hp).elim (λz=>I.pin p (qAp _ z)) (h p),I.hok,I.len⟩
theorem zJn{N:List Str}(hN:N.Nodup){j:Nat}(a:N[i]?=some x)(b:N[j]?=some x):i=j:=by
 obtain⟨h1,e1⟩:=qAL.mp a;obtain⟨h2,e2⟩:=qAL.mp b;exact(List.getElem_inj hN).mp (e1.trans e2.symm)
theorem dh{M:Model}{E:Value->Shared->Prop}{Q:Unit->Shared->Prop}(I:Inv X pins σ H s)(hN:X.N.Nodup)(hi:X.N[i]?=some x)(hx:Loc X.env.scope x)(r:am v u)
  (h:∀s',Inv X pins (σ.set i (some v)) H s'->(∃a,Heap.SameBut a s.heap s'.heap/\(a=X.env.locals\/X.env.cells.lookup x=some a))->Q () s') (hf:X.fn x=true\/X.env.scope.names.lookup x=some .local:=by first|exact .inl rfl|exact .inr rfl|assumption):wpAny M A (storeName X.env x u) Q E s:=by
 obtain⟨m,hn,hl⟩:=id I.loc;have hcls:(X.env.scope.kind== .class||(X.env.scope.kind== .module&&X.env.locals != X.env.globals))=false:=by rw[I.ok.kind];rfl
 have hiσ:i<σ.length:=by rw[I.len];exact(qAL.mp hi).1
 have cne:=I.cne
 have tracked:∀{a:Addr}{h':Heap},(∃o,s.heap.get? a=some o/\H a=none)->Heap.SameBut a s.heap h'->HOk X.prog X.w H h':=λ{a h'} ha hs b ob e=>by
  obtain⟨_,_,hfree⟩:=ha;refine(I.hok b ob e).stay (λc w' hc q=>(hs.2 c ?_).trans q) (λ_ q=>q) λ_ _ q=>q;rintro rfl;rcases hc with rfl|hc
  .rw [hfree]at e;cases e
  .rw [hfree]at hc;cases hc
 rcases hx with hk|hk
 .refine wpAny_storeName_local hk hn (λh' hn' hs=>?_) hcls;obtain⟨oL,_,_,hoL,_⟩:=id hn;refine h _ ⟨I.ok,I.os,I.bare,⟨λb o e n hb hx=>?_,λb o e n hb hx=>?_,I.base.free,λb o e hx=>?_,I.base.tups,I.base.frzs,I.base.tbls⟩,⟨_,hn',λj y v' e1 e2 e3=>?_⟩,λy c e=>?_,I.free,I.freeC,λp hp=>?_,tracked ⟨oL,hoL,I.free⟩ hs,by simpa using I.len⟩ ⟨_,hs,.inl rfl⟩
  .exact (hs.2 b (qAQ (qAj (qAI e) I.ok.above))).trans (I.base.keep b o e n hb hx)
  .obtain ⟨sl,e1⟩:=I.base.slot b o e n hb hx;exact⟨sl,(hs.2 b (qAQ (qAj (qAI e) I.ok.above))).trans e1⟩
  .obtain ⟨o',e1⟩:=I.base.there b o e hx;exact⟨o',(hs.2 b (qAQ (qAj (qAI e) I.ok.above))).trans e1⟩
  .by_cases hj:j=i
   .subst hj;rw[hi]at e1;cases e1;rw[qCE hiσ]at e2
    cases e2
    exact⟨u,r,.inl ⟨hk,by simp⟩⟩
   .rw [qCl (qAh hj)]at e2;obtain⟨u',r',q⟩:=hl j y v' e1 e2 e3;refine⟨u',r',?_⟩;rcases q with⟨k,e⟩|⟨k,c,e,z⟩
    .refine .inl ⟨k,?_⟩;have:y≠x:=λe=>hj (zJn hN e1 (e▸hi));simp[this,e]
    .exact .inr ⟨k,c,e,z.sameBut hs (cne y c e)⟩
  .obtain ⟨w',z⟩:=I.cell y c e;exact⟨w',z.sameBut hs (cne y c e)⟩
  .obtain ⟨e,n,ne,nf,d⟩:=I.pin p hp;exact⟨(hs.2 p.1 ne).trans e,n,ne,nf,d⟩
 .have hfn:X.fn x=true:=by
   rcases hf with z|z
   .exact z
   .rw [z]at hk;cases hk
  obtain⟨c,hc⟩:=I.ok.has x (.inl hk);obtain⟨w',z⟩:=I.cell x c hc;refine wpAny_storeName_cell I.ok.kind hk hc z (λh' hc' hs=>?_);obtain⟨oc,hoc,hocd⟩:=id z;refine h {s with heap:=h'} ⟨I.ok,I.os,I.bare,⟨λb o e n hb hx=>?_,λb o e n hb hx=>?_,I.base.free,λb o e hx=>?_,I.base.tups,I.base.frzs,I.base.tbls⟩,⟨m,hn.sameBut hs (qAh (cne x c hc)),λj y v' e1 e2 e3=>?_⟩,λy c' e=>?_,I.free,I.freeC,λp hp=>?_,tracked ⟨oc,hoc,I.freeC x c hc⟩ hs,by simpa using I.len⟩ ⟨c,hs,.inr hc⟩
  .exact (hs.2 b (qAQ (qAj (qAI e) (I.ok.cab x c hfn hc)))).trans (I.base.keep b o e n hb hx)
  .obtain ⟨sl,e1⟩:=I.base.slot b o e n hb hx;exact⟨sl,(hs.2 b (qAQ (qAj (qAI e) (I.ok.cab x c hfn hc)))).trans e1⟩
  .obtain ⟨o',e1⟩:=I.base.there b o e hx;exact⟨o',(hs.2 b (qAQ (qAj (qAI e) (I.ok.cab x c hfn hc)))).trans e1⟩
  .by_cases hj:j=i
   .subst hj;rw[hi]at e1;cases e1;rw[qCE hiσ]at e2
    cases e2
    exact⟨u,r,.inr ⟨.inl hk,c,hc,hc'⟩⟩
   .rw [qCl (qAh hj)]at e2;obtain⟨u',r',q⟩:=hl j y v' e1 e2 e3;refine⟨u',r',?_⟩;rcases q with q|⟨k,c',e,z'⟩
    .exact .inl q
    .refine .inr ⟨k,c',e,z'.sameBut hs ?_⟩;rintro rfl;exact hj (zJn hN e1 (I.ok.inj _ _ _ e hc▸hi))
  .by_cases hcc:c'=c
   .subst hcc;exact⟨_,hc'⟩
   .obtain ⟨w2,z2⟩:=I.cell y c' e;exact⟨w2,z2.sameBut hs hcc⟩
  .obtain ⟨e,n,ne,nf,d⟩:=I.pin p hp;refine⟨(hs.2 p.1 ?_).trans e,n,ne,nf,d⟩;intro q;rw[q,hoc]at e;have q':oc=p.2:=qAb e;exact d w' (by rw[<-q'];exact hocd)
theorem zG1{M:Model}{E:Value->Shared->Prop}{v:V}{u:Value}{Q:Unit->Shared->Prop}(I:Inv X pins σ H s)(hN:X.N.Nodup)(hi:X.N[i]?=some x)(hx:Loc X.env.scope x)(r:am v u)
  (h:∀s',Inv X pins (σ.set i (some v)) H s'->Q () s') (hf:X.fn x=true\/X.env.scope.names.lookup x=some .local:=by first|exact .inl rfl|exact .inr rfl|assumption):wpAny M A (storeName X.env x u) Q E s :=
 dh I hN hi hx r (λs' I' _=>h s' I') hf
theorem Inv.call'{s':Shared}{ch:List Addr}(I:Inv X pins σ H s)(ho:s'.os=s.os)(u:Un (frs X.stack) ch H H' s.heap s'.heap)(hok:HOk X.prog X.w H' s'.heap)(hg:AllBare s'.gens)
  (hch:∀b∈ch,(b∈X.ex\/X.s₀.heap.objs.size<=b)/\b≠X.env.locals/\(∀x c,X.env.cells.lookup x=some c->c≠b)/\∀p∈X.pn++pins,p.1≠b):Inv X pins σ H' s':=by
 obtain⟨h',g',d',t',o'⟩:=s';have e:o'=s.os:=ho;subst e;exact I.call (g':=g') (t':=t') (d':=d') u hok hg hch
end
abbrev XK:=Value->Option Addr->Hp->Prop
abbrev St:=List (Option V)
variable{σ:St}
abbrev VK:=V->Hp->Prop
abbrev TE:=St->Hp->VK->Prop
variable{t:TE}
abbrev TT:=St->Hp->(Bool->Hp->Prop)->Prop
abbrev TA:=St->Hp->(List V->Hp->Prop)->Prop
structure a_ where
 nx:St->Hp->Prop
 rt:VK
 bk:St->Hp->Prop:=λ_ _=>False
 ct:St->Hp->Prop:=λ_ _=>False
variable{D:a_}
abbrev TS:=a_->St->Hp->Prop
def EP(X:Cx)(pins:List (Addr×Obj))(σ:St)(Q:VK)(u:Value)(s':Shared):Prop:=∃v H',Inv X pins σ H' s'/\am v u/\Q v H'
def TP(X:Cx)(pins:List (Addr×Obj))(σ:St)(Q:Bool->Hp->Prop)(b:Bool)(s':Shared):Prop:=∃H',Inv X pins σ H' s'/\Q b H'
def AP(X:Cx)(pins:List (Addr×Obj))(σ:St)(Q:List V->Hp->Prop)(us:List Value)(s':Shared):Prop:=∃vs H',Inv X pins σ H' s'/\aj vs us/\Q vs H'
def SP(X:Cx)(pins:List (Addr×Obj))(D:a_)(f:Flow)(s':Shared):Prop :=
 match f with
 | .next=>∃σ' H',Inv X pins σ' H' s'/\D.nx σ' H'
 | .brk=>∃σ' H',Inv X pins σ' H' s'/\D.bk σ' H'
 | .cont=>∃σ' H',Inv X pins σ' H' s'/\D.ct σ' H'
 | .ret u=>∃v σ' H',Inv X pins σ' H' s'/\am v u/\D.rt v H'
def PE(X:Cx)(e:Expr)(t:TE):Prop :=
 ∀(pins:List (Addr×Obj)) (s:Shared) (σ:St) (H:Hp) (Q:VK),Inv X pins σ H s->t σ H Q->wpAny (model X.prog X.w) X.A (eval e X.env) (EP X pins σ Q) X.xe s
def PT(X:Cx)(e:Expr)(t:TT):Prop :=
 ∀(pins:List (Addr×Obj)) (s:Shared) (σ:St) (H:Hp) (Q:Bool->Hp->Prop),Inv X pins σ H s->t σ H Q->wpAny (model X.prog X.w) X.A (isTrue e X.env (eval e X.env)) (TP X pins σ Q) X.xe s
def PW(X:Cx)(e:Expr)(t:TT):Prop :=
 ∀(whole:Sem Value) (pins:List (Addr×Obj)) (s:Shared) (σ:St) (H:Hp) (Q:Bool->Hp->Prop),Inv X pins σ H s->t σ H Q->wpAny (model X.prog X.w) X.A (isTrue e X.env whole) (TP X pins σ Q) X.xe s
theorem PW.pt{t:TT}(h:PW X e t):PT X e t:=h _
def PA(X:Cx)(es:List Expr)(t:TA):Prop :=
 ∀(pos:Pos) (pins:List (Addr×Obj)) (s:Shared) (σ:St) (H:Hp) (Q:List V->Hp->Prop),Inv X pins σ H s->t σ H Q->wpAny (model X.prog X.w) X.A (spliced (backTo pos (starEach es X.env))) (AP X pins σ Q) X.xe s
def PS(X:Cx)(st:Stmt)(t:TS):Prop :=
 ∀(pins:List (Addr×Obj)) (s:Shared) (σ:St) (H:Hp) (D:a_),Inv X pins σ H s->t D σ H->wpAny (model X.prog X.w) X.A (exec st X.env) (SP X pins D) X.xe s
def PSs(X:Cx)(st:List Stmt)(t:TS):Prop :=
 ∀(pins:List (Addr×Obj)) (s:Shared) (σ:St) (H:Hp) (D:a_),Inv X pins σ H s->t D σ H->wpAny (model X.prog X.w) X.A (execs st X.env) (SP X pins D) X.xe s
theorem thn{α:Type}{t:Sem α}{Q Q':α->Shared->Prop}{M:Model}{E:Value->Shared->Prop}(h:wpAny M A t Q E s)(hQ:∀a s,Q a s->Q' a s):wpAny M A t Q' E s:=qAv h hQ λ_ _ x=>x
section
variable{X:Cx}
inductive bu(i:Nat)(σ:St)(H:Hp)(Q:VK):Prop
 |mk:∀v,σ[i]?=some (some v)->Q v H->bu i σ H Q
def tC(v:V):TE:=λ_ H Q=>Q v H
theorem sw(hN:X.N[i]?=some x)(hv:Vis X.env.scope x)(hd:(x==("__debug__": Str))=false:=by decide)(hcd:(x==("__classdict__": Str))=false:=by decide):PE X (.Name x pos) (bu i):=by
 intro pins s σ H Q I h;obtain⟨v,e,h⟩:=h;obtain⟨m,hn,hl⟩:=I.loc;obtain⟨u,r,l⟩:=hl i x v hN e hv;have fin:EP X pins σ Q u s:=⟨v,H,I,r,h⟩;rcases l with⟨hk,hm⟩|⟨hk,c,hc,hcell⟩
 .exact wpAny_Name (wpAny_loadName_local I.ok.kind hk hn hm fin) hd
 .rcases hk with hk|hk
  .exact wpAny_Name (wpAny_loadName_cell I.ok.kind hk hc hcell fin) hd
  .exact wpAny_Name (wpAny_loadName_free I.ok.kind hk hc hcell fin hcd) hd
theorem zAd{i j pos}:PE X (.Constant (.int i) j pos) (tC (.int i)):=λ_ _ _ H _ I h=>wpAny_Constant_int ⟨.int i,H,I.tok _,⟨_,rfl⟩,h⟩
theorem zEs{b j pos}:PE X (.Constant (.bool b) j pos) (tC (.bl b)):=λ_ _ _ H _ I h=>Constant_bool ⟨.bl b,H,I,rfl,h⟩
theorem zHn{j pos}:PE X (.Constant .none j pos) (tC .non):=λ_ _ _ H _ I h=>Constant_none ⟨.non,H,I,rfl,h⟩
theorem zAu{x j pos}:PE X (.Constant (.str x) j pos) (tC (.str x)):=λ_ _ _ H _ I h=>Calls.Constant_str ⟨.str x,H,I.tok _,⟨_,rfl⟩,h⟩
def Gl(X:Cx)(x:Str):Prop:=X.env.kindOf x=some .globalImplicit
theorem zFj{E:Value->Shared->Prop}{Q:Value->Shared->Prop}(I:Inv X pins σ H s)(hg:Gl X x)(hm:X.mg x=some u)(h:Q u s)
  (hd:(x==("__debug__": Str))=false:=by decide):wpAny (model X.prog X.w) X.A (eval (.Name x pos) X.env) Q E s :=
 Calls.Name_function_global I.ok.kind hg (Calls.loadGlobal_global (by rw[I.ok.glob];exact I.mod.glob.keeps I.bk) hm h) hd
theorem zHz{E:Value->Shared->Prop}{Q:Value->Shared->Prop}(I:Inv X pins σ H s)(hg:Gl X x)(hm:X.mg x=none)(hv:bootBuiltins x=some u)(h:Q u s)
  (hn:x≠ "__name__":= by decide) (hd:(x==("__debug__": Str))=false:=by decide):wpAny (model X.prog X.w) X.A (eval (.Name x pos) X.env) Q E s:=by
 obtain⟨mb,h1,h2⟩:=I.mod.blt;exact Calls.Name_function_global I.ok.kind hg (Calls.loadGlobal_builtin (by rw[I.ok.glob];exact I.mod.glob.keeps I.bk) hm (by rw[I.ok.blt];exact h1.keeps I.bk) ((h2 x hn).trans hv) h) hd
theorem zBs{v:V}(hg:Gl X x)(hm:X.mg x=some u)(r:am v u)(hd:(x==("__debug__": Str))=false:=by decide):PE X (.Name x pos) (tC v) :=
 λ_ _ _ H _ I h=>zFj I hg hm ⟨v,H,I,r,h⟩ hd
theorem zBw(hg:Gl X x)(hm:X.mg x=none)(hv:bootBuiltins x=some u)(r:am v u)(hn:x≠ "__name__":= by decide)(hd:(x==("__debug__": Str))=false:=by decide):PE X (.Name x pos) (tC v) :=
 λ_ _ _ H _ I h=>zHz I hg hm hv ⟨v,H,I,r,h⟩ hn hd
variable{a b:Expr}{ta tb:TE}{pos:Pos}
def PC(X:Cx)(op:CmpOp)(a b:Expr)(t:TE):Prop :=
 ∀(pins:List (Addr×Obj)) (s:Shared) (σ:St) (H:Hp) (Q:VK),Inv X pins σ H s->t σ H Q ->
  wpAny (model X.prog X.w) X.A (eval a X.env) (λv s₁=>wpAny (model X.prog X.w) X.A (eval b X.env) (λu s₂=>wpAny (model X.prog X.w) X.A (compareOp op v u) (EP X pins σ Q) X.xe s₂) X.xe s₁) X.xe s
inductive tBI(Q:Bool->Hp->Prop)(x:V)(H1:Hp):Prop
 |mk:∀c,x= .bl c->Q c H1->tBI Q x H1
def tB(t:TE):TT:=λσ H Q=>t σ H λx H1=>tBI Q x H1
theorem me(h:PC X op a b t)(h1:behindInMarks op b=false:=by first|exact nobehind _ (by decide) (by decide)|rfl):PE X (.Compare a [op] [b] pos) t:=λpins s σ H Q I hw=>wpAny_Compare1 (h pins s σ H Q I hw) h1
theorem zEg(h:PC X op a b t)(h1:behindInMarks op b=false:=by first|exact nobehind _ (by decide) (by decide)|rfl):PT X (.Compare a [op] [b] pos) (tB t):=by
 intro pins s σ H Q I hw;refine wpAny_isTrue_Compare1 (thn (h pins s σ H _ I hw) λv s1 h1=>thn h1 λu s2 h2=>thn h2 λc s3 ⟨x,H1,I1,r1,q1⟩=>?_) h1;obtain⟨d,rfl,q⟩:=q1
 cases r1
 exact qBP ⟨H1,I1,q⟩
theorem zBi(h:PE X e t)(he:∀whole,isTrue e X.env whole=(do let v<-whole;standAt e.pos;holding [v] (truthy v)):=by intro _;rfl):PT X e (tB t):=by
 intro pins s σ H Q I hw;refine isTrue_plain (thn (h pins s σ H _ I hw) λv s1 ⟨x,H1,I1,r1,q1⟩=>?_) (he _);obtain⟨d,rfl,q⟩:=q1
 cases r1
 exact qBP ⟨H1,I1,q⟩
variable{tA tB':TT}{rest:List Expr}
def vy(t u:TT):TT:=λσ H Q=>t σ H λc H1=>if c=true then u σ H1 Q else Q false H1
def tOr(t u:TT):TT:=λσ H Q=>t σ H λc H1=>if c=true then Q true H1 else u σ H1 Q
def vc(t:TT):TT:=λσ H Q=>t σ H λc H1=>Q (!c) H1
theorem zGg(ha:PT X a tA):PW X (.BoolOp .And [a] pos) tA:=by
 intro wh pins s σ H Q I h;refine isTrue_and (thn (ha pins s σ H Q I h) λc s1 e=>?_)
 cases c with
 |true=>exact isTrue_and_nil e
 |false=>exact e
theorem zDv(ha:PT X a tA):PW X (.BoolOp .Or [a] pos) tA:=by
 intro wh pins s σ H Q I h;refine isTrue_or (thn (ha pins s σ H Q I h) λc s1 e=>?_)
 cases c with
 |false=>exact isTrue_or_nil e
 |true=>exact e
theorem zHl(ha:PT X a tA)(hb:PW X (.BoolOp .And (b::rest) pos) tB'):PW X (.BoolOp .And (a::b::rest) pos) (vy tA tB'):=by
 intro wh pins s σ H Q I h;refine isTrue_and (thn (ha pins s σ H _ I h) λc s1 ⟨H1,I1,q1⟩=>?_)
 cases c with
 |true=>exact hb wh pins s1 σ H1 Q I1 q1
 |false=>exact⟨H1,I1,q1⟩
theorem zEk(ha:PT X a tA)(hb:PW X (.BoolOp .Or (b::rest) pos) tB'):PW X (.BoolOp .Or (a::b::rest) pos) (tOr tA tB'):=by
 intro wh pins s σ H Q I h;refine isTrue_or (thn (ha pins s σ H _ I h) λc s1 ⟨H1,I1,q1⟩=>?_)
 cases c with
 |true=>exact⟨H1,I1,q1⟩
 |false=>exact hb wh pins s1 σ H1 Q I1 q1
theorem zBm(ha:PT X a tA):PT X (.UnaryOp .Not a pos) (vc tA):=by
 intro pins s σ H Q I h;exact isTrue_not (ha pins s σ H (λc H1=>Q (!c) H1) I h)
inductive lI(tb:TE)(σ:St)(Q:VK)(x:V)(H1:Hp):Prop
 |mk:∀c,x= .bl c->(if c=true then tb σ H1 Q else Q (.bl false) H1)->lI tb σ Q x H1
def um(ta tb:TE):TE:=λσ H Q=>ta σ H λx H1=>lI tb σ Q x H1
inductive q_(tb:TE)(σ:St)(Q:VK)(x:V)(H1:Hp):Prop
 |mk:∀c,x= .bl c->(if c=true then Q (.bl true) H1 else tb σ H1 Q)->q_ tb σ Q x H1
def vn(ta tb:TE):TE:=λσ H Q=>ta σ H λx H1=>q_ tb σ Q x H1
inductive lZ(Q:VK)(x:V)(H1:Hp):Prop
 |mk:∀c,x= .bl c->Q (.bl (!c)) H1->lZ Q x H1
def uh(ta:TE):TE:=λσ H Q=>ta σ H λx H1=>lZ Q x H1
theorem cu{op}(h:PE X a t):PE X (.BoolOp op [a] pos) t:=λpins s σ H Q I hw=>BoolOp_one (h pins s σ H Q I hw)
theorem dL(ha:PE X a ta)(hb:PE X (.BoolOp .And (b::rest) pos) tb):PE X (.BoolOp .And (a::b::rest) pos) (um ta tb):=by
 intro pins s σ H Q I h;refine BoolOp_and (thn (ha pins s σ H _ I h) λv s1 ⟨x,H1,I1,r1,q1⟩=>?_);obtain⟨c,rfl,q1⟩:=q1
 cases r1
 refine qBP ?_
 cases c with
 |true=>exact hb pins s1 σ H1 Q I1 q1
 |false=>exact⟨.bl false,H1,I1,rfl,q1⟩
theorem t_(ha:PE X a ta)(hb:PE X (.BoolOp .Or (b::rest) pos) tb):PE X (.BoolOp .Or (a::b::rest) pos) (vn ta tb):=by
 intro pins s σ H Q I h;refine BoolOp_or (thn (ha pins s σ H _ I h) λv s1 ⟨x,H1,I1,r1,q1⟩=>?_);obtain⟨c,rfl,q1⟩:=q1
 cases r1
 refine qBP ?_
 cases c with
 |false=>exact hb pins s1 σ H1 Q I1 q1
 |true=>exact⟨.bl true,H1,I1,rfl,q1⟩
theorem oH(ha:PE X a ta):PE X (.UnaryOp .Not a pos) (uh ta):=by
 intro pins s σ H Q I h;refine UnaryOp_ (thn (ha pins s σ H _ I h) λv s1 ⟨x,H1,I1,r1,q1⟩=>?_);obtain⟨c,rfl,q1⟩:=q1
 cases r1
 exact not_of (qBP ⟨.bl (!c),H1,I1,rfl,q1⟩)
def tIf(t:TT)(ta tb:TE):TE:=λσ H Q=>t σ H λc H1=>if c=true then ta σ H1 Q else tb σ H1 Q
theorem oP{c:Expr}(hc:PT X c tA)(ha:PE X a ta)(hb:PE X b tb):PE X (.IfExp c a b pos) (tIf tA ta tb):=by
 intro pins s σ H Q I h;refine wpAny_IfExp (thn (hc pins s σ H _ I h) λd s1 ⟨H1,I1,q1⟩=>?_)
 cases d with
 |true=>exact ha pins s1 σ H1 Q I1 q1
 |false=>exact hb pins s1 σ H1 Q I1 q1
end
def SqL(K:PySem.W.Frag)(H:Hp)(a:Addr)(xs:List V):Prop :=
 Rd H a (.lst xs) \/
  ∃(o:Obj)(its:Array Value)(n:Nat),K.lookup a=some o/\o.cls= .type "list"/\o.dict=none/\o.data= .seq its n/\its.size<=sizeLine/\aj xs its.toList
def SqT(K:PySem.W.Frag)(H:Hp)(a:Addr)(xs:List V):Prop :=
 Rd H a (.tup xs) \/
  ∃(o:Obj)(its:Array Value)(n:Nat),K.lookup a=some o/\o.cls= .type "tuple"/\o.data= .seq its n/\its.size<=sizeLine/\aj xs its.toList
def ve:Value->Option V
 | .none=>some .non
 | .bool b=>some (.bl b)
 | .int i _=>some (.int i)
 | .str x _=>some (.str x)
 | .bytes b _=>some (.byt b)
 | .float b _=>some (.flt b)
 | .ref a=>some (.ref a)
 | .type n=>some (.ty n)
 |_=>none
theorem am.abs{x:V}(r:am x u):ve u=some x:=by
 cases x with
 |non=>cases r;rfl
 |bl _=>cases r;rfl
 |int _=>obtain⟨t,rfl⟩:=r;rfl
 |str _=>obtain⟨t,rfl⟩:=r;rfl
 |byt _=>obtain⟨t,rfl⟩:=r;rfl
 |flt _=>obtain⟨t,rfl⟩:=r;rfl
 |ref _=>cases r;rfl
 |ty _=>cases r;rfl
theorem am.inj{x:V}(r:am x u)(q:am y u):x=y:=qAb (r.abs.symm.trans q.abs)
theorem aj.inj:∀{xs ys:List V}{us:List Value},aj xs us->aj ys us->xs=ys
 |_,_,_,.nil,.nil=>rfl
 |_,_,_,.cons r t,.cons r' t'=>by rw[r.inj r',aj.inj t t']
section
variable{X:Cx}{pins:List (Addr×Obj)}{σ:St}{H:Hp}{s:Shared}{a:Addr}{xs ys:List V}
theorem SqL.of(h:H a=some (.lst xs)):SqL K H a xs:=.inl (.inl h)
theorem SqT.of(h:H a=some (.tup xs)):SqT K H a xs:=.inl (.inl h)
theorem Inv.list(I:Inv X pins σ H s)(h:SqL X.K H a xs):∃its:List Value,aj xs its/\PlainL s.heap a its.toArray/\xs.length<=sizeLine:=by
 rcases h with h|⟨o,its,n,hk,hc,hd,hs,hz,r⟩
 .obtain ⟨z,its,n,r,e⟩:=h.ok I.hok;exact⟨its,r,⟨_,n,e,rfl,rfl,rfl⟩,z⟩
 .refine ⟨its.toList,r,⟨o,n,I.kIn a o hk,hc,hd,by simpa using hs⟩,?_⟩;have e:=r.length;simp only[qB2]at e;lia
theorem Inv.tuple(I:Inv X pins σ H s)(h:SqT X.K H a xs):∃its:List Value,aj xs its/\IsTup s.heap a its.toArray/\xs.length<=sizeLine:=by
 rcases h with h|⟨o,its,n,hk,hc,hs,hz,r⟩
 .obtain ⟨z,its,r,p⟩:=h.ok I.hok;exact⟨its,r,p,z⟩
 .refine ⟨its.toList,r,⟨o,I.kIn a o hk,hc,n,by simpa using hs⟩,?_⟩;have e:=r.length;simp only[qB2]at e;lia
theorem Inv.list_inj(I:Inv X pins σ H s)(h:SqL X.K H a xs)(h':SqL X.K H a ys):xs=ys:=by
 obtain⟨its,r,⟨o,n,e,_,_,d⟩,_⟩:=I.list h;obtain⟨its',r',⟨o',n',e',_,_,d'⟩,_⟩:=I.list h';rw[e]at e';cases e';rw[d]at d';injection d' with d1 _;have:its=its':=by simpa using qAl Array.toList d1
 subst this;exact r.inj r'
theorem Inv.tuple_inj(I:Inv X pins σ H s)(h:SqT X.K H a xs)(h':SqT X.K H a ys):xs=ys:=by
 obtain⟨its,r,⟨o,e,_,n,d⟩,_⟩:=I.tuple h;obtain⟨its',r',⟨o',e',_,n',d'⟩,_⟩:=I.tuple h';rw[e]at e';cases e';rw[d]at d';injection d' with d1 _;have:its=its':=by simpa using qAl Array.toList d1
 subst this;exact r.inj r'
end
abbrev Cx.wish(X:Cx)(E:Value->Shared->Prop):Cx:={X with xe:=E}
abbrev Cx.nox(X:Cx):Cx:=X.wish λ_ _=>False
theorem Cx.Ok.wish(ok:X.Ok)(E:Value->Shared->Prop):(X.wish E).Ok :=
 ⟨ok.mod,ok.kind,ok.glob,ok.blt,ok.above,ok.inj,ok.has,ok.cab,ok.hd,ok.frames,ok.stk,ok.exf,ok.bs,ok.bsz,ok.noex,ok.exfs,ok.funs,ok.frf⟩
theorem Cx.Ok.unwish{E:Value->Shared->Prop}(ok:(X.wish E).Ok):X.Ok :=
 ⟨ok.mod,ok.kind,ok.glob,ok.blt,ok.above,ok.inj,ok.has,ok.cab,ok.hd,ok.frames,ok.stk,ok.exf,ok.bs,ok.bsz,ok.noex,ok.exfs,ok.funs,ok.frf⟩
section
variable{X:Cx}{pins:List (Addr×Obj)}{σ:St}{H:Hp}{s:Shared}{E:Value->Shared->Prop}
theorem Inv.wish(I:Inv X pins σ H s)(E:Value->Shared->Prop):Inv (X.wish E) pins σ H s:=⟨I.ok.wish E,I.os,I.bare,I.base,I.loc,I.cell,I.free,I.freeC,I.pin,I.hok,I.len⟩
theorem Inv.unwish(I:Inv (X.wish E) pins σ H s):Inv X pins σ H s:=⟨I.ok.unwish,I.os,I.bare,I.base,I.loc,I.cell,I.free,I.freeC,I.pin,I.hok,I.len⟩
theorem SP.unwish{f:Flow}{s':Shared}(h:SP (X.wish E) pins D f s'):SP X pins D f s':=by
 cases f with
 |next=>obtain⟨σ',H',I,q⟩:=h;exact⟨σ',H',I.unwish,q⟩
 |brk=>obtain⟨σ',H',I,q⟩:=h;exact⟨σ',H',I.unwish,q⟩
 |cont=>obtain⟨σ',H',I,q⟩:=h;exact⟨σ',H',I.unwish,q⟩
 |ret u=>obtain⟨v,σ',H',I,r,q⟩:=h;exact⟨v,σ',H',I.unwish,r,q⟩
theorem PSs.nox{st:List Stmt}{t:TS}(h:PSs X.nox st t):PSs X st t:=λpins s σ H D I hw=>
 qAv (h pins s σ H D (I.wish _) hw) (λ_ _ q=>q.unwish) λ_ _ z=>False.elim z
end
section
variable{X:Cx}{st:Stmt}{rest:List Stmt}{t u:TS}{e:Expr}{te:TE}{pos:Pos}
def i7:TS:=λD σ H=>D.nx σ H
def aq(t u:TS):TS:=λD σ H=>t {D with nx:=u D} σ H
theorem zAs:PSs X [] i7:=λ_ _ σ H _ I h=>qCS ⟨σ,H,I,h⟩
theorem zAc(h1:PS X st t)(h2:PSs X rest u):PSs X (st::rest) (aq t u):=by
 intro pins s σ H D I h;refine wpAny_execs_cons (thn (h1 pins s σ H {D with nx:=u D} I h) λf s1 q=>?_)
 cases f with
 |next=>
  obtain⟨σ',H',I',q⟩:=q;exact h2 pins s1 σ' H' D I' q
 |ret v=>exact q
 |brk=>exact q
 |cont=>exact q
theorem zAe(h1:PS X st t):PSs X [st] t:=by
 intro pins s σ H D I h;refine wpAny_execs_cons (thn (h1 pins s σ H D I h) λf s1 q=>?_)
 cases f with
 |next=>exact qCS q
 |ret v=>exact q
 |brk=>exact q
 |cont=>exact q
theorem Inv.quiet(I:Inv X pins σ H s):interactive X.env=false:=by simp[interactive,I.ok.kind]
def uX(te:TE):TS:=λD σ H=>te σ H λ_ H1=>D.nx σ H1
theorem zA2(he:PE X e te)(hs:swapsWith e none pos.line X.env=pure false:=by rfl):PS X (.Expr e pos) (uX te):=by
 intro pins s σ H D I h;exact wpAny_Expr_any (thn (he pins s σ H _ I h) λv s1 ⟨x,H1,I1,r1,q1⟩=>⟨σ,H1,I1,q1⟩) I.quiet hs
def rK(te:TE):TS:=λD σ H=>te σ H D.rt
theorem zAw(he:PE X e te):PS X (.Return (some e) pos) (rK te):=by
 intro pins s σ H D I h;exact wpAny_Return_some (thn (he pins s σ H _ I h) λv s1 ⟨x,H1,I1,r1,q1⟩=>⟨x,σ,H1,I1,r1,q1⟩)
def uE(c:TT)(t u:TS):TS:=λD σ H=>c σ H λb H1=>if b=true then t D σ H1 else u D σ H1
theorem zBk{c:Expr}{a b:List Stmt}{tc:TT}(hc:PT X c tc)(ha:PSs X a t)(hb:PSs X b u):PS X (.If c a b pos) (uE tc t u):=by
 intro pins s σ H D I h;refine wpAny_If (thn (hc pins s σ H _ I h) λd s1 ⟨H1,I1,q1⟩=>?_)
 cases d with
 |true=>exact ha pins s1 σ H1 D I1 q1
 |false=>exact hb pins s1 σ H1 D I1 q1
def tz:TS:=λ_ _ _=>False
theorem zAz:PS X st tz:=λ_ _ _ _ _ _ h=>h.elim
end
abbrev TG:=V->St->Hp->(St->Hp->Prop)->Prop
variable{g:TG}
abbrev TGs:=List V->St->Hp->(St->Hp->Prop)->Prop
def PG(X:Cx)(target:Expr)(t:TG):Prop :=
 ∀(pins:List (Addr×Obj)) (s:Shared) (σ:St) (H:Hp) (v:V) (u:Value) (Q:St->Hp->Prop),Inv X pins σ H s->am v u->t v σ H Q ->
  wpAny (model X.prog X.w) X.A (assign target X.env u) (λ_ s'=>∃σ' H',Inv X pins σ' H' s'/\Q σ' H') X.xe s
def PGs(X:Cx)(ts:List Expr)(t:TGs):Prop :=
 ∀(pins:List (Addr×Obj)) (s:Shared) (σ:St) (H:Hp) (vs:List V) (us:List Value) (Q:St->Hp->Prop),Inv X pins σ H s->aj vs us->t vs σ H Q ->
  wpAny (model X.prog X.w) X.A (assignInOrder ((assignEach ts X.env).map (·.2)) us) (λ_ s'=>∃σ' H',Inv X pins σ' H' s'/\Q σ' H') X.xe s
abbrev rC:=V->V->V->Hp->(Hp->Prop)->Prop
def uC(X:Cx)(t:rC):Prop :=
 ∀(pins:List (Addr×Obj)) (s:Shared) (σ:St) (H:Hp) (o i v:V) (ov iv u:Value) (Q:Hp->Prop),Inv X pins σ H s->am o ov->am i iv->am v u->t o i v H Q ->
  wpAny (model X.prog X.w) X.A (setItem ov iv u) (λ_ s'=>∃H',Inv X pins σ H' s'/\Q H') X.xe s
section
variable{X:Cx}{pos:Pos}
def zJy(i:Nat):TG:=λv σ H Q=>Q (σ.set i (some v)) H
theorem jn(hN:X.N.Nodup)(hi:X.N[i]?=some x)(hx:Loc X.env.scope x)(hf:X.fn x=true\/X.env.scope.names.lookup x=some .local:=by first|exact .inl rfl|exact .inr rfl|assumption):PG X (.Name x pos) (zJy i):=by
 intro pins s σ H v u Q I r h;exact wpAny_assign_Name (zG1 I hN hi hx r (λs' I'=>⟨_,H,I',h⟩) hf)
def vq:TGs:=λvs σ H Q=>vs=[]/\Q σ H
inductive re(t:TG)(u:TGs)(vs:List V)(σ:St)(H:Hp)(Q:St->Hp->Prop):Prop
 |mk:∀v r,vs=v::r->(t v σ H λσ' H'=>u r σ' H' Q)->re t u vs σ H Q
theorem zD5:PGs X [] vq:=by
 intro pins s σ H vs us Q I r h;obtain⟨e,h⟩:=h;subst e
 cases r
 exact assignInOrder_nil ⟨σ,H,I,h⟩
theorem zBf{es:List Expr}{t:TG}{u:TGs}(h1:PG X e t)(h2:PGs X es u)
  (hs:(assignEach (e::es) X.env).map (·.2)=assign e X.env::(assignEach es X.env).map (·.2):=by rfl):PGs X (e::es) (re t u):=by
 intro pins s σ H vs us Q I r h;obtain⟨v,vr,e1,h⟩:=h;subst e1
 cases r with
 |cons r rr=>
  rw[hs];refine assignInOrder_cons (thn (h1 pins s σ H _ _ _ I r h) λ_ s1 ⟨σ1,H1,I1,q1⟩=>?_);exact h2 pins s1 σ1 H1 _ _ Q I1 rr q1
inductive s0(K:PySem.W.Frag)(n:Nat)(t:TGs)(v:V)(σ:St)(H:Hp)(Q:St->Hp->Prop):Prop
 |mk:∀a xs,v= .ref a->SqT K H a xs->xs.length=n->t xs σ H Q->s0 K n t v σ H Q
theorem zIv{es:List Expr}{k:Nat}{t:TGs}{n:Nat}(hc:X.calm=true)(h:PGs X es t)
  (hn:(assignEach es X.env).length=n:=by rfl) (hst:(assignEach es X.env).findIdx? (·.1)=none:=by rfl):PG X (.Tuple es k pos) (s0 X.K n t):=by
 intro pins s σ H v u Q I r hw;obtain⟨a,xs,e1,hq,hl,hw⟩:=hw;subst e1
 cases r
 obtain⟨its,rv,ht,hz⟩:=I.tuple hq;refine assign_Tuple_tuple (I.ok.hd hc) ht (by simp[hn,<-hl,rv.length]) hst λh' hx=>?_;have I1:Inv X pins σ H {s with heap:=h'}:=I.kept (t':=s.toks) λb o e=>hx b o (qAQ (qAI e)) e;exact h pins _ σ H xs _ Q I1 (by simpa using rv) hw
def vh(to ti:TE)(t:rC):TG:=λv σ H Q=>to σ H λo H1=>ti σ H1 λi H2=>t o i v H2 λH3=>Q σ H3
theorem iB{o i:Expr}{to ti:TE}{t:rC}(ho:PE X o to)(hi:PE X i ti)(hs:uC X t)
  (ha:∀v,assign (.Subscript o i pos) X.env v=(do
   let ov<-holding [v] (eval o X.env)
   let iv<-holding [v,ov] (eval i X.env)
   standAt pos
   holding [v,ov,iv] (setItem ov iv v)
   release [v,ov,iv] []):=by intro _;rfl):PG X (.Subscript o i pos) (vh to ti t):=by
 intro pins s σ H v u Q I r h;rw[ha];refine qAA (qAy (thn (ho pins s σ H _ I h) λov s1 ⟨x,H1,I1,r1,q1⟩=>?_));refine qAA (qAy (thn (hi pins s1 σ H1 _ I1 q1) λiv s2 ⟨y,H2,I2,r2,q2⟩=>?_));refine qAA (qCm (qAA (qAy (thn (hs pins s2 σ H2 x y v ov iv u _ I2 r1 r2 r q2) λ_ s3 ⟨H3,I3,q3⟩=>?_))));exact wpAny_release ⟨σ,H3,I3,q3⟩
def ki(te:TE)(g:TG):TS:=λD σ H=>te σ H λx H1=>g x σ H1 D.nx
theorem eC{te:TE}(he:PE X e te)(hg:PG X tg g)(hs:swapsWithSole [tg] e pos.line X.env=pure false:=by rfl)(hw:swappedStores [tg] e X.env=pure none:=by rfl)
  (h1:(assignEach [tg] X.env).map (·.2)=[assign tg X.env]:=by rfl):PS X (.Assign [tg] e pos) (ki te g):=by
 intro pins s σ H D I h;refine wpAny_Assign_stores (thn (he pins s σ H _ I h) λv s1 ⟨x,H1,I1,r1,q1⟩=>?_) hs hw;rw[h1];exact thn (hg pins s1 σ H1 x v _ I1 r1 q1) λ_ s2 q=>q
theorem zIt{i:Nat}{x:Str}{e:Expr}{te:TE}{pos':Pos}(hN:X.N.Nodup)(hi:X.N[i]?=some x)(hx:Loc X.env.scope x)(he:PE X e te)(hs:swapsWith e (some (.Name x pos')) pos.line X.env=pure false:=by rfl)(hf:X.fn x=true\/X.env.scope.names.lookup x=some .local:=by first|exact .inl rfl|exact .inr rfl|assumption) :
  PS X (.Assign [.Name x pos'] e pos) (ki te (zJy i)):=by
 intro pins s σ H D I h;refine wpAny_Assign_Name (thn (he pins s σ H _ I h) λv s1 ⟨y,H1,I1,r1,q1⟩=>?_) hs;exact zG1 I1 hN hi hx r1 (λs2 I2=>⟨_,H1,I2,q1⟩) hf
end
section
variable{X:Cx}{pos:Pos}
def dF(c:TT)(tb:TS):TS:=λD σ H=>∃W:Nat->St->Hp->Prop,(∃m,W m σ H)/\∀m σ H,W m σ H ->
 c σ H λb H1=>if b=true then∃N:St->Hp->Prop,(∀σ' H',N σ' H'->∃m',m'<m/\W m' σ' H')/\tb {D with nx:=N,ct:=N,bk:=D.nx} σ H1 else D.nx σ H1
theorem zJf{c:Expr}{body:List Stmt}{tc:TT}{tb:TS}(hp:PassesOwn (model X.prog X.w) X.A X.env X.xe)(hc:PT X c tc)(hb:PSs X body tb):PS X (.While c body [] pos) (dF tc tb):=by
 intro pins s σ H D I h;obtain⟨W,⟨m0,w0⟩,turn⟩:=h;refine wpAny_While (codeAny_whileLoop (λn s'=>∃σ' H',Inv X pins σ' H' s'/\W n σ' H') ?_ m0 ⟨σ,H,I,w0⟩);rintro n s1 ⟨σ1,H1,I1,w1⟩;refine qB3 hp (thn (hc pins s1 σ1 H1 _ I1 (turn n σ1 H1 w1)) λb s2 ⟨H2,I2,q2⟩=>?_)
 cases b with
 |true=>
  obtain⟨N,hN,q2⟩:=q2;rw[qAC rfl];refine qB3 hp (thn (hb pins s2 σ1 H2 _ I2 q2) λf s3 q3=>?_)
  cases f with
  |next=>
   obtain⟨σ3,H3,I3,n3⟩:=q3;obtain⟨m',hm,w3⟩:=hN σ3 H3 n3;exact⟨m',hm,σ3,H3,I3,w3⟩
  |cont=>
   obtain⟨σ3,H3,I3,n3⟩:=q3;obtain⟨m',hm,w3⟩:=hN σ3 H3 n3;exact⟨m',hm,σ3,H3,I3,w3⟩
  |brk=>exact q3
  |ret v=>exact q3
 |false=>
  rw[qAB qAd];exact qCS ⟨σ1,H2,I2,q2⟩
end
structure It where
 go:Nat->Hp->Prop
 yld:Nat->Hp->V->Hp->Prop
 stop:Nat->Hp->Prop
def bh(X:Cx)(pins:List (Addr×Obj))(H:Hp)(b:Addr):Prop :=
 H b=none/\b≠X.env.locals/\b∉X.fs/\(b∈X.ex\/X.s₀.heap.objs.size<=b)/\(∀x c,X.env.cells.lookup x=some c->c≠b)/\∀p∈X.pn++pins,p.1≠b
theorem Inv.fpOk{H':Hp}{b:Addr}(I:Inv X pins σ H s)(hb:s.heap.objs.size<=b)(hn:H' b=none):bh X pins H' b:=by
 refine⟨hn,qA4 (qAj I.lt hb),I.nofs hb,.inr (qAW I.sz hb),λx c e z=>?_,λp hp z=>?_⟩
 .obtain ⟨v,q⟩:=I.cell x c e;exact absurd (qAj q.lt (by rw[z];exact hb)) (qA2 _)
 .exact absurd (qAj (qAI (I.pin p hp).1) (by rw[z];exact hb)) (qA2 _)
structure fE(P:Program)(w:World)(K:PySem.W.Frag)(tg:Expr)(J:It)(fp:List Addr)(it:Addr)(tn:Nat->Heap->Prop):Prop where
 mem:it∈fp
 obj:∀i h,tn i h->∀b∈fp,∃o,h.get? b=some o/\∀v,o.data≠.cell v
 keep:∀i h h',tn i h->(∀b∈fp,∀o,h.get? b=some o->h'.get? b=some o)->tn i h'
 item:∀(X:Cx),X.prog=P->X.w=w->X.K=K->X.calm=true->∀(i:Nat) (pins:List (Addr×Obj)) (s:Shared) (σ:St) (H:Hp) (E:Value->Shared->Prop),Inv X pins σ H s->(∀b∈fp,bh X pins H b)->tn i s.heap->J.go i H ->
  wpAny (model P w) X.A (pyNext (.ref it)) (λr s1=>∃u,r=some u /\ wpAny (model P w) X.A (letOwnedTupleGo tg (.ref it) u) (λ_ s2=>∃x H',Inv X pins σ H' s2/\am x u/\J.yld i H x H'/\tn (i+1) s2.heap/\∀b∈fp,H' b=none) E s1) E s
 done:∀(X:Cx),X.prog=P->X.w=w->X.K=K->X.calm=true->∀(i:Nat) (pins:List (Addr×Obj)) (s:Shared) (σ:St) (H:Hp) (E:Value->Shared->Prop),Inv X pins σ H s->(∀b∈fp,bh X pins H b)->tn i s.heap->J.stop i H ->
  wpAny (model P w) X.A (pyNext (.ref it)) (λr s1=>r=none/\Inv X pins σ H s1) E s
 self:∀(A:Around)(i:Nat)(s:Shared)(Q:Value->Shared->Prop)(E:Value->Shared->Prop),tn i s.heap->Q (.ref it) s->wpAny (model P w) A (pyIter (.ref it)) Q E s
abbrev TI:=St->Hp->(It->Hp->Prop)->Prop
def PIE(X:Cx)(pins:List (Addr×Obj))(σ:St)(tg:Expr)(R:It->Hp->Prop)(itv:Value)(s2:Shared):Prop :=
 ∃(it:Addr)(fp:List Addr)(tn:Nat->Heap->Prop)(J:It)(H':Hp),itv= .ref it/\Inv X pins σ H' s2/\fE X.prog X.w X.K tg J fp it tn/\tn 0 s2.heap/\(∀b∈fp,bh X pins H' b)/\R J H'
def PI(X:Cx)(tg iter:Expr)(wi:TI):Prop :=
 ∀(pins:List (Addr×Obj)) (s:Shared) (σ:St) (H:Hp) (R:It->Hp->Prop),Inv X pins σ H s->wi σ H R ->
  wpAny (model X.prog X.w) X.A (eval iter X.env) (λv s1=>wpAny (model X.prog X.w) X.A (pyIter v) (PIE X pins σ tg R) X.xe s1) X.xe s
theorem gH{M:Model}{E:Value->Shared->Prop}{s:Shared}{it:Addr}{o:Obj}{n:String}{vs:Array Value}{Q:Unit->Shared->Prop}(ho:s.heap.get? it=some o)(hc:o.cls= .type n)(hd:o.data= .fields vs)
  (hn:["enumerate","zip","dict_itemiterator","dict_reverseitemiterator","odict_iterator","itertools.zip_longest","itertools.pairwise"].contains n=false) (hQ:Q () s):wpAny M A (letOwnedTupleGo tg (.ref it) u) Q E s:=by
 unfold letOwnedTupleGo
 cases tg<;>first
  |exact qAE hQ
  | (cases u<;>first
    |exact qAE hQ
    | (refine qAA (qB4 ho ?_)
       rw[hc,hd];show wpAny M A (if(["enumerate","zip","dict_itemiterator","dict_reverseitemiterator","odict_iterator","itertools.zip_longest","itertools.pairwise"].contains n&&vs[0]?==some (rawInt _))=true then _ else _) Q E s;rw[qAB (by intro h;rw[hn,Bool.false_and]at h;cases h)];exact qAE hQ))
def Itl(K:PySem.W.Frag)(a:Addr):It :=
 ⟨λi H=>∃xs x,SqL K H a xs/\xs[i]?=some x,λi H x H'=>H'=H/\∀xs,SqL K H a xs->xs[i]?=some x,λi H=>∃xs,SqL K H a xs/\xs.length<=i⟩
def Itt(K:PySem.W.Frag)(a:Addr):It :=
 ⟨λi H=>∃xs x,SqT K H a xs/\xs[i]?=some x,λi H x H'=>H'=H/\∀xs,SqT K H a xs->xs[i]?=some x,λi H=>∃xs,SqT K H a xs/\xs.length<=i⟩
def Itr(lo:Int)(n:Nat):It:=⟨λi _=>i<n,λi H x H'=>H'=H/\x= .int (lo+i),λi _=>n<=i⟩
theorem j7(a it:Addr):fE P w K tg (Itl K a) [it] it (λi h=>h.IsListIter it a i) where
 mem:=by simp
 obj:=λi h st b hb=>by
  have e:b=it:=by simpa using hb
  subst e;obtain⟨o,e,c,d⟩:=st;exact⟨o,e,λv z=>by rw[d]at z;cases z⟩
 keep:=λi h h' st k=>st.at λo e=>k it (by simp) o e
 item:=by
  intro X hP hw hK hc i pins s σ H E I hf st hg;subst hP hw hK;obtain⟨xs,x,hq,hx⟩:=hg;obtain⟨its,rv,p,hz⟩:=I.list hq;obtain⟨u,hu,ru⟩:=rv.get hx;obtain⟨f0,f1,f2,f3,f4,f5⟩:=hf it (by simp);refine wpAny_pyNext_list_item st p.isList (x:=u) (by simpa using hu) λh' st' sb=>?_;have I1:Inv X pins σ H {s with heap:=h'}:=I.turned (t':=s.toks) (λb o hb e=>(sb.2 b hb).trans e) f0 f1 f3 f4 f5;obtain⟨o,e,c,d⟩:=id st';exact⟨u,rfl,gH (s:={s with heap:=h'}) e c d (by decide) ⟨x,H,I1,ru,⟨rfl,λys hy=>by rw[I.list_inj hy hq];exact hx⟩,st',λb hb=>(hf b hb).1⟩⟩
 done:=by
  intro X hP hw hK hc i pins s σ H E I hf st hg;subst hP hw hK;obtain⟨xs,hq,hx⟩:=hg;obtain⟨its,rv,p,hz⟩:=I.list hq;obtain⟨f0,f1,f2,f3,f4,f5⟩:=hf it (by simp);have hl:=rv.length;exact wpAny_pyNext_list_end (I.ok.hd hc) st p.isList (by simp;lia) λh' eb=>⟨rfl,I.turned (t':=s.toks) (λb o hb e=>eb b o hb e) f0 f1 f3 f4 f5⟩
 self:=λ_ _ _ _ _ st h=>wpAny_pyIter_listiter st h
theorem ie(a it:Addr):fE P w K tg (Itt K a) [it] it (λi h=>h.IsTupleIter it a i) where
 mem:=by simp
 obj:=λi h st b hb=>by
  have e:b=it:=by simpa using hb
  subst e;obtain⟨o,e,c,d⟩:=st;exact⟨o,e,λv z=>by rw[d]at z;cases z⟩
 keep:=λi h h' st k=>st.at λo e=>k it (by simp) o e
 item:=by
  intro X hP hw hK hc i pins s σ H E I hf st hg;subst hP hw hK;obtain⟨xs,x,hq,hx⟩:=hg;obtain⟨its,rv,p,hz⟩:=I.tuple hq;obtain⟨u,hu,ru⟩:=rv.get hx;obtain⟨f0,f1,f2,f3,f4,f5⟩:=hf it (by simp);refine wpAny_pyNext_tuple_item st (show s.heap.IsTuple a its.toArray from p) (x:=u) (by simpa using hu) λh' st' sb=>?_;have I1:Inv X pins σ H {s with heap:=h'}:=I.turned (t':=s.toks) (λb o hb e=>(sb.2 b hb).trans e) f0 f1 f3 f4 f5;obtain⟨o,e,c,d⟩:=id st';exact⟨u,rfl,gH (s:={s with heap:=h'}) e c d (by decide) ⟨x,H,I1,ru,⟨rfl,λys hy=>by rw[I.tuple_inj hy hq];exact hx⟩,st',λb hb=>(hf b hb).1⟩⟩
 done:=by
  intro X hP hw hK hc i pins s σ H E I hf st hg;subst hP hw hK;obtain⟨xs,hq,hx⟩:=hg;obtain⟨its,rv,p,hz⟩:=I.tuple hq;obtain⟨f0,f1,f2,f3,f4,f5⟩:=hf it (by simp);have hl:=rv.length;exact wpAny_pyNext_tuple_end (I.ok.hd hc) st (show s.heap.IsTuple a its.toArray from p) (by simp;lia) λh' eb=>⟨rfl,I.turned (t':=s.toks) (λb o hb e=>eb b o hb e) f0 f1 f3 f4 f5⟩
 self:=λ_ _ _ _ _ st h=>wpAny_pyIter_tupleiter st h
theorem ic(it:Addr)(lo:Int)(n:Nat):fE P w K tg (Itr lo n) [it] it (λi h=>IsRangeIter h it (lo+(i:Nat)*1) ((n:Int)-(i:Nat)) 1) where
 mem:=by simp
 obj:=λi h st b hb=>by
  have e:b=it:=by simpa using hb
  subst e
  exact⟨_,st,λv z=>by
   have z':Data.fields _=Data.cell v:=z
   cases z'⟩
 keep:=λi h h' st k=>k it (by simp) _ st
 item:=by
  intro X hP hw hK hc i pins s σ H E I hf st hg;subst hP hw hK;obtain⟨f0,f1,f2,f3,f4,f5⟩:=hf it (by simp);have W:=Walks.range (prog:=X.prog) (w:=X.w) (I.ok.hd hc) it lo 1 n;refine W.item i s _ _ hg st λv h' tk hv st' kk=>?_;obtain⟨t,rfl⟩:=hv;have I1:Inv X pins σ H {s with heap:=h',toks:=tk}:=I.turned (λb o hb e=>kk b o (by simpa using hb) e) f0 f1 f3 f4 f5;refine⟨_,rfl,gH (s:={s with heap:=h',toks:=tk}) (n:="range_iterator") st' rfl rfl (by decide) ⟨.int (lo+i),H,I1,⟨t,?_⟩,⟨rfl,rfl⟩,st',λb hb=>(hf b hb).1⟩⟩;rw[Int.mul_one]
 done:=by
  intro X hP hw hK hc i pins s σ H E I hf st hg;subst hP hw hK;obtain⟨f0,f1,f2,f3,f4,f5⟩:=hf it (by simp);exact wpAny_pyNext_range_end (I.ok.hd hc) st (by have:n<=i:=hg;lia) λh' eb=>⟨rfl,I.turned (t':=s.toks) (λb o hb e=>eb b o hb e) f0 f1 f3 f4 f5⟩
 self:=λ_ _ _ _ _ st h=>wpAny_pyIter_rangeiter st h
section
variable{X:Cx}{tg:Expr}
inductive nX(K:PySem.W.Frag)(R:It->Hp->Prop)(x:V)(H1:Hp):Prop
 |mk:∀a,x= .ref a->(∃xs,SqL K H1 a xs)->R (Itl K a) H1->nX K R x H1
def qO(K:PySem.W.Frag)(tl:TE):TI:=λσ H R=>tl σ H λx H1=>nX K R x H1
inductive rm(K:PySem.W.Frag)(R:It->Hp->Prop)(x:V)(H1:Hp):Prop
 |mk:∀a,x= .ref a->(∃xs,SqT K H1 a xs)->R (Itt K a) H1->rm K R x H1
def vp(K:PySem.W.Frag)(tl:TE):TI:=λσ H R=>tl σ H λx H1=>rm K R x H1
theorem zAq{l:Expr}{tl:TE}(hl:PE X l tl):PI X tg l (qO X.K tl):=by
 intro pins s σ H R I h;refine thn (hl pins s σ H _ I h) λv s1 ⟨x,H1,I1,r1,q1⟩=>?_;obtain⟨a,e,⟨xs,hq⟩,q⟩:=q1;subst e
 cases r1
 obtain⟨its,rv,p,hz⟩:=I1.list hq;refine wpAny_pyIter_list p.isList ?_;refine⟨s1.heap.objs.size,[s1.heap.objs.size],_,_,H1,rfl,I1.kept (t':=s1.toks) λb o e=>qAM _ e,j7 a _,⟨_,qAk _ rfl,rfl,rfl⟩,λb hb=>?_,q⟩;have e:b=s1.heap.objs.size:=by simpa using hb
 subst e;exact I1.fpOk (qAG _) (I1.hok.fresh (qAG _))
theorem tQ{l:Expr}{tl:TE}(hl:PE X l tl):PI X tg l (vp X.K tl):=by
 intro pins s σ H R I h;refine thn (hl pins s σ H _ I h) λv s1 ⟨x,H1,I1,r1,q1⟩=>?_;obtain⟨a,e,⟨xs,hq⟩,q⟩:=q1;subst e
 cases r1
 obtain⟨its,rv,p,hz⟩:=I1.tuple hq;refine wpAny_pyIter_tuple (show s1.heap.IsTuple a its.toArray from p) ?_;refine⟨s1.heap.objs.size,[s1.heap.objs.size],_,_,H1,rfl,I1.kept (t':=s1.toks) λb o e=>qAM _ e,ie a _,⟨_,qAk _ rfl,rfl,rfl⟩,λb hb=>?_,q⟩;have e:b=s1.heap.objs.size:=by simpa using hb
 subst e;exact I1.fpOk (qAG _) (I1.hok.fresh (qAG _))
theorem gK{R:It->Hp->Prop}{E:Value->Shared->Prop}{lo hi:Int}{t u v:Tok}{tk:Nat}(I:Inv X pins σ H s)(h1:-(2^62)<=lo)(h2:lo<2^62)(h3:-(2^62)<=hi)(h4:hi<2^62)
  (q:R (Itr lo (hi-lo).toNat) H):wpAny (model X.prog X.w) X.A (pyIter (.ref s.heap.objs.size)) (PIE X pins σ tg R) E {s with heap:=s.heap.push {cls:=.type "range",data:=.fields #[.int lo t,.int hi u,.int 1 v]},toks:=tk}:=by
 refine wpAny_pyIter_range (IsRange.new ..) (small_one h1 h2 h3 h4) ?_;have I1:Inv X pins σ H {s with heap:=s.heap.push {cls:=.type "range",data:=.fields #[.int lo t,.int hi u,.int 1 v]},toks:=tk}:=I.kept λb o e=>qAM _ e
 refine⟨(s.heap.push {cls:=.type "range",data:=.fields #[.int lo t,.int hi u,.int 1 v]}).objs.size,[(s.heap.push {cls:=.type "range",data:=.fields #[.int lo t,.int hi u,.int 1 v]}).objs.size],_,_,H,rfl,I1.kept (t':=tk) λb o e=>qAM _ e,ic _ lo (hi-lo).toNat,?_,λb hb=>?_,q⟩
 .have e1:lo+((0:Nat):Int)*1=lo:=by simp
  have e2:(((hi-lo).toNat:Nat):Int)-((0:Nat):Int)=Builtin.Range.rangeSize lo hi 1:=by rw[rangeSize_one];split<;>lia
  show IsRangeIter _ _ (lo+((0:Nat):Int)*1) ((((hi-lo).toNat:Nat):Int)-((0:Nat):Int)) 1;rw[e1,e2];exact qAk _ rfl
 .have e:b=(s.heap.push {cls:=.type "range",data:=.fields #[.int lo t,.int hi u,.int 1 v]}).objs.size:=by simpa using hb
  subst e;exact I1.fpOk (qAG _) (I1.hok.fresh (qAG _))
inductive nF(R:It->Hp->Prop)(vs:List V)(H1:Hp):Prop
 |mk:∀(j:Int),vs=[.int j]->-(2^62)<=j->j<2^62->R (Itr 0 j.toNat) H1->nF R vs H1
def uZ(ta:TA):TI:=λσ H R=>ta σ H λvs H1=>nF R vs H1
inductive mY(R:It->Hp->Prop)(vs:List V)(H1:Hp):Prop
 |mk:∀(i j:Int),vs=[.int i,.int j]->(-(2^62)<=i/\i<2^62/\-(2^62)<=j/\j<2^62)->R (Itr i (j-i).toNat) H1->mY R vs H1
def uQ(ta:TA):TI:=λσ H R=>ta σ H λvs H1=>mY R vs H1
theorem zEr{a:Expr}{ta:TA}{p:Pos}(hg:Gl X "range")(hm:X.mg "range"=none)(ha:PA X [a] ta)(hs:starEach [a] X.env=[(false,eval a X.env)]:=by rfl):PI X tg (.Call (.Name "range" p) [a] [] pos) (uZ ta):=by
 intro pins s σ H R I h;refine Call_ (zHz I hg hm boot_range (qCT (thn (ha pos pins s σ H _ I h) λus s1 ⟨vs,H1,I1,r1,q1⟩=>?_) hs rfl));obtain⟨j,e,q1,q2,q⟩:=q1;subst e
 cases r1 with
 |cons r rr=>
  cases rr
  obtain⟨t,rfl⟩:=r;exact call_range_1 (gK I1 (by lia) (by lia) q1 q2 (by simpa using q))
theorem kN{a b:Expr}{ta:TA}{p pos:Pos}(hg:Gl X "range")(hm:X.mg "range"=none)(ha:PA X [a,b] ta)(hs:starEach [a,b] X.env=[(false,eval a X.env),(false,eval b X.env)]:=by rfl)(hs2:starEach [b] X.env=[(false,eval b X.env)]:=by rfl) :
  PI X tg (.Call (.Name "range" p) [a,b] [] pos) (uQ ta):=by
 intro pins s σ H R I h;refine Call_ (zHz I hg hm boot_range (qCT (thn (ha pos pins s σ H _ I h) λus s1 ⟨vs,H1,I1,r1,q1⟩=>?_) (by rw[hs,hs2]) (by rw[hs2];rfl)));obtain⟨i,j,e,⟨q1,q2,q3,q4⟩,q⟩:=q1;subst e
 cases r1 with
 |cons r rr=>
  cases rr with
  |cons r' rr=>
   cases rr
   obtain⟨t,rfl⟩:=r;obtain⟨t',rfl⟩:=r';exact call_range_2 (gK I1 q1 q2 q3 q4 q)
def vd(wi:TI)(g:TG)(tb:TS):TS:=λD σ H=>wi σ H λJ H1=>∃W:Nat->Nat->St->Hp->Prop,(∃m,W 0 m σ H1)/\∀i m σ H,W i m σ H ->
 (J.stop i H/\D.nx σ H)\/(J.go i H/\∃N:St->Hp->Prop,(∀σ' H',N σ' H'->∃m',m'<m/\W (i+1) m' σ' H')/\∀x H',J.yld i H x H'->g x σ H' λσ2 H2=>tb {D with nx:=N,ct:=N,bk:=D.nx} σ2 H2)
def zIu(fp:List Addr)(h:Heap):List (Addr×Obj):=fp.filterMap λb=>(h.get? b).map λo=>(b,o)
theorem zC4{fp:List Addr}{b:Addr}{o:Obj}(hb:b∈fp)(e:h.get? b=some o):(b,o)∈zIu fp h:=List.mem_filterMap.mpr ⟨b,hb,by rw[e];rfl⟩
theorem kl{fp:List Addr}{p:Addr×Obj}(hp:p∈zIu fp h):p.1∈fp/\h.get? p.1=some p.2:=by
 obtain⟨b,hb,e⟩:=List.mem_filterMap.mp hp
 cases q:h.get? b with
 |none=>rw[q]at e;cases e
 |some o=>
  rw[q]at e;have e':(b,o)=p:=qAb e;subst e';exact⟨hb,q⟩
theorem Inv.pinned{fp:List Addr}(I:Inv X pins σ H s)(hf:∀b∈fp,bh X pins H b)(ho:∀b∈fp,∃o,s.heap.get? b=some o/\∀v,o.data≠.cell v):Inv X (pins++zIu fp s.heap) σ H s :=
 I.pins_of λp hp=>(qAR.mp hp).elim (λz=>I.pin p (qAs _ z)) λz=>by
  obtain⟨hb,e⟩:=kl z;obtain⟨f0,f1,f2,_⟩:=hf p.1 hb;obtain⟨o,e',d⟩:=ho p.1 hb;rw[e]at e';cases e';exact⟨e,f0,f1,f2,d⟩
theorem Inv.unpinned{pl:List (Addr×Obj)}(I:Inv X (pins++pl) σ H s):Inv X pins σ H s:=I.pins_of λp hp=>I.pin p (qAs _ (qAp _ hp))
theorem zA7{iter:Expr}{body:List Stmt}{wi:TI}{tb:TS}(hp:PassesOwn (model X.prog X.w) X.A X.env X.xe)(hc:X.calm=true)(hi:PI X tg iter wi)(hg:PG X tg g)(hb:PSs X body tb)
  (hs:∀x,foldedSetIterable iter X.env x=pure x:=by intro _;rfl):PS X (.For tg iter body [] pos) (vd wi g tb):=by
 intro pins s σ H D I h;refine wpAny_For (thn (hi pins s σ H _ I h) λv s1 h1=>thn h1 λitv s2 h2=>?_) hs;obtain⟨it,fp,tn,J,H2,e,I2,T,st2,f2,W,⟨m0,w0⟩,turn⟩:=h2;subst e;have stat:∀{H':Hp},(∀b∈fp,H' b=none)->∀b∈fp,bh X pins H' b:=λhn b hb=>⟨hn b hb,(f2 b hb).2⟩;refine codeAny_forLoop_any (λn s'=>∃i σ' H',Inv X pins σ' H' s'/\tn i s'.heap/\(∀b∈fp,H' b=none)/\W i n σ' H') ?_ m0 ⟨0,σ,H2,I2,st2,λb hb=>(f2 b hb).1,w0⟩;rintro n s3 ⟨i,σ3,H3,I3,st3,fr3,w3⟩;rcases turn i n σ3 H3 w3 with⟨stop,qn⟩|⟨go,N,hN,step⟩
 .refine qB3 hp (thn (T.done X rfl rfl rfl hc i pins s3 σ3 H3 X.xe I3 (stat fr3) st3 stop) λr s4 ⟨hr,I4⟩=>?_);subst hr;exact qCS ⟨σ3,H3,I4,qn⟩
 .refine qB3 hp (thn (T.item X rfl rfl rfl hc i pins s3 σ3 H3 X.xe I3 (stat fr3) st3 go) λr s4 ⟨u,hr,h4⟩=>?_);subst hr;refine qB3 hp (thn h4 λ_ s5 ⟨x,H5,I5,r5,y5,st5,fr5⟩=>?_);have I5':=I5.pinned (stat fr5) (T.obj _ _ st5);refine qB3 hp (thn (hg _ s5 σ3 H5 x u _ I5' r5 (step x H5 y5)) λ_ s6 ⟨σ6,H6,I6,q6⟩=>?_);refine qB3 hp (thn (hb _ s6 σ6 H6 _ I6 q6) λf s7 q7=>?_)
  have again:∀{σ7:St}{H7:Hp},Inv X (pins++zIu fp s5.heap) σ7 H7 s7->N σ7 H7->∃m,m<n/\∃i σ' H',Inv X pins σ' H' s7/\tn i s7.heap/\(∀b∈fp,H' b=none)/\W i m σ' H':=λ{σ7 H7} I7 n7=>by
   obtain⟨m',hm,w7⟩:=hN σ7 H7 n7;refine⟨m',hm,i+1,σ7,H7,I7.unpinned,T.keep _ _ _ st5 λb hb o e=>(I7.pin (b,o) (qAs _ (qAs _ (zC4 hb e)))).1,λb hb=>?_,w7⟩;obtain⟨o,e,d⟩:=T.obj _ _ st5 b hb;exact(I7.pin (b,o) (qAs _ (qAs _ (zC4 hb e)))).2.1
  cases f with
  |next=>obtain⟨σ7,H7,I7,n7⟩:=q7;exact again I7 n7
  |cont=>obtain⟨σ7,H7,I7,n7⟩:=q7;exact again I7 n7
  |brk=>obtain⟨σ7,H7,I7,q7⟩:=q7;exact⟨σ7,H7,I7.unpinned,q7⟩
  |ret v=>obtain⟨x7,σ7,H7,I7,r7,q7⟩:=q7;exact⟨x7,σ7,H7,I7.unpinned,r7,q7⟩
end
theorem zA3{xs:List V}{tb:TS}(Pv:Nat->St->Hp->Prop)(h0:Pv 0 σ H)(hl:∀i σ H,i<=xs.length->Pv i σ H->SqL K H a xs)
  (hs:∀i x σ H,xs[i]?=some x->Pv i σ H->g x σ H λσ2 H2=>tb {D with nx:=Pv (i+1),ct:=Pv (i+1),bk:=D.nx} σ2 H2) (hd:∀σ H,Pv xs.length σ H->D.nx σ H) :
  ∃W:Nat->Nat->St->Hp->Prop,(∃m,W 0 m σ H)/\∀i m σ H,W i m σ H ->
   ((Itl K a).stop i H/\D.nx σ H)\/((Itl K a).go i H/\∃N:St->Hp->Prop,(∀σ' H',N σ' H'->∃m',m'<m/\W (i+1) m' σ' H')/\∀x H',(Itl K a).yld i H x H'->g x σ H' λσ2 H2=>tb {D with nx:=N,ct:=N,bk:=D.nx} σ2 H2):=by
 refine⟨λi m σ H=>m=xs.length-i/\i<=xs.length/\Pv i σ H,⟨xs.length,by simp,qAi _,h0⟩,?_⟩;rintro i m σ H ⟨rfl,hi,p⟩;have q:=hl i σ H hi p
 by_cases hlt:i<xs.length
 .refine .inr ⟨⟨xs,xs[i],q,by simp[hlt]⟩,Pv (i+1),λσ' H' p'=>⟨xs.length-(i+1),by lia,rfl,hlt,p'⟩,λx H' y=>?_⟩;obtain⟨e,y⟩:=y;subst e;exact hs i x σ _ (y xs q) p
 .have e:i=xs.length:=by lia
  subst e;exact .inl ⟨⟨xs,q,qAG _⟩,hd σ H p⟩
theorem qK{tb:TS}(Pv:Nat->St->Hp->Prop)(h0:Pv 0 σ H)(hl:∀i σ H,i<=xs.length->Pv i σ H->SqT K H a xs)
  (hs:∀i x σ H,xs[i]?=some x->Pv i σ H->g x σ H λσ2 H2=>tb {D with nx:=Pv (i+1),ct:=Pv (i+1),bk:=D.nx} σ2 H2) (hd:∀σ H,Pv xs.length σ H->D.nx σ H) :
  ∃W:Nat->Nat->St->Hp->Prop,(∃m,W 0 m σ H)/\∀i m σ H,W i m σ H ->
   ((Itt K a).stop i H/\D.nx σ H)\/((Itt K a).go i H/\∃N:St->Hp->Prop,(∀σ' H',N σ' H'->∃m',m'<m/\W (i+1) m' σ' H')/\∀x H',(Itt K a).yld i H x H'->g x σ H' λσ2 H2=>tb {D with nx:=N,ct:=N,bk:=D.nx} σ2 H2):=by
 refine⟨λi m σ H=>m=xs.length-i/\i<=xs.length/\Pv i σ H,⟨xs.length,by simp,qAi _,h0⟩,?_⟩;rintro i m σ H ⟨rfl,hi,p⟩;have q:=hl i σ H hi p
 by_cases hlt:i<xs.length
 .refine .inr ⟨⟨xs,xs[i],q,by simp[hlt]⟩,Pv (i+1),λσ' H' p'=>⟨xs.length-(i+1),by lia,rfl,hlt,p'⟩,λx H' y=>?_⟩;obtain⟨e,y⟩:=y;subst e;exact hs i x σ _ (y xs q) p
 .have e:i=xs.length:=by lia
  subst e;exact .inl ⟨⟨xs,q,qAG _⟩,hd σ H p⟩
theorem zDw{lo:Int}{n:Nat}{tb:TS}(Pv:Nat->St->Hp->Prop)(h0:Pv 0 σ H)
  (hs:∀i σ H,i<n->Pv i σ H->g (.int (lo+i)) σ H λσ2 H2=>tb {D with nx:=Pv (i+1),ct:=Pv (i+1),bk:=D.nx} σ2 H2) (hd:∀σ H,Pv n σ H->D.nx σ H) :
  ∃W:Nat->Nat->St->Hp->Prop,(∃m,W 0 m σ H)/\∀i m σ H,W i m σ H ->
   ((Itr lo n).stop i H/\D.nx σ H)\/((Itr lo n).go i H/\∃N:St->Hp->Prop,(∀σ' H',N σ' H'->∃m',m'<m/\W (i+1) m' σ' H')/\∀x H',(Itr lo n).yld i H x H'->g x σ H' λσ2 H2=>tb {D with nx:=N,ct:=N,bk:=D.nx} σ2 H2):=by
 refine⟨λi m σ H=>m=n-i/\i<=n/\Pv i σ H,⟨n,by simp,qAi _,h0⟩,?_⟩;rintro i m σ H ⟨rfl,hi,p⟩
 by_cases hlt:i<n
 .refine .inr ⟨hlt,Pv (i+1),λσ' H' p'=>⟨n-(i+1),by lia,rfl,hlt,p'⟩,λx H' y=>?_⟩;obtain⟨e,y⟩:=y;subst e y;exact hs i σ _ hlt p
 .have e:i=n:=by lia
  subst e;exact .inl ⟨qAG _,hd σ H p⟩
theorem gy{c:TT}{tb:TS}(Pv:St->Hp->Prop)(μ:St->Hp->Nat)(h0:Pv σ H)
  (hs:∀σ H,Pv σ H->c σ H λb H1=>if b=true then tb {D with nx:=λσ' H'=>Pv σ' H'/\μ σ' H'<μ σ H,ct:=λσ' H'=>Pv σ' H'/\μ σ' H'<μ σ H,bk:=D.nx} σ H1 else D.nx σ H1)
  (mono:∀σ H Q Q',(∀b H1,Q b H1->Q' b H1)->c σ H Q->c σ H Q'):dF c tb D σ H:=by
 refine⟨λm σ H=>m=μ σ H/\Pv σ H,⟨_,rfl,h0⟩,?_⟩;rintro m σ H ⟨rfl,p⟩;refine mono σ H _ _ (λb H1 q=>?_) (hs σ H p)
 cases b with
 |true=>exact⟨_,λσ' H' ⟨p',l⟩=>⟨_,l,rfl,p'⟩,q⟩
 |false=>exact q
abbrev R2:=V->V->Hp->VK->Prop
variable{r:R2}
def OpR(X:Cx)(f:Value->Value->Sem Value)(r:R2):Prop :=
 ∀(pins:List (Addr×Obj)) (s:Shared) (σ:St) (H:Hp) (x y:V) (v u:Value) (Q:VK),Inv X pins σ H s->am x v->am y u->r x y H Q ->
  wpAny (model X.prog X.w) X.A (f v u) (EP X pins σ Q) X.xe s
def UnR(X:Cx)(f:Value->Sem Value)(r:V->Hp->VK->Prop):Prop :=
 ∀(pins:List (Addr×Obj)) (s:Shared) (σ:St) (H:Hp) (x:V) (v:Value) (Q:VK),Inv X pins σ H s->am x v->r x H Q ->
  wpAny (model X.prog X.w) X.A (f v) (EP X pins σ Q) X.xe s
def zCz(X:Cx)(f:Value)(r:List V->Hp->VK->Prop):Prop :=
 ∀(pins:List (Addr×Obj)) (s:Shared) (σ:St) (H:Hp) (xs:List V) (us:List Value) (Q:VK),Inv X pins σ H s->aj xs us->r xs H Q ->
  wpAny (model X.prog X.w) X.A (call f us) (EP X pins σ Q) X.xe s
def vo(X:Cx)(r:V->Hp->(Bool->Hp->Prop)->Prop):Prop :=
 ∀(pins:List (Addr×Obj)) (s:Shared) (σ:St) (H:Hp) (x:V) (v:Value) (Q:Bool->Hp->Prop),Inv X pins σ H s->am x v->r x H Q ->
  wpAny (model X.prog X.w) X.A (truthy v) (TP X pins σ Q) X.xe s
def tOp(r:R2)(ta tb:TE):TE:=λσ H Q=>ta σ H λx H1=>tb σ H1 λy H2=>r x y H2 Q
def tUn(r:V->Hp->VK->Prop)(ta:TE):TE:=λσ H Q=>ta σ H λx H1=>r x H1 Q
inductive rI(C:Int->Int->Prop)(g:Int->Int->V)(x:V)(y:V)(H:Hp)(Q:VK):Prop
 |mk:∀i j,x= .int i->y= .int j->C i j->Q (g i j) H->rI C g x y H Q
inductive rI0(g:Int->Int->V)(x:V)(y:V)(H:Hp)(Q:VK):Prop
 |mk:∀i j,x= .int i->y= .int j->Q (g i j) H->rI0 g x y H Q
inductive rU(g:Int->V)(x:V)(H:Hp)(Q:VK):Prop
 |mk:∀i,x= .int i->Q (g i) H->rU g x H Q
section
variable{X:Cx}{a b c:Expr}{ta tb tc:TE}{pos:Pos}
theorem sJ(ha:PE X a ta)(hb:PE X b tb){R:V->V->Hp->Prop}(I:Inv X pins σ H s)
  (h:ta σ H λx H1=>tb σ H1 λy H2=>R x y H2) {Q:Value->Shared->Prop} {f:Value->Value->Sem Value}
  (hf:∀v u s2 x y H2,Inv X pins σ H2 s2->am x v->am y u->R x y H2->wpAny (model X.prog X.w) X.A (f v u) Q X.xe s2) :
  wpAny (model X.prog X.w) X.A (eval a X.env) (λv s₁=>wpAny (model X.prog X.w) X.A (eval b X.env) (λu s₂=>wpAny (model X.prog X.w) X.A (f v u) Q X.xe s₂) X.xe s₁) X.xe s:=by
 refine thn (ha pins s σ H _ I h) λv s1 ⟨x,H1,I1,r1,q1⟩=>?_;refine thn (hb pins s1 σ H1 _ I1 q1) λu s2 ⟨y,H2,I2,r2,q2⟩=>?_;exact hf v u s2 x y H2 I2 r1 r2 q2
theorem zAn{op:Operator}{r:R2}(ho:OpR X (binaryOp op) r)(ha:PE X a ta)(hb:PE X b tb):PE X (.BinOp a op b pos) (tOp r ta tb):=by
 intro pins s σ H Q I h;exact wpAny_BinOp (sJ ha hb I h λv u s2 x y H2 I2 rx ry q=>ho pins s2 σ H2 x y v u Q I2 rx ry q)
theorem n_{op:UnaryOp}{r:V->Hp->VK->Prop}(ho:UnR X (unaryOp op) r)(ha:PE X a ta):PE X (.UnaryOp op a pos) (tUn r ta):=by
 intro pins s σ H Q I h;exact UnaryOp_ (thn (ha pins s σ H _ I h) λv s1 ⟨x,H1,I1,r1,q1⟩=>ho pins s1 σ H1 x v Q I1 r1 q1)
theorem opI{f:Value->Value->Sem Value}{C:Int->Int->Prop}{g:Int->Int->Int}
  (rule:∀(i j:Int)(t u:Tok)(s:Shared)(Q:Value->Shared->Prop)(E:Value->Shared->Prop),C i j->Q (.int (g i j) s.toks) {s with toks:=s.toks+1}->wpAny (model X.prog X.w) X.A (f (.int i t) (.int j u)) Q E s) :
  OpR X f (rI C λi j=>.int (g i j)):=by
 intro pins s σ H x y v u Q I rx ry h;obtain⟨i,j,rfl,rfl,hc,q⟩:=h;obtain⟨t,rfl⟩:=rx;obtain⟨t',rfl⟩:=ry;exact rule i j t t' s _ _ hc ⟨.int (g i j),H,I.tok _,⟨_,rfl⟩,q⟩
theorem ut{f:Value->Value->Sem Value}{g:Int->Int->Int}
  (rule:∀(i j:Int)(t u:Tok)(s:Shared)(Q:Value->Shared->Prop)(E:Value->Shared->Prop),Q (.int (g i j) s.toks) {s with toks:=s.toks+1}->wpAny (model X.prog X.w) X.A (f (.int i t) (.int j u)) Q E s) :
  OpR X f (rI0 λi j=>.int (g i j)):=by
 intro pins s σ H x y v u Q I rx ry h;obtain⟨i,j,rfl,rfl,q⟩:=h;obtain⟨t,rfl⟩:=rx;obtain⟨t',rfl⟩:=ry;exact rule i j t t' s _ _ ⟨.int (g i j),H,I.tok _,⟨_,rfl⟩,q⟩
theorem tX{f:Value->Value->Sem Value}{g:Int->Int->Bool}
  (rule:∀(i j:Int)(t u:Tok)(s:Shared)(Q:Value->Shared->Prop)(E:Value->Shared->Prop),Q (.bool (g i j)) s->wpAny (model X.prog X.w) X.A (f (.int i t) (.int j u)) Q E s) :
  OpR X f (rI0 λi j=>.bl (g i j)):=by
 intro pins s σ H x y v u Q I rx ry h;obtain⟨i,j,rfl,rfl,q⟩:=h;obtain⟨t,rfl⟩:=rx;obtain⟨t',rfl⟩:=ry;exact rule i j t t' s _ _ ⟨.bl (g i j),H,I,rfl,q⟩
def vi(i j:Int):Prop:=0<j/\j<1073741824
def vb(i j:Int):Prop:=0<=j/\j<=1000000/\i.natAbs<2^64
def sm(i j:Int):Prop:=(-(2^64)<i/\i<2^64)\/(-(2^64)<j/\j<2^64)
theorem sm.ok{i j:Int}(h:sm i j):IntMulOk i j:=by
 rcases h with⟨h1,h2⟩|⟨h1,h2⟩
 .exact .of_left (intBits_le_64 h1 h2)
 .exact .of_right (intBits_le_64 h1 h2)
theorem zCy:OpR X (binaryOp .Add) (rI0 λi j=>.int (i+j)):=ut λ_ _ _ _ _ _ _ q=>add_int q
theorem zE9:OpR X (binaryOp .Sub) (rI0 λi j=>.int (i-j)):=ut λ_ _ _ _ _ _ _ q=>sub_int q
theorem zFv:OpR X (binaryOp .Mult) (rI sm λi j=>.int (i*j)):=opI λ_ _ _ _ _ _ _ hc q=>mul_int q hc.ok
theorem zJi:OpR X (binaryOp .FloorDiv) (rI vi λi j=>.int (i / j)):=opI λi j _ _ _ _ _ hc q=>by
 have h1:(0:Int)<j:=hc.1;have h2:j<1073741824:=hc.2;exact floordiv_int (by lia) (by rw[Int.fdiv_eq_ediv_of_nonneg i (by lia)];exact q) (.inl (PyProof.noPylong_small (by lia)))
theorem zBa:OpR X (binaryOp .Mod) (rI (λ_ j=>0<j) λi j=>.int (i % j)):=opI λi j _ _ _ _ _ hc q=>by
 have h1:(0:Int)<j:=hc;exact mod_int' (by lia) (by rw[Int.fmod_eq_emod_of_nonneg i (by lia)];exact q)
theorem iw:OpR X (binaryOp .Pow) (rI vb λi j=>.int (i^j.toNat)):=opI λ_ _ _ _ _ _ _ hc q=>pow_int_small hc.1 hc.2.1 hc.2.2 q
theorem unI{f:Value->Sem Value}{g:Int->Int}
  (rule:∀(i:Int)(t:Tok)(s:Shared)(Q:Value->Shared->Prop)(E:Value->Shared->Prop),Q (.int (g i) s.toks) {s with toks:=s.toks+1}->wpAny (model X.prog X.w) X.A (f (.int i t)) Q E s) :
  UnR X f (rU λi=>.int (g i)):=by
 intro pins s σ H x v Q I rx h;obtain⟨i,rfl,q⟩:=h;obtain⟨t,rfl⟩:=rx;exact rule i t s _ _ ⟨.int (g i),H,I.tok _,⟨_,rfl⟩,q⟩
theorem iF:UnR X (unaryOp .USub) (rU λi=>.int (-i)):=unI λ_ _ _ _ _ q=>neg_int q
end
def uW:V->V->Bool
 | .non,.non=>true| .non,.int _=>true| .int _,.non=>true| .non,.bl _=>true| .bl _,.non=>true| .non,.str _=>true| .str _,.non=>true
 | .int _,.int _=>true| .bl _,.bl _=>true| .str _,.str _=>true| .byt _,.byt _=>true
 | .int _,.str _=>true| .str _,.int _=>true| .bl _,.str _=>true| .str _,.bl _=>true
 |_,_=>false
def rEq:R2:=λx y H Q=>uW x y=true/\Q (.bl (decide (x=y))) H
def rNe:R2:=λx y H Q=>uW x y=true/\Q (.bl (!decide (x=y))) H
theorem jA{i j:Int}:decide (V.int i=V.int j)=(i==j):=by
 rw[qB5];simp
theorem lU{i j:Bool}:decide (V.bl i=V.bl j)=(i==j):=by
 rw[qB5];simp
theorem jr{i j:Str}:decide (V.str i=V.str j)=(i==j):=by
 rw[qB5];simp
theorem jv{i j:Array UInt8}:decide (V.byt i=V.byt j)=(i.toList==j.toList):=by
 rw[qB5]
 cases i
 cases j
 simp
section
variable{X:Cx}{a b c:Expr}{ta tb tc:TE}{pos:Pos}
theorem zBj{Q:VK}{k k':Bool}(I:Inv X pins σ H s)(q:Q (.bl k) H)(e:k=k'):EP X pins σ Q (.bool k') s:=by
 subst e;exact⟨.bl k,H,I,rfl,q⟩
theorem zD8:OpR X (compareOp .Eq) rEq:=by
 intro pins s σ H x y v u Q I rx ry h;obtain⟨hs,q⟩:=h
 cases x with
 |non=>
  cases rx
  cases y with
  |non=>cases ry;exact PySem.EqNone.eq_none_none (zBj I q (by simp))
  |bl j=>cases ry;exact PySem.EqNone.eq_none_bool (zBj I q (by simp))
  |int j=>obtain⟨t',rfl⟩:=ry;exact PySem.EqNone.eq_none_int (zBj I q (by simp))
  |str j=>obtain⟨t',rfl⟩:=ry;exact PySem.EqNone.eq_none_str (zBj I q (by simp))
  |_=>exact absurd (show false=true from hs) qAd
 |bl i=>
  cases rx
  cases y with
  |non=>cases ry;exact PySem.EqNone.eq_bool_none (zBj I q (by simp))
  |bl j=>cases ry;exact eq_bool (zBj I q lU)
  |str j=>obtain⟨t',rfl⟩:=ry;exact PySem.EqMixed.eq_bool_str (zBj I q (by simp))
  |_=>exact absurd (show false=true from hs) qAd
 |int i=>
  obtain⟨t,rfl⟩:=rx
  cases y with
  |non=>cases ry;exact PySem.EqNone.eq_int_none (zBj I q (by simp))
  |int j=>obtain⟨t',rfl⟩:=ry;exact eq_int (zBj I q jA)
  |str j=>obtain⟨t',rfl⟩:=ry;exact PySem.EqMixed.eq_int_str (zBj I q (by simp))
  |_=>exact absurd (show false=true from hs) qAd
 |str i=>
  obtain⟨t,rfl⟩:=rx
  cases y with
  |non=>cases ry;exact PySem.EqNone.eq_str_none (zBj I q (by simp))
  |bl j=>cases ry;exact PySem.EqMixed.eq_str_bool (zBj I q (by simp))
  |int j=>obtain⟨t',rfl⟩:=ry;exact PySem.EqMixed.eq_str_int (zBj I q (by simp))
  |str j=>obtain⟨t',rfl⟩:=ry;exact eq_str (zBj I q jr)
  |_=>exact absurd (show false=true from hs) qAd
 |byt i=>
  obtain⟨t,rfl⟩:=rx
  cases y with
  |byt j=>obtain⟨t',rfl⟩:=ry;exact PySem.W.eq_bytes (zBj I q jv)
  |_=>exact absurd (show false=true from hs) qAd
 |_=>cases y<;>exact absurd (show false=true from hs) qAd
theorem zFu:OpR X (compareOp .NotEq) rNe:=by
 intro pins s σ H x y v u Q I rx ry h;obtain⟨hs,q⟩:=h
 cases x with
 |non=>
  cases rx
  cases y with
  |non=>cases ry;exact PySem.EqNone.ne_none_none (zBj I q (by simp))
  |bl j=>cases ry;exact PySem.EqNone.ne_none_bool (zBj I q (by simp))
  |int j=>obtain⟨t',rfl⟩:=ry;exact PySem.EqNone.ne_none_int (zBj I q (by simp))
  |str j=>obtain⟨t',rfl⟩:=ry;exact PySem.EqNone.ne_none_str (zBj I q (by simp))
  |_=>exact absurd (show false=true from hs) qAd
 |bl i=>
  cases rx
  cases y with
  |non=>cases ry;exact PySem.EqNone.ne_bool_none (zBj I q (by simp))
  |bl j=>cases ry;exact ne_bool (zBj I q (qAl not lU))
  |str j=>obtain⟨t',rfl⟩:=ry;exact PySem.EqMixed.ne_bool_str (zBj I q (by simp))
  |_=>exact absurd (show false=true from hs) qAd
 |int i=>
  obtain⟨t,rfl⟩:=rx
  cases y with
  |non=>cases ry;exact PySem.EqNone.ne_int_none (zBj I q (by simp))
  |int j=>obtain⟨t',rfl⟩:=ry;exact ne_int (zBj I q (qAl not jA))
  |str j=>obtain⟨t',rfl⟩:=ry;exact PySem.EqMixed.ne_int_str (zBj I q (by simp))
  |_=>exact absurd (show false=true from hs) qAd
 |str i=>
  obtain⟨t,rfl⟩:=rx
  cases y with
  |non=>cases ry;exact PySem.EqNone.ne_str_none (zBj I q (by simp))
  |bl j=>cases ry;exact PySem.EqMixed.ne_str_bool (zBj I q (by simp))
  |int j=>obtain⟨t',rfl⟩:=ry;exact PySem.EqMixed.ne_str_int (zBj I q (by simp))
  |str j=>obtain⟨t',rfl⟩:=ry;exact ne_str (zBj I q (qAl not jr))
  |_=>exact absurd (show false=true from hs) qAd
 |byt i=>
  obtain⟨t,rfl⟩:=rx
  cases y with
  |byt j=>obtain⟨t',rfl⟩:=ry;exact PySem.W.ne_bytes (zBj I q (qAl not jv))
  |_=>exact absurd (show false=true from hs) qAd
 |_=>cases y<;>exact absurd (show false=true from hs) qAd
theorem fQ:OpR X (compareOp .Lt) (rI0 λi j=>.bl (decide (i<j))):=tX λ_ _ _ _ _ _ _ q=>lt_int q
theorem rj:OpR X (compareOp .LtE) (rI0 λi j=>.bl (decide (i<=j))):=tX λ_ _ _ _ _ _ _ q=>le_int q
theorem gv:OpR X (compareOp .Gt) (rI0 λi j=>.bl (decide (j<i))):=tX λ_ _ _ _ _ _ _ q=>gt_int q
theorem zAv(b:Expr)(h:op≠.In:=by decide)(h2:op≠.NotIn:=by decide):behindInMarks op b=false:=by
 have e1:(op==CmpOp.In)=false:=by cases op<;>first|rfl|exact absurd rfl h
 have e2:(op==CmpOp.NotIn)=false:=by cases op<;>first|rfl|exact absurd rfl h2
 cases b<;>simp[behindInMarks,e1,e2]
theorem zCs(ho:OpR X (compareOp op) r)(ha:PE X a ta)(hb:PE X b tb)(hm:behindInMarks op b=false):PE X (.Compare a [op] [b] pos) (tOp r ta tb):=by
 intro pins s σ H Q I h;exact wpAny_Compare1 (sJ ha hb I h λv u s2 x y H2 I2 rx ry q=>ho pins s2 σ H2 x y v u Q I2 rx ry q) hm
inductive oo(Q:Bool->Hp->Prop)(x:V)(H':Hp):Prop
 |mk:∀k,x= .bl k->Q k H'->oo Q x H'
def qR(t:TE):TT:=λσ H Q=>t σ H λx H'=>oo Q x H'
theorem zAr(ho:OpR X (compareOp op) r)(ha:PE X a ta)(hb:PE X b tb)(hm:behindInMarks op b=false):PT X (.Compare a [op] [b] pos) (qR (tOp r ta tb)):=by
 intro pins s σ H Q I h
 refine wpAny_isTrue_Compare1 (thn (ha pins s σ H _ I h) λv s1 ⟨x,H1,I1,r1,q1⟩=>thn (hb pins s1 σ H1 _ I1 q1) λu s2 ⟨y,H2,I2,r2,q2⟩=>thn (ho pins s2 σ H2 x y v u _ I2 r1 r2 q2) λc s3 ⟨z,H3,I3,r3,k,e,q3⟩=>?_) hm
 subst e
 cases r3
 exact qBP ⟨H3,I3,q3⟩
def nM(r r':R2)(ta tb tc:TE):TE:=λσ H Q=>ta σ H λx H1=>tb σ H1 λy H2=>r x y H2 λz H3=>∃k,z= .bl k /\
 (if k=true then tc σ H3 λw' H4=>r' y w' H4 Q else Q (.bl false) H3)
theorem nr{op':CmpOp}{r':R2}(ho:OpR X (compareOp op) r)(ho':OpR X (compareOp op') r')(ha:PE X a ta)(hb:PE X b tb)(hc:PE X c tc)
  (hm:lastMarks [op,op'] [b,c]=false:=by with_unfolding_all rfl):PE X (.Compare a [op,op'] [b,c] pos) (nM r r' ta tb tc):=by
 intro pins s σ H Q I h
 refine Compare_chain (thn (ha pins s σ H _ I h) λv s1 ⟨x,H1,I1,r1,q1⟩=>chain_link (thn (hb pins s1 σ H1 _ I1 q1) λu s2 ⟨y,H2,I2,r2,q2⟩=>thn (ho pins s2 σ H2 x y v u _ I2 r1 r2 q2) λd s3 ⟨z,H3,I3,r3,k,e,q3⟩=>?_)) hm
 subst e
 cases r3
 refine qBP ?_
 cases k with
 |false=>exact ite_ff ⟨.bl false,H3,I3,rfl,q3⟩
 |true=>exact ite_tt (chain_last (thn (hc pins s3 σ H3 _ I3 q3) λw' s4 ⟨z',H4,I4,r4,q4⟩=>ho' pins s4 σ H4 y z' u w' Q I4 r2 r4 q4))
theorem lG{op':CmpOp}{r':R2}(ho:OpR X (compareOp op) r)(ho':OpR X (compareOp op') r')(ha:PE X a ta)(hb:PE X b tb)(hc:PE X c tc)
  (hm:lastMarks [op,op'] [b,c]=false:=by with_unfolding_all rfl):PT X (.Compare a [op,op'] [b,c] pos) (qR (nM r r' ta tb tc)):=by
 intro pins s σ H Q I h
 refine isTrue_chain (thn (ha pins s σ H _ I h) λv s1 ⟨x,H1,I1,r1,q1⟩=>test_link (thn (hb pins s1 σ H1 _ I1 q1) λu s2 ⟨y,H2,I2,r2,q2⟩=>thn (ho pins s2 σ H2 x y v u _ I2 r1 r2 q2) λd s3 ⟨z,H3,I3,r3,k,e,q3⟩=>?_)) hm
 subst e
 cases r3
 refine qBP ?_
 cases k with
 |false=>
  obtain⟨k',e',q'⟩:=q3
  cases e'
  exact ite_ff ⟨H3,I3,q'⟩
 |true=>
  refine ite_tt (test_last (thn (hc pins s3 σ H3 _ I3 q3) λw' s4 ⟨z',H4,I4,r4,q4⟩=>thn (ho' pins s4 σ H4 y z' u w' _ I4 r2 r4 q4) λd' s5 ⟨z2,H5,I5,r5,k2,e2,q5⟩=>?_));subst e2
  cases r5
  exact qBP ⟨H5,I5,q5⟩
def sH(K:PySem.W.Frag)(x:V)(H:Hp)(k:Bool):Prop :=
 match x with
 | .non=>k=false
 | .bl b=>k=b
 | .int i=>k=(i != 0)
 | .str y=>y.length<=sizeLine/\k=((y.length:Int) != 0)
 | .byt y=>y.size<=sizeLine/\k=((y.size:Int) != 0)
 | .ref p=>(∃xs,SqL K H p xs/\k= !xs.isEmpty)\/(∃xs,SqT K H p xs/\k= !xs.isEmpty)\/∃kvs,H p=some (.dK kvs)/\k= !kvs.isEmpty
 |_=>False
theorem hU{κ:Type}{kvs:List (κ×V)}{vs:List (κ×Value)}(r:KV kvs vs):(!vs.isEmpty)= !kvs.isEmpty:=by
 cases r<;>rfl
theorem zIy{its:List Value}(r:aj xs its):(!its.toArray.isEmpty)= !xs.isEmpty:=by
 cases r<;>simp
theorem zHx:(sizeLine:Nat)<2^63:=by rw[qAK];decide
theorem rZ:vo X (λx H Q=>∃k,sH X.K x H k/\Q k H):=by
 intro pins s σ H x v Q I rx h;obtain⟨k,e,q⟩:=h;have hl:=zHx;have hs:sizeLine=16777216:=qAK
 cases x with
 |non=>
  cases rx
  have e':k=false:=e;subst e';exact truthy_none ⟨H,I,q⟩
 |bl b=>
  cases rx
  have e':k=b:=e;subst e';exact qBP ⟨H,I,q⟩
 |int i=>
  obtain⟨t,rfl⟩:=rx;have e':k=(i != 0):=e;subst e';exact PySem.P.truthy_int ⟨H,I,q⟩
 |str y=>
  obtain⟨t,rfl⟩:=rx;obtain⟨hy,e'⟩:y.length<=sizeLine/\k=((y.length:Int) != 0):=e;subst e';exact PySem.P.truthy_str (by lia) ⟨H,I.tok _,q⟩
 |byt y=>
  obtain⟨t,rfl⟩:=rx;obtain⟨hy,e'⟩:y.size<=sizeLine/\k=((y.size:Int) != 0):=e;subst e';exact PySem.W.truthy_bytes (by lia) ⟨H,I.tok _,q⟩
 |ref p=>
  cases rx
  have e':(∃xs,SqL X.K H p xs/\k= !xs.isEmpty)\/(∃xs,SqT X.K H p xs/\k= !xs.isEmpty)\/∃kvs,H p=some (.dK kvs)/\k= !kvs.isEmpty:=e;rcases e' with⟨xs,hx,e'⟩|⟨xs,hx,e'⟩|⟨kvs,hx,e'⟩
  .subst e';obtain⟨its,r,pl,hz⟩:=I.list hx;have hlen:=r.length;exact wpAny_truthy_list pl.isList (by simp only[qAS];lia) ⟨H,I.tok _,by rw[zIy r];exact q⟩
  .subst e';obtain⟨its,r,pl,hz⟩:=I.tuple hx;have hlen:=r.length;exact truthy_tuple pl (by simp only[qAS];lia) ⟨H,I.tok _,by rw[zIy r];exact q⟩
  .subst e';obtain⟨hz,hS,vs,r,m⟩:kvs.length<=sizeLine/\(p==sysModules)=false/\∃vs,KV kvs vs/\s.heap.DictOf (zB5 X.prog X.w) p vs:=I.hok p _ hx;have hlen:kvs.length=vs.length:=qCD r;exact wpAny_truthy_dict hS m (by lia) ⟨H,I.tok _,by rw[hU r];exact q⟩
 |_=>exact(show False from e).elim
theorem zG6(ha:PE X a ta)(he:∀whole,isTrue a X.env whole=(do let v<-whole;standAt a.pos;holding [v] (truthy v))) :
  PT X a (λσ H Q=>ta σ H λx H'=>∃k,sH X.K x H' k/\Q k H'):=by
 intro pins s σ H Q I h;exact isTrue_plain (thn (ha pins s σ H _ I h) λv s1 ⟨x,H1,I1,r1,q1⟩=>rZ pins s1 σ H1 x v Q I1 r1 q1) (he _)
theorem gP:OpR X (binaryOp .Add) (λx y H Q=>∃i j,x= .str i/\y= .str j/\i.length+j.length<=sizeLine/\Q (.str (i++j)) H):=by
 intro pins s σ H x y v u Q I rx ry h;obtain⟨i,j,rfl,rfl,hz,q⟩:=h;obtain⟨t,rfl⟩:=rx;obtain⟨t',rfl⟩:=ry;exact add_str (λt' tk=>⟨.str (i++j),H,I.tok _,⟨_,rfl⟩,q⟩) hz
theorem zI5{x:V}(r:aj [x] us):∃u,us=[u]/\am x u:=by
 cases r with
 |cons r1 r2=>cases r2;exact⟨_,rfl,r1⟩
theorem uP{x:V}(r:aj [x,y] us):∃u w',us=[u,w']/\am x u/\am y w':=by
 cases r with
 |cons r1 r2=>
  cases r2 with
  |cons r3 r4=>cases r4;exact⟨_,_,rfl,r1,r3⟩
theorem fP:zCz X (.builtin "abs") (λxs H Q=>∃i,xs=[.int i]/\Q (.int (if i<0 then -i else i)) H):=by
 intro pins s σ H xs us Q I r h;obtain⟨i,rfl,q⟩:=h;obtain⟨u,rfl,t,rfl⟩:=zI5 r;exact call_abs_int λu tk=>⟨.int (if i<0 then -i else i),H,I.tok _,⟨_,rfl⟩,q⟩
theorem km(hc:X.calm=true):zCz X (.builtin "max") (λxs H Q=>∃i j,xs=[.int i,.int j]/\Q (.int (if j>i then j else i)) H):=by
 intro pins s σ H xs us Q I r h;obtain⟨i,j,rfl,q⟩:=h;obtain⟨u,w',rfl,⟨t,rfl⟩,⟨t',rfl⟩⟩:=uP r;refine max_two_ints (I.ok.hd hc) λh' tk k=>⟨_,H,I.kept k,?_,q⟩
 by_cases hj:j>i
 .rw [qAC hj,qAC hj];exact⟨_,rfl⟩
 .rw [qAB hj,qAB hj];exact⟨_,rfl⟩
theorem zEz:zCz X (.type "int") (λxs H Q=>(∃i,xs=[.int i]/\Q (.int i) H)\/∃k,xs=[.bl k]/\Q (.int (if k then 1 else 0)) H):=by
 intro pins s σ H xs us Q I r h;rcases h with⟨i,rfl,q⟩|⟨k,rfl,q⟩
 .obtain ⟨u,rfl,t,rfl⟩:=zI5 r;exact call_int_int ⟨.int i,H,I,⟨_,rfl⟩,q⟩
 .obtain ⟨u,rfl,r1⟩:=zI5 r
  cases r1
  exact call_int_bool ⟨.int (if k then 1 else 0),H,I.tok _,⟨_,rfl⟩,q⟩
end
structure gS(h:Heap)(x dx C:Addr)(mA:Str->Option Value):Prop where
 obj:h.get? x=some (PySem.W.instObj C dx)
 ns:h.Ns1 dx mA
 ne:dx≠x
theorem j_{dx:Addr}{mA:Str->Option Value}(n:h.Ns1 dx mA):∃od,h.get? dx=some od/\∀name,PySem.W.lookIn name od=some (mA name):=by
 obtain⟨o,es,ep,ho,hd,hk,_,hm⟩:=n;refine⟨o,ho,λname=>?_⟩;have e:=hm name;unfold nsFind findBy at e;rw[<-Array.find?_toList]at e;unfold PySem.W.lookIn;rw[hd];dsimp only;split
 .rename_i y q;rw[q]at e;exact qAl some e
 .rename_i q;rw[q]at e
  have a:es.toList.any (·.refKey)=false:=by
   rw[List.any_eq_false];intro y hy;obtain⟨z,t,hkey⟩:=hk y (qDC.mp hy);simp[DictEntry.refKey,hkey]
  have a':¬es.toList.any (·.refKey)=true:=by rw[a];exact qAd
  rw[qAB a'];exact qAl some e
theorem gS.look{x dx:Addr}{mA:Str->Option Value}(I:gS h x dx C mA):∃od,PySem.W.InstAt h x (PySem.W.instObj C dx) C (some od)/\∀name,PySem.W.lookIn name od=some (mA name) :=
 let⟨od,ho,hl⟩:=j_ I.ns
 ⟨od,⟨I.obj,rfl,rfl,ho⟩,hl⟩
section
variable{prog:Program}{w:World}{A:Around}{E:Value->Shared->Prop}{s:Shared}{K:PySem.W.Frag}{x dx C f:Addr}{mA:Str->Option Value}{name:Str}{v:Value}
theorem pi{expr:Bool}{Q:Value->Shared->Prop}(X:K.In s.heap)(I:gS s.heap x dx C mA)(hg:PySem.W.plainGet K C name=true)(hh:PySem.W.hasDictIn K C=true)
  (ha:PySem.W.findIn K (.ref C) name=some none) (hv:mA name=some v) (hv':PySem.W.handedIn v=true) (h:Q v {s with toks:=s.toks+1}) :
  wpAny (model prog w) A (getAttr (.ref x) name expr) Q E s:=by
 obtain⟨od,J,hl⟩:=I.look;exact PySem.W.get_value X J (PySem.W.plainGet_of hg).1 (PySem.W.findObj_own hh ha rfl (by rw[hl,hv])) hv' h
theorem mM{pl:Sem Bool}{Q:Value×List Value->Shared->Prop}(X:K.In s.heap)(I:gS s.heap x dx C mA)(hg:PySem.W.plainGet K C name=true)
  (hf:PySem.W.findIn K (.ref C) name=some (some (.ref f))) (ht:PySem.W.isFn K (.ref f)=true) (hv:mA name=none) (h:Q (.ref f,[.ref x]) s) :
  wpAny (model prog w) A (getMethod (.ref x) name pl) Q E s:=by
 obtain⟨od,J,hl⟩:=I.look;exact PySem.W.method_fn X J (PySem.W.plainGet_of hg).1 (PySem.W.plainGet_of hg).2 hf (qBQ.mp ht) (by show(PySem.W.lookIn name od).map (·.isSome)=some false;rw[hl,hv];rfl) h
theorem pf{ns:List Str}{Q:Unit->Shared->Prop}(X:K.In s.heap)(I:gS s.heap x dx C mA)
  (hs:PySem.W.findIn K (.ref C) "__setattr__"=some (some (.builtin "object.__setattr__"))) (hp:PySem.W.plainOver K C=true) (ht:PySem.W.takerIn K C name=some none) (hh:PySem.W.hasDictIn K C=true)
  (hw:PySem.Within mA ns) (hsz:ns.length<=sizeLine)
  (h:∀h',gS h' x dx C (λy=>if y=name then some v else mA y)->Heap.SameBut dx s.heap h'->Q () {s with heap:=h',toks:=s.toks+2}) :
  wpAny (model prog w) A (setAttr (.ref x) name v) Q E s:=by
 obtain⟨od,J,hl⟩:=I.look;refine PySem.W.set_plain X J hs (PySem.W.osa_open (s:={s with toks:=s.toks+1}) (r:=none) X J hp ht λb=>?_);obtain⟨cd,hc,hd'⟩:=PySem.W.any_some hh;have hx:s.heap.get? x=some ⟨.ref C,some dx,.plain,#[]⟩:=I.obj;refine qAA (qAE (qAA (qAA (wpAny_loadPart hx (qAA (PySem.W.Looks.here (s:={s with toks:=s.toks+1}) (PySem.W.looks_clsIn X hc) ?_))))));rw[hd'];refine qAE (a:=some dx) (qAA (qAE (qAA ?_)));refine wpAny_nsSet1 (s:={s with toks:=s.toks+1}) I.ns λh' hn2 hs2=>?_;obtain⟨oD,esD,epD,hoD,hdD,hcD⟩:=hn2.count (PySem.Within.cons name v hw);refine qAA (wpAny_lookBehind hoD (by rw[hdD];exact pastItsLine_dict (qAW hcD (by rw[qAa];lia))) ?_);exact qAE (h _ ⟨(hs2.2 _ (qAh I.ne)).trans I.obj,hn2,I.ne⟩ hs2)
theorem nu{R:Result->Shared->Prop}{vs:List Value}{kw:List (Str×Value)}(X:K.In s.heap)(hm:PySem.W.makesIn K C=true)
  (hi:PySem.W.findIn K (.ref C) "__init__"=some (some (.ref f))) (hf:PySem.W.typeIn K (.ref f)=some (.type "function"))
  (h:codeAny (model prog w) (A.under (.builtin "type.__call__" ⟨.ref C::vs,kw⟩)) (.call (.ref f) ⟨.ref (s.heap.objs.size+1)::vs,kw⟩) (PySem.W.InitBack (s.heap.objs.size+1) R)
   {s with heap:=(s.heap.push PySem.W.emptyDict).push (PySem.W.instObj C s.heap.objs.size)}) :
  codeAny (model prog w) A (.call (.ref C) ⟨vs,kw⟩) R s:=by
 obtain⟨hh,g,d,t,os⟩:=s;exact PySem.W.make_core (PySem.W.makes_of X hm) (PySem.W.looks_findIn X hi) (λself=>PySem.W.bind_fn X self hf) (.inl rfl) h
end
def aE(f:Str)(v:V):List (Str×V)->List (Str×V)
 |[]=>[(f,v)]
 |(g,x)::r=>if g=f then(g,v)::r else(g,x)::aE f v r
theorem zA6(f g:Str)(v:V):∀fs:List (Str×V),(aE f v fs).lookup g=if g=f then some v else fs.lookup g
 |[]=>by
  show List.lookup g [(f,v)]=_
  by_cases h:g=f
  .have hb:(g==f)=true:=qBQ.mpr h;simp only[List.lookup,hb,qAC h]
  .have hb:(g==f)=false:=qBG.mpr h;simp only[List.lookup,hb,qAB h]
 |(k,x)::r=>by
  have ih:=zA6 f g v r;rw[show aE f v ((k,x)::r)=(if k=f then(k,v)::r else(k,x)::aE f v r)from rfl]
  by_cases hk:k=f
  .rw [qAC hk]
   by_cases h:g=k
   .have hb:(g==k)=true:=qBQ.mpr h;simp only[List.lookup,hb,qAC (h.trans hk)]
   .have hb:(g==k)=false:=qBG.mpr h;simp only[List.lookup,hb,qAB (λe:g=f=>h (e.trans hk.symm))]
  .rw [qAB hk]
   by_cases h:g=k
   .have hb:(g==k)=true:=qBQ.mpr h;simp only[List.lookup,hb,qAB (λe:g=f=>hk (h.symm.trans e))]
   .have hb:(g==k)=false:=qBG.mpr h;simp only[List.lookup,hb];exact ih
theorem zH1(f:Str)(v:V):∀fs:List (Str×V),f∈(aE f v fs).map (·.1)/\∀g,g∈fs.map (·.1)->g∈(aE f v fs).map (·.1)
 |[]=>⟨by simp[aE],λg h=>by simp at h⟩
 |(k,x)::r=>by
  obtain⟨i1,i2⟩:=zH1 f v r;rw[show aE f v ((k,x)::r)=(if k=f then(k,v)::r else(k,x)::aE f v r)from rfl]
  by_cases hk:k=f
  .rw [qAC hk];subst hk;exact⟨by simp,λg h=>by simpa using h⟩
  .rw [qAB hk];refine⟨?_,λg h=>?_⟩
   .rw [qAt];exact qAX _ i1
   .rw [qAt]at h ⊢;rcases qAT.mp h with e|e
    .exact qAT.mpr (.inl e)
    .exact qAX _ (i2 g e)
theorem zHy(f:Str)(v:V):∀fs:List (Str×V),(aE f v fs).length<=fs.length+1
 |[]=>by simp[aE]
 |(k,x)::r=>by
  have ih:=zHy f v r;rw[show aE f v ((k,x)::r)=(if k=f then(k,v)::r else(k,x)::aE f v r)from rfl]
  by_cases hk:k=f
  .rw [qAC hk,qAa,qAa];lia
  .rw [qAB hk,qAa,qAa];lia
theorem bj.some_of{v:V}{o:Option Value}(r:bj (some v) o):∃u,o=some u/\am v u:=by
 cases o with
 |none=>exact(show False from r).elim
 |some u=>exact⟨u,rfl,r⟩
theorem bj.none_of{o:Option Value}(r:bj none o):o=none:=by
 cases o with
 |none=>rfl
 |some u=>exact(show False from r).elim
theorem j9(r:am v u):PySem.W.handedIn u=true:=by
 cases v with
 |non=>cases (show u=Value.none from r);rfl
 |bl b=>cases (show u=Value.bool b from r);rfl
 |int i=>obtain⟨t,e⟩:=(show∃t,u=Value.int i t from r);cases e;rfl
 |str x=>obtain⟨t,e⟩:=(show∃t,u=Value.str x t from r);cases e;rfl
 |byt b=>obtain⟨t,e⟩:=(show∃t,u=Value.bytes b t from r);cases e;rfl
 |flt b=>obtain⟨t,e⟩:=(show∃t,u=Value.float b t from r);cases e;rfl
 |ref a=>cases (show u=Value.ref a from r);rfl
 |ty n=>cases (show u=Value.type n from r);rfl
section
variable{P:Program}{w:World}{H H':Hp}{h h':Heap}{a C dx:Addr}{fs fs':List (Str×V)}
theorem zGl(hok:HOk P w H h)(e:H a=some (.ins C dx fs)):∃mA,gS h a dx C mA/\(∀f,bj (fs.lookup f) (mA f))/\PySem.Within mA (fs.map (·.1))/\fs.length<=1000/\H dx=some (.own a):=by
 obtain⟨d,z,ne,ob,mA,n,r,q⟩:=(show zBq P w H h a (.ins C dx fs)from hok a _ e);exact⟨mA,⟨ob,n,ne⟩,r,q,z,d⟩
end
structure Cls(K:PySem.W.Frag)(C:Addr):Prop where
 pg:PySem.W.plainGet K C Str.empty=true
 hd:PySem.W.hasDictIn K C=true
 po:PySem.W.plainOver K C=true
 sa:PySem.W.findIn K (.ref C) "__setattr__"=some (some (.builtin "object.__setattr__"))
theorem Cls.get(c:Cls K C)(f:Str):PySem.W.plainGet K C f=true:=c.pg
def zGc(K:PySem.W.Frag)(C:Addr)(f:Str):Prop:=PySem.W.findIn K (.ref C) f=some none
theorem zGc.taker{f:Str}(n:zGc K C f):PySem.W.takerIn K C f=some none:=by
 unfold PySem.W.takerIn;rw[show PySem.W.findIn K (.ref C) f=some none from n];rfl
structure px(K:PySem.W.Frag)(C:Addr)(m:Str)(f:Addr):Prop where
 at_:PySem.W.findIn K (.ref C) m=some (some (.ref f))
 fn:PySem.W.isFn K (.ref f)=true
 kp:PySem.W.keepIn K (.ref f)=true
section
variable{X:Cx}{pins:List (Addr×Obj)}{σ:St}{H:Hp}{s:Shared}{a C dx:Addr}{fs:List (Str×V)}{f:Str}{v:V}{A:Around}{E:Value->Shared->Prop}
theorem iT{b:Bool}{Q:Value->Shared->Prop}(I:Inv X pins σ H s)(e:H a=some (.ins C dx fs))(c:Cls X.K C)(n:zGc X.K C f)(l:fs.lookup f=some v)
  (h:∀u s',Inv X pins σ H s'->am v u->Q u s'):wpAny (model X.prog X.w) A (getAttr (.ref a) f b) Q E s:=by
 obtain⟨mA,O,r,_,_,_⟩:=zGl I.hok e;obtain⟨u,hu,ru⟩:=bj.some_of (v:=v) (o:=mA f) (by rw[<-l];exact r f);exact pi I.kIn O (c.get f) c.hd n hu (j9 ru) (h u _ (I.tok _) ru)
theorem zI0{m:Str}{g:Addr}{pl:Sem Bool}{Q:Value×List Value->Shared->Prop}(I:Inv X pins σ H s)(e:H a=some (.ins C dx fs))(c:Cls X.K C)(k:px X.K C m g)(l:fs.lookup m=none)
  (h:Q (.ref g,[.ref a]) s):wpAny (model X.prog X.w) A (getMethod (.ref a) m pl) Q E s:=by
 obtain⟨mA,O,r,_,_,_⟩:=zGl I.hok e;have hn:mA m=none:=bj.none_of (by rw[<-l];exact r m);exact mM I.kIn O (c.get m) k.at_ k.fn hn h
theorem iR{Q:Unit->Shared->Prop}(I:Inv X pins σ H s)(e:H a=some (.ins C dx fs))(c:Cls X.K C)(n:zGc X.K C f)(hl:fs.length<1000)(ry:am y u)
  (h:∀s',Inv X pins σ (upd H a (.ins C dx (aE f y fs))) s'->Q () s'):wpAny (model X.prog X.w) A (setAttr (.ref a) f u) Q E s:=by
 obtain⟨mA,O,r,wi,_,ho⟩:=zGl I.hok e;have hz:(fs.map (·.1)).length<=sizeLine:=by rw[qAD,qAK];lia
 refine pf I.kIn O c.sa c.po n.taker c.hd wi hz λh' O' sb=>h _ ?_;have hd:∃o,h'.get? dx=some o:=let⟨o,_,_,e',_⟩:=O'.ns;⟨o,e'⟩;refine I.write (x:=a) (e:=dx) (by rw[e];exact True.intro) (.inr ho) (λb q hb z=>(sb.2 b hb).trans z) hd ?_;refine⟨by rw[ad O.ne];exact ho,?_,O.ne,O'.obj,_,O'.ns,λg=>?_,λg hg=>?_⟩
 .have:=zHy f y fs;lia
 .show bj ((aE f y fs).lookup g) (if g=f then some u else mA g);rw[zA6]
  by_cases q:g=f
  .rw [qAC q,qAC q];exact ry
  .rw [qAB q,qAB q];exact r g
 .by_cases q:g=f
  .rw [q];exact(zH1 f y fs).1
  .refine (zH1 f y fs).2 g (wi g λz=>hg ?_);show(if g=f then some u else mA g)=none;rw[qAB q];exact z
theorem Inv.made(I:Inv X pins σ H s):Inv X pins σ (upd (upd H s.heap.objs.size (.own (s.heap.objs.size+1))) (s.heap.objs.size+1) (.ins C s.heap.objs.size []))
  {s with heap:=(s.heap.push PySem.W.emptyDict).push (PySem.W.instObj C s.heap.objs.size)}:=by
 have e1:(s.heap.push PySem.W.emptyDict).get? s.heap.objs.size=some PySem.W.emptyDict:=qAk s.heap rfl
 have e2:((s.heap.push PySem.W.emptyDict).push (PySem.W.instObj C s.heap.objs.size)).get? (s.heap.objs.size+1)=some (PySem.W.instObj C s.heap.objs.size):=by
  have:=qAk (s.heap.push PySem.W.emptyDict) (o:=PySem.W.instObj C s.heap.objs.size) rfl
  rwa [qBR]at this
 have e3:(s.heap.push PySem.W.emptyDict).Ns s.heap.objs.size (λ_=>none):=⟨PySem.W.emptyDict,#[],_,e1,rfl,(λe he=>absurd he (by simp)),λ_=>rfl⟩;have I1:=I.laid (a:=s.heap.objs.size) (o:=.own (s.heap.objs.size+1)) (h':=s.heap.push PySem.W.emptyDict) (t':=s.toks) (λb u q=>qAM _ q) (qAG _) ⟨_,e1⟩;refine I1.laid (a:=s.heap.objs.size+1) (o:=.ins C s.heap.objs.size []) (t':=s.toks) (λb u q=>qAM _ q) (qCU (qBR _ _)) ?_;have ne:s.heap.objs.size≠s.heap.objs.size+1:=qAQ (qCV _);refine⟨by rw[ad ne,ac],qAi _,ne,e2,λ_=>none,(Heap.Ns1.of_empty e3).at λo q=>qAM _ q,λ_=>True.intro,λy hy=>absurd rfl hy⟩
theorem qh{prog:Program}{env:Env}{f:Str}{Q:Value->Shared->Prop}(hb:attributeBase e f env (eval e env)=eval e env)
  (h:wpAny (model prog w) A (eval e env) (λo s₁=>wpAny (model prog w) A (getAttr o f true) Q E s₁) E s):wpAny (model prog w) A (eval (.Attribute e f pos) env) Q E s :=
 Attribute_any_ h (by rw[arm_eval_Attribute,hb])
end
inductive rf(K:PySem.W.Frag)(f:Str)(Q:VK)(x:V)(H1:Hp):Prop
 |mk:∀a C dx fs v,x= .ref a->H1 a=some (.ins C dx fs)->Cls K C->zGc K C f->fs.lookup f=some v->Q v H1->rf K f Q x H1
def vA(K:PySem.W.Frag)(ta:TE)(f:Str):TE:=λσ H Q=>ta σ H λx H1=>rf K f Q x H1
inductive rh(K:PySem.W.Frag)(f:Str)(D:a_)(σ:St)(y:V)(x:V)(H2:Hp):Prop
 |mk:∀a C dx fs,x= .ref a->H2 a=some (.ins C dx fs)->Cls K C->zGc K C f->fs.length<1000->D.nx σ (upd H2 a (.ins C dx (aE f y fs)))->rh K f D σ y x H2
def vC(K:PySem.W.Frag)(ta tv:TE)(f:Str):TS:=λD σ H=>tv σ H λy H1=>ta σ H1 λx H2=>rh K f D σ y x H2
section
variable{X:Cx}{o e value:Expr}{f:Str}{pos pos' tpos:Pos}{ta tv:TE}
theorem zHo(he:PE X e ta)(hb:attributeBase e f X.env (eval e X.env)=eval e X.env):PE X (.Attribute e f pos) (vA X.K ta f):=by
 intro pins s σ H Q I h;refine qh hb (thn (he pins s σ H _ I h) λu s1 ⟨x,H1,I1,rx,a,C,dx,fs,v,ex,ea,c,n,l,q⟩=>?_);subst ex;obtain rfl:u=Value.ref a:=rx;exact iT I1 ea c n l λu' s2 I2 ru=>⟨v,H1,I2,ru,q⟩
theorem iQ(ha:PE X o ta)(hv:PE X value tv)(hs:swapsWith value (some (.Attribute o f pos')) pos.line X.env=pure false):PS X (.Assign [.Attribute o f pos'] value pos) (vC X.K ta tv f):=by
 intro pins s σ H D I h;refine plainObj_wpAny_Assign_Attribute (thn (hv pins s σ H _ I h) λu s1 ⟨y,H1,I1,ry,q⟩=>thn (ha pins s1 σ H1 _ I1 q) λov s2 ⟨x,H2,I2,rx,a,C,dx,fs,ex,ea,c,n,l,q2⟩=>?_) hs;subst ex;obtain rfl:ov=Value.ref a:=rx;exact iR I2 ea c n l ry λs3 I3=>⟨σ,_,I3,q2⟩
end
section
variable{X:Cx}{pins:List (Addr×Obj)}{σ:St}{H:Hp}{s:Shared}{A:Around}{E:Value->Shared->Prop}{Q:Value->Shared->Prop}{c:Value}{b:Bool}
inductive ao(K:PySem.W.Frag)(H:Hp):V->Value->Prop where
 |non:ao K H .non (.type "NoneType")
 |bl (x:Bool):ao K H (.bl x) (.type "bool")
 |int (i:Int):ao K H (.int i) (.type "int")
 |str (x:Str):ao K H (.str x) (.type "str")
 |flt (x:UInt64):ao K H (.flt x) (.type "float")
 |lst {a:Addr} {xs:List V} (e:H a=some (.lst xs)):ao K H (.ref a) (.type "list")
 |frz {a:Addr} {o:Obj} {xs:List V} (e:H a=some (.frz o (.lst xs))):ao K H (.ref a) (.type "list")
 |tup {a:Addr} {xs:List V} (e:H a=some (.tup xs)):ao K H (.ref a) (.type "tuple")
 |dK {a:Addr} {kvs:List (Key×V)} (e:H a=some (.dK kvs)):ao K H (.ref a) (.type "dict")
 |dT {a:Addr} {kvs:List (List Key×V)} (e:H a=some (.dT kvs)):ao K H (.ref a) (.type "dict")
 |ins {a C dx:Addr} {fs:List (Str×V)} (e:H a=some (.ins C dx fs)) (cl:Cls K C) (ha:PySem.W.findIn K (.ref C) "__class__"=some (some (.builtin "object.__class__")))
   (hn:PySem.W.specialIn K (.builtin "object.__class__") "__get__"=some (some (.builtin "getset_descriptor.__get__"))) (htk:PySem.W.takesIn K (.builtin "object.__class__")=some true)
   (hm:PySem.W.mroIn K C (.type "object")=some true):ao K H (.ref a) (.ref C)
theorem lg{x:V}{t:Value}(I:Inv X pins σ H s)(rx:am x u)(ty:ao X.K H x t)(e:PySem.W.kitOne X.K t c=some b)(h:∀tk,Q (.bool b) {s with toks:=tk}) :
  wpAny (model X.prog X.w) A (call (.builtin "isinstance") [u,c]) Q E s:=by
 cases ty with
 |non=>cases (show u=Value.none from rx);exact qA8 PySem.W.kitx_none I.kIn True.intro e (λz=>nomatch z) h
 |bl y=>cases (show u=Value.bool y from rx);exact qA8 PySem.W.kitx_bool I.kIn True.intro e (λz=>nomatch z) h
 |int i=>obtain⟨t,q⟩:=(show∃t,u=Value.int i t from rx);cases q;exact qA8 PySem.W.kitx_int I.kIn True.intro e (λz=>nomatch z) h
 |str y=>obtain⟨t,q⟩:=(show∃t,u=Value.str y t from rx);cases q;exact qA8 PySem.W.kitx_str I.kIn True.intro e (λz=>nomatch z) h
 |flt y=>obtain⟨t,q⟩:=(show∃t,u=Value.float y t from rx);cases q;exact qA8 PySem.W.kitx_float I.kIn True.intro e (λz=>nomatch z) h
 |@lst a xs ea=>
  cases (show u=Value.ref a from rx)
  obtain⟨_,_,n,_,h1⟩:=(show zBq X.prog X.w H s.heap a (.lst xs)from I.hok a _ ea);exact qA8 PySem.W.kitx_list I.kIn ⟨_,h1,rfl⟩ e (λz=>nomatch z) h
 |@frz a ob xs ea=>
  cases (show u=Value.ref a from rx)
  obtain⟨_,_,_,n,_,h1⟩:=(show zBq X.prog X.w H s.heap a (.frz ob (.lst xs))from I.hok a _ ea);exact qA8 PySem.W.kitx_list I.kIn ⟨_,h1,rfl⟩ e (λz=>nomatch z) h
 |@tup a xs ea=>
  cases (show u=Value.ref a from rx)
  obtain⟨_,_,_,p⟩:=(show zBq X.prog X.w H s.heap a (.tup xs)from I.hok a _ ea);obtain⟨o,h1,h2,_⟩:=p;exact qA8 PySem.W.kitx_tuple I.kIn ⟨o,h1,h2⟩ e (λz=>nomatch z) h
 |@dK a kvs ea=>
  cases (show u=Value.ref a from rx)
  obtain⟨_,_,vs,_,p⟩:=(show zBq X.prog X.w H s.heap a (.dK kvs)from I.hok a _ ea);obtain⟨o,es,ep,h1,h2,_⟩:=p;exact qA8 PySem.W.kitx_dict I.kIn ⟨o,h1,h2.1⟩ e (λz=>nomatch z) h
 |@dT a kvs ea=>
  cases (show u=Value.ref a from rx)
  obtain⟨_,_,xs,_,o,es,ep,h1,h2,_⟩:=(show zBq X.prog X.w H s.heap a (.dT kvs)from I.hok a _ ea);exact qA8 PySem.W.kitx_dict I.kIn ⟨o,h1,h2.1⟩ e (λz=>nomatch z) h
 |@ins a C dx fs ea cl ha hn htk hm=>
  cases (show u=Value.ref a from rx)
  obtain⟨mA,O,_⟩:=zGl I.hok ea;obtain⟨od,J,_⟩:=O.look;exact qA8 (PySem.W.kitx_own (cl.get _) cl.hd ha hn htk hm) I.kIn J e (λz=>nomatch z) h
end
structure aB(k:Nat)(A:Around):Prop where
 hd:A.handled=none
 dp:A.depth+3*k+5<recursionLimit
 un:A.units+16*k+200<cLine
 gd:A.guards=some []
theorem aB.mono{j k:Nat}(r:aB k A)(h:j<=k):aB j A:=⟨r.hd,by have:=r.dp;lia,by have:=r.un;lia,r.gd⟩
theorem aB.deeper{k:Nat}(r:aB (k+1) A)(env:Env):aB k (A.deeper env) :=
 ⟨r.hd,by have:=r.dp;show A.depth+1+3*k+5<_;lia,by have:=r.un;show A.units+3+16*k+200<_;lia,r.gd⟩
theorem ij{kw:List (Str×Value)}:(A.under (.builtin "type.__call__" ⟨.ref C::us,kw⟩)).depth=A.depth+1:=by
 first|rfl|simp[Around.under,Code.weight,Code.isCreation,Code.isGuard,Code.isCaller,Code.frames,Code.isFrame,guardIds]
theorem gR{kw:List (Str×Value)}:(A.under (.builtin "type.__call__" ⟨.ref C::us,kw⟩)).units=A.units+1:=by
 first|rfl|simp[Around.under,Code.cUnits,Code.frames,Code.isFrame]
theorem aB.make{k:Nat}(r:aB (k+1) A)(C:Addr)(us:List Value)(kw:List (Str×Value)):aB k (A.under (.builtin "type.__call__" ⟨.ref C::us,kw⟩)) :=
 ⟨r.hd,by have:=r.dp;rw[ij];lia,by have:=r.un;rw[gR];lia,(by unfold Around.under;dsimp only;rw[r.gd];rfl)⟩
theorem aB.depth{k:Nat}(r:aB k A):A.depth<recursionLimit:=by have:=r.dp;lia
theorem aB.units{k:Nat}(r:aB k A):A.units+64<cLine:=by have:=r.un;lia
def cz:TA:=λ_ H Q=>Q [] H
def zIf(ta:TE)(tr:TA):TA:=λσ H Q=>ta σ H λx H1=>tr σ H1 λxs H2=>Q (x::xs) H2
section
variable{X:Cx}{e:Expr}{es:List Expr}{te:TE}{t:TA}{pos:Pos}
theorem zAb:PA X [] cz:=λ_ _ _ _ H Q I h=>Calls.spliced_nil ⟨[],H,I,.nil,h⟩
theorem zAa(ha:PE X e te)(hr:PA X es t)(hs:starEach (e::es) X.env=(false,eval e X.env)::starEach es X.env:=by rfl):PA X (e::es) (zIf te t):=by
 intro pos pins s σ H Q I h;rw[hs];show wpAny _ _ (spliced ((false,eval e X.env)::backTo pos (starEach es X.env))) _ _ s;refine Calls.spliced_cons (thn (ha pins s σ H _ I h) λu s1 ⟨x,H1,I1,r1,q1⟩=>?_);exact thn (hr pos pins s1 σ H1 _ I1 q1) λus s2 ⟨xs,H2,I2,r2,q2⟩=>⟨x::xs,H2,I2,.cons r1 r2,q2⟩
def cC(t:TA):TE:=λσ H Q=>t σ H λxs H1=>xs.length<=sizeLine/\∀p,H1 p=none->Q (.ref p) (upd H1 p (.tup xs))
def bI(t:TA):TE:=λσ H Q=>t σ H λxs H1=>xs.length<=sizeLine/\∀p,H1 p=none->Q (.ref p) (upd H1 p (.lst xs))
theorem zCa{x1}(h:PA X es t):PE X (.Tuple es x1 pos) (cC t):=by
 intro pins s σ H Q I hq;refine wpAny_Tuple_spliced (thn (h pos pins s σ H _ I hq) λus s1 ⟨xs,H1,I1,r,z,q⟩=>⟨by rw[<-r.length];exact z,?_⟩);have hf:H1 s1.heap.objs.size=none:=I1.hok.fresh (qAG _);refine⟨.ref s1.heap.objs.size,upd H1 s1.heap.objs.size (.tup xs),I1.laid (t':=s1.toks) (λb u e=>qAM _ e) (qAG _) ?_,rfl,q _ hf⟩;exact⟨z,us,r,⟨_,qAk _ rfl,rfl,_,rfl⟩⟩
theorem zAj(h:PA X es t):PE X (.List es pos) (bI t):=by
 intro pins s σ H Q I hq;refine wpAny_List_spliced (thn (h pos pins s σ H _ I hq) λus s1 ⟨xs,H1,I1,r,z,q⟩=>⟨by rw[<-r.length];exact z,?_⟩);have hf:H1 s1.heap.objs.size=none:=I1.hok.fresh (qAG _);refine⟨.ref s1.heap.objs.size,upd H1 s1.heap.objs.size (.lst xs),I1.laid (t':=s1.toks) (λb u e=>qAM _ e) (qAG _) ?_,rfl,q _ hf⟩;exact⟨z,us,0,r,qAk _ rfl⟩
end
abbrev Sp:=List V->Hp->VK->XK->Prop
abbrev CXT:=List Env->Hp->Shared->XK->Value->Shared->Prop
structure f_(P:Program)(w:World)(K:PySem.W.Frag)(mg:Str->Option Value)(base:Heap)(A:Around)(outer:List Env)(s:Shared)(H:Hp):Prop where
 frames:A.frames=some outer
 mod:Mod K mg base
 bs:∀b o,base.get? b=some o->s.heap.get? b=some o/\H b=none
 bsz:base.objs.size<=s.heap.objs.size
 funs:s.heap.FunFrames base outer
 frf:∀b∈frs outer,H b=none
 hok:HOk P w H s.heap
 bare:AllBare s.gens
def CE(outer:List Env)(P:Program)(w:World)(H:Hp)(s:Shared)(Q:VK)(u:Value)(s':Shared):Prop :=
 ∃v H',s'.os=s.os/\AllBare s'.gens/\Un (frs outer) [] H H' s.heap s'.heap/\HOk P w H' s'.heap/\am v u/\Q v H'
def CR(CX:CXT)(outer:List Env)(P:Program)(w:World)(H:Hp)(s:Shared)(Q:VK)(E:XK)(r:Result)(s':Shared):Prop :=
 match r with
 | .ok (.ret u)=>CE outer P w H s Q u s'
 | .ok _=>False
 | .error e=>CX outer H s E e s'
structure ak(P:Program)(w:World)(K:PySem.W.Frag)(mg:Str->Option Value)(base:Heap)(CX:CXT)(k:Nat)(f:Addr)(fd:FuncData)(ps:List Str)(sp:Sp):Prop where
 len:∀vs H Q E,sp vs H Q E->vs.length=ps.length
 run:∀(A:Around)(outer:List Env)(s:Shared)(H:Hp)(args:Args)(us:List Value)(vs:List V)(Q:VK)(E:XK),aB k A->f_ P w K mg base A outer s H->BindsTo s fd args (ps.zip us)->aj vs us->sp vs H Q E ->
  codeAny (model P w) A (.call (.ref f) args) (CR CX outer P w H s Q E) s
theorem f_.make{mg:Str->Option Value}{outer:List Env}(e:f_ P w K mg base A outer s H)(C:Addr)(us:List Value)(kw:List (Str×Value)) :
  f_ P w K mg base (A.under (.builtin "type.__call__" ⟨.ref C::us,kw⟩)) outer s H:=⟨by first|exact e.frames|(simpa[Around.under,Code.envs,Code.isFrame,pushEnvs]using e.frames),e.mod,e.bs,e.bsz,e.funs,e.frf,e.hok,e.bare⟩
section
variable{X:Cx}{pins:List (Addr×Obj)}{σ:St}{H:Hp}{s s':Shared}
theorem Inv.env0(I:Inv X pins σ H s):f_ X.prog X.w X.K X.mg X.base X.A X.stack s H :=
 ⟨I.ok.frames,I.ok.mod,I.bs,qAW I.ok.bsz I.sz,I.stack,I.stkFree,I.hok,I.bare⟩
theorem Inv.after{Q:VK}(I:Inv X pins σ H s)(h:CE X.stack X.prog X.w H s Q u s'):EP X pins σ Q u s':=by
 obtain⟨v,H',os,bare,un,hok,r,q⟩:=h;obtain⟨hh,g,d,t,os'⟩:=s';obtain rfl:os'=s.os:=os;exact⟨v,H',I.call (h':=hh) (g':=g) (d':=d) (t':=t) (ch:=[]) un hok bare (λb z=>absurd z (by simp)),r,q⟩
end
def lW(sp:Sp)(dvs:List V)(E:XK)(t:TA):TE:=λσ H Q=>t σ H λvs H1=>sp (vs++dvs) H1 Q E
inductive mP(C:Addr)(m:Str)(sp:Sp)(dvs:List V)(E:XK)(t:TA)(σ:St)(Q:VK)(x:V)(H1:Hp):Prop
 |mk:∀a dx fs,x= .ref a->H1 a=some (.ins C dx fs)->fs.lookup m=none->(t σ H1 λvs H2=>sp (x::(vs++dvs)) H2 Q E)->mP C m sp dvs E t σ Q x H1
def i9(C:Addr)(m:Str)(sp:Sp)(dvs:List V)(E:XK)(ta:TE)(t:TA):TE:=λσ H Q=>ta σ H λx H1=>mP C m sp dvs E t σ Q x H1
def qW(C:Addr)(sp:Sp)(dvs:List V)(E:XK)(t:TA):TE:=λσ H Q=>t σ H λvs H1=>∀x dx,H1 x=none->H1 dx=none->dx≠x ->
 sp (.ref x::(vs++dvs)) (upd (upd H1 dx (.own x)) x (.ins C dx [])) (λv H2=>v= .non/\Q (.ref x) H2) E
def zDe(K:PySem.W.Frag)(fd:FuncData)(ps:List Str)(ds:List Value):Prop :=
 ∀(s:Shared)(us:List Value),K.In s.heap->(us++ds).length=ps.length->BindsTo s fd ⟨us,[]⟩ (ps.zip (us++ds))
theorem zDe.all{fd:FuncData}{ps:List Str}(h:∀us:List Value,us.length=ps.length->bindArgs fd ⟨us,[]⟩=pure (ps.zip us)):zDe K fd ps []:=λs us _ hl=>by
 rw[qAm]at hl ⊢;exact .of_eq (h us hl)
def zIe(CX:CXT)(X:Cx)(E:XK):Prop:=∀(pins:List (Addr×Obj)) (σ:St) (H:Hp) (s:Shared) (e:Value) (s':Shared),Inv X pins σ H s->CX X.stack H s E e s'->X.xe e s'
section
variable{X:Cx}{CX:CXT}{k:Nat}{f C:Addr}{fd:FuncData}{ps:List Str}{sp:Sp}{dvs:List V}{ds:List Value}{E:XK}{x m:Str}{p pos apos:Pos}{e o:Expr}{es:List Expr}{ta:TE}{t:TA}
theorem iG{Q:VK}{us:List Value}{vs:List V}(F:ak X.prog X.w X.K X.mg X.base CX k f fd ps sp)(hr:aB k X.A)(hb:zDe X.K fd ps ds)(hd:aj dvs ds)(hx:zIe CX X E)
  (I:Inv X pins σ H s) (r:aj vs us) (h:sp (vs++dvs) H Q E):wpAny (model X.prog X.w) X.A (call (.ref f) us) (EP X pins σ Q) X.xe s:=by
 have r2:aj (vs++dvs) (us++ds):=r.append hd;have hl:(us++ds).length=ps.length:=by rw[<-r2.length];exact F.len _ _ _ _ h
 refine qCF (qBf (F.run X.A X.stack s H ⟨us,[]⟩ (us++ds) (vs++dvs) Q E hr I.env0 (hb s us I.kIn hl) r2 h) λr s' hq=>?_)
 cases r with
 |error e=>exact hx pins σ H s e s' I hq
 |ok fl=>
  cases fl with
  |ret u=>exact I.after hq
  |next=>exact False.elim hq
  |brk=>exact False.elim hq
  |cont=>exact False.elim hq
theorem pO(F:ak X.prog X.w X.K X.mg X.base CX k f fd ps sp)(hr:aB k X.A)(hg:Gl X x)(hm:X.mg x=some (.ref f))(hk:PySem.W.keepIn X.K (.ref f)=true)(hb:zDe X.K fd ps ds)(hd:aj dvs ds)(hx:zIe CX X E)
  (ha:PA X (e::es) t) (hdb:(x==("__debug__": Str))=false:=by decide) (he:starEach (e::es) X.env=(false,eval e X.env)::starEach es X.env:=by rfl) (hpl:(backTo pos (starEach es X.env)).any (·.1)=false:=by rfl) :
  PE X (.Call (.Name x p) (e::es) [] pos) (lW sp dvs E t):=by
 intro pins s σ H Q I h;refine qCG (zFj I hg hm ?_ hdb);refine qCW (h₀:=X.base) I.ok.mod.kin hk (thn (ha pos pins s σ H _ I h) λus s1 ⟨vs,H1,I1,r,q⟩=>⟨I1.kIn,?_⟩) he hpl;exact iG F hr hb hd hx I1 r q
theorem oU{pl:Sem Bool}(he:PE X o ta)(c:Cls X.K C)(hm:px X.K C m f)(F:ak X.prog X.w X.K X.mg X.base CX k f fd ps sp)(hr:aB k X.A)(hb:zDe X.K fd ps ds)(hd:aj dvs ds)(hx:zIe CX X E)(ha:PA X (e::es) t)
  (hst:starEach (e::es) X.env=(false,eval e X.env)::starEach es X.env:=by rfl) (hpl:(backTo pos (starEach es X.env)).any (·.1)=false:=by rfl)
  (ht:eval (.Call (.Attribute o m apos) (e::es) [] pos) X.env=(do
   let ov<-eval o X.env
   standAt apos.atName
   let(f,first)<-holding [ov] (getMethod ov m pl)
   callWith pos f first (backTo pos (starEach (e::es) X.env)) (backToKw pos (keywordEach [] X.env))):=by rfl) :
  PE X (.Call (.Attribute o m apos) (e::es) [] pos) (i9 C m sp dvs E ta t):=by
 intro pins s σ H Q I h;refine PySem.W.methodCall_KW (pl:=pl) (thn (he pins s σ H _ I h) λu s1 ⟨x,H1,I1,rx,a,dx,fs,ex,ea,l,q⟩=>?_) ht;subst ex;obtain rfl:u=Value.ref a:=rx;refine zI0 I1 ea c hm l ?_;refine qCW (first:=[.ref a]) (h₀:=X.base) I.ok.mod.kin hm.kp (thn (ha pos pins s1 σ H1 _ I1 q) λus s2 ⟨vs,H2,I2,r,q2⟩=>⟨I2.kIn,?_⟩) hst hpl;exact iG (us:=.ref a::us) (vs:=.ref a::vs) F hr hb hd hx I2 (.cons rfl r) q2
theorem oC{pl:Sem Bool}(he:PE X o ta)(c:Cls X.K C)(hm:px X.K C m f)(F:ak X.prog X.w X.K X.mg X.base CX k f fd ps sp)(hr:aB k X.A)(hb:zDe X.K fd ps ds)(hd:aj dvs ds)(hx:zIe CX X E)
  (ht:eval (.Call (.Attribute o m apos) [] [] pos) X.env=(do
   let ov<-eval o X.env
   standAt apos.atName
   let(f,first)<-holding [ov] (getMethod ov m pl)
   callWith pos f first (backTo pos (starEach [] X.env)) (backToKw pos (keywordEach [] X.env))):=by rfl) :
  PE X (.Call (.Attribute o m apos) [] [] pos) (i9 C m sp dvs E ta cz):=by
 intro pins s σ H Q I h;refine PySem.W.methodCall_KW (pl:=pl) (thn (he pins s σ H _ I h) λu s1 ⟨x,H1,I1,rx,a,dx,fs,ex,ea,l,q⟩=>?_) ht;subst ex;obtain rfl:u=Value.ref a:=rx;refine zI0 I1 ea c hm l ?_;exact PySem.W.callWith_K0 (first:=[.ref a]) I1.kIn hm.kp (iG (us:=[.ref a]) (vs:=[.ref a]) F hr hb hd hx I1 (.cons rfl .nil) q)
structure Mk(K:PySem.W.Frag)(C f:Addr):Prop where
 makes:PySem.W.makesIn K C=true
 init:PySem.W.findIn K (.ref C) "__init__"=some (some (.ref f))
 fn:PySem.W.isFn K (.ref f)=true
 kp:PySem.W.keepIn K (.ref C)=true
theorem oB{Q:VK}{vs:List V}(M:Mk X.K C f)(F:ak X.prog X.w X.K X.mg X.base CX k f fd ps sp)(hr:aB (k+1) X.A)(hb:zDe X.K fd ps ds)(hd:aj dvs ds)
  (hx:zIe CX X E) (I:Inv X pins σ H s) (r:aj vs us)
  (h:∀x dx,H x=none->H dx=none->dx≠x->sp (.ref x::(vs++dvs)) (upd (upd H dx (.own x)) x (.ins C dx [])) (λv H2=>v= .non/\Q (.ref x) H2) E) :
  wpAny (model X.prog X.w) X.A (call (.ref C) us) (EP X pins σ Q) X.xe s:=by
 have hq:=h (s.heap.objs.size+1) s.heap.objs.size (I.hok.fresh (qB6 _)) (I.hok.fresh (qAG _)) (qAQ (qCV _));have I2:=Inv.made (C:=C) I;have r2:aj (V.ref (s.heap.objs.size+1)::(vs++dvs)) (Value.ref (s.heap.objs.size+1)::(us++ds)):=.cons rfl (r.append hd)
 have hl:(Value.ref (s.heap.objs.size+1)::us++ds).length=ps.length:=by
  have e:=r2.length;rw[F.len _ _ _ _ hq]at e;exact e.symm
 refine qCF (nu (f:=f) I.kIn M.makes M.init (qBQ.mp M.fn) (qBf (F.run _ X.stack _ _ ⟨Value.ref (s.heap.objs.size+1)::us,[]⟩ (Value.ref (s.heap.objs.size+1)::(us++ds)) _ _ E (hr.make C us []) (I2.env0.make C us []) (hb _ (Value.ref (s.heap.objs.size+1)::us) I2.kIn hl) r2 hq) λr s' hq'=>?_))
 cases r with
 |error e=>exact hx pins σ _ _ e s' I2 hq'
 |ok fl=>
  cases fl with
  |ret u=>
   obtain⟨v,H',I3,rv,ev,q3⟩:=I2.after hq';subst ev;exact⟨rv,⟨V.ref (s.heap.objs.size+1),H',I3,rfl,q3⟩⟩
  |next=>exact False.elim hq'
  |brk=>exact False.elim hq'
  |cont=>exact False.elim hq'
theorem pQ(M:Mk X.K C f)(F:ak X.prog X.w X.K X.mg X.base CX k f fd ps sp)(hr:aB (k+1) X.A)(hg:Gl X x)(hm:X.mg x=some (.ref C))(hb:zDe X.K fd ps ds)(hd:aj dvs ds)(hx:zIe CX X E)
  (ha:PA X (e::es) t) (hdb:(x==("__debug__": Str))=false:=by decide) (he:starEach (e::es) X.env=(false,eval e X.env)::starEach es X.env:=by rfl) (hpl:(backTo pos (starEach es X.env)).any (·.1)=false:=by rfl) :
  PE X (.Call (.Name x p) (e::es) [] pos) (qW C sp dvs E t):=by
 intro pins s σ H Q I h;refine qCG (zFj I hg hm ?_ hdb);refine qCW (h₀:=X.base) I.ok.mod.kin M.kp (thn (ha pos pins s σ H _ I h) λus s1 ⟨vs,H1,I1,r,q⟩=>⟨I1.kIn,?_⟩) he hpl;exact oB M F hr hb hd hx I1 r q
end
section
variable{X:Cx}{CX:CXT}{k:Nat}{f C:Addr}{fd:FuncData}{ps ks:List Str}{sp:Sp}{E:XK}{x m:Str}{p pos apos kpos:Pos}{e o:Expr}{es:List Expr}{kws:List Keyword}{te ta:TE}{t tk:TA}{nm:Option Str}
variable{g:List Value->List Value->List Value}{gV:List V->List V->List V}
end
structure ag(N P:List Str)(sc:Scope):Prop where
 kind:sc.kind= .function
 co:sc.isCoroutine=false
 gen:sc.isGenerator=false
 nd:N.Nodup
 pre:N.take P.length=P
 par:∀x∈P,sc.names.lookup x=some .local\/sc.names.lookup x=some .cell
 nofree:∀y∈sc.names,y.2≠.free
theorem cI{kindOf:Str->Option NameKind} :∀{binds:List (Str×Value)} {m:Str->Option Value},(∀v,(x,v)∉binds)->bindL kindOf binds m x=m x
 |[],_,_=>rfl
 |(n,v)::r,m,h=>by
  unfold bindL;rw[cI λw hw=>h w (qAX _ hw)];split
  .have:x≠n:=by rintro rfl;exact h v qAf
   simp[this]
  .rfl
theorem cR{kindOf:Str->Option NameKind} :∀{binds:List (Str×Value)} {m:Str->Option Value},(∀v,(x,v)∉binds)->bindC kindOf binds m x=m x
 |[],_,_=>rfl
 |(n,v)::r,m,h=>by
  unfold bindC;rw[cR λw hw=>h w (qAX _ hw)];split
  .rfl
  .have:x≠n:=by rintro rfl;exact h v qAf
   simp[this]
theorem cG{kindOf:Str->Option NameKind}{v:Value}:∀{P:List Str}{vs:List Value}{i:Nat}{m:Str->Option Value},P.Nodup->P[i]?=some x->vs[i]?=some v->kindOf x=some .local ->
  bindL kindOf (P.zip vs) m x=some v
 |[],_,_,_,_,h,_,_=>by simp at h
 |_::_,[],_,_,_,_,h,_=>by simp at h
 |p::P,w::vs,0,m,nd,h1,h2,hk=>by
  simp at h1 h2;subst h1;subst h2;show bindL kindOf ((p,w)::P.zip vs) m p=_;unfold bindL;rw[cI λv hv=>(qBI.mp nd).1 (qCn hv).1,qAC hk];simp
 |p::P,w::vs,i+1,m,nd,h1,h2,hk=>by
  show bindL kindOf ((p,w)::P.zip vs) m x=_;unfold bindL;exact cG (i:=i) (qBI.mp nd).2 (by simpa using h1) (by simpa using h2) hk
theorem cN{kindOf:Str->Option NameKind}{v:Value}:∀{P:List Str}{vs:List Value}{i:Nat}{m:Str->Option Value},P.Nodup->P[i]?=some x->vs[i]?=some v->kindOf x≠some .local ->
  bindC kindOf (P.zip vs) m x=some v
 |[],_,_,_,_,h,_,_=>by simp at h
 |_::_,[],_,_,_,_,h,_=>by simp at h
 |p::P,w::vs,0,m,nd,h1,h2,hk=>by
  simp at h1 h2;subst h1;subst h2;show bindC kindOf ((p,w)::P.zip vs) m p=_;unfold bindC;rw[cR λv hv=>(qBI.mp nd).1 (qCn hv).1,qAB hk];simp
 |p::P,w::vs,i+1,m,nd,h1,h2,hk=>by
  show bindC kindOf ((p,w)::P.zip vs) m x=_;unfold bindC;exact cN (i:=i) (qBI.mp nd).2 (by simpa using h1) (by simpa using h2) hk
def start(N:List Str)(vs:List V):St:=vs.map some++List.replicate (N.length-vs.length) none
def aM(CX:CXT)(P:Program)(w:World)(K:PySem.W.Frag)(mg:Str->Option Value)(base:Heap)(N:List Str)(qual:Str)(scope:Scope)(f:Addr)(cd:Value)(A:Around)(outer:List Env)(s:Shared)(H:Hp)(E:XK):Cx where
 prog:=P
 w:=w
 K:=K
 mg:=mg
 base:=base
 A:=A.deeper (envOfC qual scope s.heap.objs.size f cd)
 N:=N
 s₀:=s
 H₀:=H
 env:=envOfC qual scope s.heap.objs.size f cd
 outer:=outer
 stack:=envOfC qual scope s.heap.objs.size f cd::outer
 ex:=[]
 calm:=true
 fn:=λ_=>true
 pn:=[]
 xe:=λe s'=>wpAny (model P w) (A.deeper (envOfC qual scope s.heap.objs.size f cd)) (leaving (envOfC qual scope s.heap.objs.size f cd) e) (λ_ s''=>CX outer H s E e s'') (λe' s''=>CX outer H s E e' s'') s'
theorem gB{sc:Scope}{n:Nat}(h:sc.names.lookup x=some .cell):∃c,(cellsFrom n sc.names []).lookup x=some c:=by
 have q:=qCo sc.names n [] (.inl h);exact Option.isSome_iff_exists.mp q
theorem cO{CX:CXT}{mg:Str->Option Value}{N ps:List Str}{qual:Str}{scope:Scope}{f:Addr}{cd:Value}{A:Around}{outer:List Env}{s1:Shared}{E:XK}{vs:List V}
  (S:ag N ps scope) (hd:A.handled=none) (e0:f_ P w K mg base A outer s H) (hl:vs.length=ps.length) (r:aj vs us)
  (x:InCallC s s.heap.objs.size (bindL (envOfC qual scope s.heap.objs.size f cd).kindOf (ps.zip us) λ_=>none) (cellsFrom (s.heap.objs.size+1) scope.names []) (bindC (envOfC qual scope s.heap.objs.size f cd).kindOf (ps.zip us) λ_=>none) s1) :
  Inv (aM CX P w K mg base N qual scope f cd A outer s H E) [] (start N vs) H s1:=by
 have hpl:ps.length<=N.length:=by have:=qAl List.length S.pre;rw[qAU]at this;lia
 obtain⟨h1,tk,rfl,hk⟩:=x.done;have noA:∀b:Addr,b∉(aM CX P w K mg base N qual scope f cd A outer s H E).ex:=λb z=>absurd (show b∈([]:List Addr)from z) (by simp)
 refine⟨⟨e0.mod,S.kind,rfl,rfl,qAG _,λy z c h1 h2=>?_,λy hy=>?_,λy c _ h=>?_,λ_=>hd,Around.frames_deeper e0.frames,.inr ⟨rfl,rfl⟩,λb z=>absurd z (noA b),e0.bs,e0.bsz,λb _ _=>noA b,λb z=>absurd z (noA b),e0.funs,e0.frf⟩,rfl,e0.bare,Un.kept hk,⟨_,x.toInCall.ns,λi y v h1 h2 h3=>?_⟩,λy c h=>⟨_,x.cell y c h⟩,e0.hok.fresh (qAG _),λy c h=>?_,λp hp=>absurd (show p∈([]:List (Addr×Obj))from hp) (by simp),e0.hok.kept hk,?_⟩
 .exact name_of_addr x.apart (qCH h1) (qCH h2)
 .have hy:scope.names.lookup y=some .cell\/scope.names.lookup y=some .free:=hy;rcases hy with hy|hy
  .exact gB hy
  .exact absurd rfl (S.nofree _ (qCH hy))
 .exact qCR (x.above y c (qCH h))
 .have hi:i<vs.length:=by
   unfold start at h2
   by_cases hi:i<vs.length
   .exact hi
   .rw [qBJ (by simpa using hi)]at h2;rw[List.getElem?_replicate]at h2;split at h2<;>cases h2
  have ha:vs[i]?=some v:=by
   unfold start at h2;rw[qA5 (by simpa using hi),qAY]at h2
   cases e:vs[i]? with
   |none=>rw[e]at h2;cases h2
   |some a=>rw[e]at h2;cases h2;rfl
  obtain⟨u,hu,rv⟩:=r.get ha
  have hp:ps[i]?=some y:=by
   rw[<-S.pre,qDD (by lia)];exact h1
  have ndP:ps.Nodup:=by rw[<-S.pre];exact S.nd.sublist (List.take_sublist _ _)
  refine⟨u,rv,?_⟩;rcases S.par y (qAJ hp)with k|k
  .exact .inl ⟨k,cG ndP hp hu k⟩
  .obtain ⟨c,e⟩:=gB (n:=s.heap.objs.size+1) k;refine .inr ⟨.inl k,c,e,?_⟩;have q:=x.cell y c e;rw[cN ndP hp hu (by show scope.names.lookup y≠_;rw[k];decide)]at q;exact q
 .exact e0.hok.fresh (qCR (x.above y c (qCH h)))
 .unfold start;show _=N.length;rw[qAN,qAD,List.length_replicate];lia
theorem qN{CX:CXT}{mg:Str->Option Value}{k:Nat}{f:Addr}{name qual:Str}{params:Arguments}{body:List Stmt}{scope:Scope}{dV kV doc pm cdv ct oc:Value}{an od:Option Addr}
  {osl:Array (Option Value)} {N ps:List Str} {sp:Sp} (lk:K.lookup f=some ⟨oc,od,.func (PySem.W.fnOf name qual params body scope dV kV doc pm an cdv ct),osl⟩) (hcd:PySem.W.codeIn K cdv qual=true) (S:ag N ps scope)
  (len:∀vs H Q E,sp vs H Q E->vs.length=ps.length)
  (hbody:∀(A:Around) (outer:List Env) (s:Shared) (H:Hp) (vs:List V) (Q:VK) (E:XK),aB k (A.deeper (envOfC qual scope s.heap.objs.size f cdv))->sp vs H Q E ->
   ∃t,PSs (aM CX P w K mg base N qual scope f cdv A outer s H E) body t/\t {nx:=λ_ H'=>Q .non H',rt:=Q} (start N vs) H) :
  ak P w K mg base CX (k+1) f (PySem.W.fnOf name qual params body scope dV kV doc pm an cdv ct) ps sp:=by
 refine⟨len,λA outer s H args us vs Q E hr e0 hb r hsp=>?_⟩;have hl:=len _ _ _ _ hsp;have KX:K.In s.heap:=e0.mod.kin.keeps λb o e=>(e0.bs b o e).1;have lim:s.heap.NoLimit:=e0.mod.nolimit.keeps λb o e=>(e0.bs b o e).1
 have hkind:∀y∈ps.zip us,scope.names.lookup y.1=some .local\/(scope.names.lookup y.1=some .cell/\((cellsFrom (s.heap.objs.size+1) scope.names []).lookup y.1).isSome=true):=λ⟨n,v⟩ hy=>by
  rcases S.par n (qCn hy).1 with q|q
  .exact .inl q
  .exact .inr ⟨q,qCo _ _ _ (.inl q)⟩
 refine codeAny_call_function hr.depth (KX _ _ lk) rfl S.co S.gen rfl (PySem.W.codeRec_of KX hcd) (hb _ _ _ _ ?_);refine wpAny_newFunctionEnv_cells S.kind hkind λenv he s1 x=>?_;subst he;refine⟨lim.keeps x.toInCall.keep,codeAny_func ?_⟩;obtain⟨t,ht,hq⟩:=hbody A outer s H vs Q E (hr.deeper _) hsp;have I:Inv (aM CX P w K mg base N qual scope f cdv A outer s H E) [] (start N vs) H s1:=cO S hr.hd e0 hl r x;refine qAv (ht [] s1 (start N vs) H _ I hq) (λfl s' hs=>?_) λe s' hs=>hs
 have fin:∀{σ':St}{H':Hp}{v:V}{u:Value},Inv (aM CX P w K mg base N qual scope f cdv A outer s H E) [] σ' H' s'->am v u->Q v H'->CE outer P w H s Q u s' :=
  λ{σ' H' v u} J rv q=>⟨v,H',J.os,J.bare,J.base,J.hok,rv,q⟩
 cases fl with
 |ret u=>
  obtain⟨v,σ',H',J,rv,q⟩:=hs;exact fin J rv q
 |next=>
  obtain⟨σ',H',J,q⟩:=hs;exact fin (v:=V.non) (u:=Value.none) J rfl q
 |brk=>
  obtain⟨_,_,_,q⟩:=hs;exact False.elim q
 |cont=>
  obtain⟨_,_,_,q⟩:=hs;exact False.elim q
section
variable{X:Cx}{x:Str}{p pos:Pos}{e:Expr}{es:List Expr}{t:TA}{id T:String}{r:List V->Hp->VK->Prop}
def tCB(r:List V->Hp->VK->Prop)(t:TA):TE:=λσ H Q=>t σ H λvs H1=>r vs H1 Q
theorem zAi(hc:zCz X (.builtin id) r)(hg:Gl X x)(hm:X.mg x=none)(hv:bootBuiltins x=some (.builtin id))(ha:PA X (e::es) t)(hn:x≠ "__name__":= by decide)(hdb:(x==("__debug__": Str))=false:=by decide)
  (he:starEach (e::es) X.env=(false,eval e X.env)::starEach es X.env:=by rfl) (hpl:(backTo pos (starEach es X.env)).any (·.1)=false:=by rfl):PE X (.Call (.Name x p) (e::es) [] pos) (tCB r t):=by
 intro pins s σ H Q I h;refine qCG (zHz I hg hm hv ?_ hn hdb);exact PyProof.Rows.callWith_builtin1 (thn (ha pos pins s σ H _ I h) λus s1 ⟨vs,H1,I1,r1,q1⟩=>hc pins s1 σ H1 vs us Q I1 r1 q1) he hpl
theorem zA8(hc:zCz X (.type T) r)(hg:Gl X x)(hm:X.mg x=none)(hv:bootBuiltins x=some (.type T))(ha:PA X (e::es) t)(hn:x≠ "__name__":= by decide)(hdb:(x==("__debug__": Str))=false:=by decide)
  (he:starEach (e::es) X.env=(false,eval e X.env)::starEach es X.env:=by rfl) (hpl:(backTo pos (starEach es X.env)).any (·.1)=false:=by rfl):PE X (.Call (.Name x p) (e::es) [] pos) (tCB r t):=by
 intro pins s σ H Q I h;refine qCG (zHz I hg hm hv ?_ hn hdb);exact qCT (thn (ha pos pins s σ H _ I h) λus s1 ⟨vs,H1,I1,r1,q1⟩=>hc pins s1 σ H1 vs us Q I1 r1 q1) he hpl
end
end L2
namespace HT
open PySem PyProof.Rows
section
open PySem.SeqAt
open PySem.AutoSeq1 (wpAny_loadPart')
open PySem.MeetsSeq PySem.MeetsSeq2 PySem.MeetsSeq3
end
section
variable{prog:Program}{w:World}{A:Around}{E:Value->Shared->Prop}{s:Shared}
def sIx(n d:Nat):Option Int->Nat
 |none=>d
 |some v=>if v<0 then(v+(n:Int)).toNat else min v.toNat n
theorem sIx_none(n d:Nat):sIx n d none=d:=rfl
theorem sIx_nat(n d k:Nat):sIx n d (some (k:Int))=min k n:=by
 show(if(k:Int)<0 then((k:Int)+(n:Int)).toNat else min (k:Int).toNat n)=min k n;rw[qAB (by lia),qCp]
end
end HT
namespace L2
open PySem PySem.Spec PyProof.Rows
variable{α:Type}{n:Nat}{x:V}
abbrev TO:=St->Hp->(Option Int->Hp->Prop)->Prop
def PO(X:Cx)(e:Option Expr)(t:TO):Prop :=
 ∀(pins:List (Addr×Obj)) (s:Shared) (σ:St) (H:Hp) (Q:Option Int->Hp->Prop),Inv X pins σ H s->t σ H Q ->
  wpAny (model X.prog X.w) X.A (evalPart e X.env) (λu s'=>∃o H',Inv X pins σ H' s'/\IsPart u o/\Q o H') X.xe s
def zHf:TO:=λ_ H Q=>Q none H
inductive oN(Q:Option Int->Hp->Prop)(x:V)(H1:Hp):Prop
 |mk:∀i,x= .int i->Q (some i) H1->oN Q x H1
def gu(t:TE):TO:=λσ H Q=>t σ H λx H1=>oN Q x H1
section
variable{X:Cx}{e:Expr}{te:TE}{lo hi:Option Expr}{tl th:TO}{pos p2:Pos}
theorem zCr:PO X none zHf:=by
 intro pins s σ H Q I h;rw[evalPart_none];exact qAE ⟨none,H,I,.none,h⟩
theorem zCd(h:PE X e te):PO X (some e) (gu te):=by
 intro pins s σ H Q I hw;rw[evalPart_some];refine thn (h pins s σ H _ I hw) λu s1 ⟨x,H1,I1,r1,q1⟩=>?_;obtain⟨i,rfl,q⟩:=q1;obtain⟨t,rfl⟩:=r1;exact⟨some i,H1,I1,.int i t,q⟩
def SlR(X:Cx)(r:V->Option Int->Option Int->Hp->VK->Prop):Prop :=
 ∀(pins:List (Addr×Obj)) (s:Shared) (σ:St) (H:Hp) (x:V) (v vl vu:Value) (lo hi:Option Int) (sl:Addr) (Q:VK),Inv X pins σ H s->am x v->s.heap.IsSliceOf sl vl vu .none->IsPart vl lo->IsPart vu hi->r x lo hi H Q ->
  ∃T id,typeLookup (.type T) "__getitem__"=pure (some (.builtin id))/\s.TypeIs v T/\wpAny (model X.prog X.w) X.A (getItem v (.ref sl)) (EP X pins σ Q) X.xe s
def tSl(r:V->Option Int->Option Int->Hp->VK->Prop)(te:TE)(tl th:TO):TE:=λσ H Q=>te σ H λx H1=>tl σ H1 λl H2=>th σ H2 λu H3=>r x l u H3 Q
theorem zB1{r:V->Option Int->Option Int->Hp->VK->Prop}(hr:SlR X r)(he:PE X e te)(hl:PO X lo tl)(hu:PO X hi th):PE X (.Subscript e (.Slice lo hi none p2) pos) (tSl r te tl th):=by
 intro pins s σ H Q I h;refine Subscript_ (thn (he pins s σ H _ I h) λv s1 ⟨x,H1,I1,r1,q1⟩=>?_);refine wpAny_Slice (thn (hl pins s1 σ H1 _ I1 q1) λvl s2 ⟨l,H2,I2,pl,q2⟩=>thn (hu pins s2 σ H2 _ I2 q2) λvu s3 ⟨u,H3,I3,pu,q3⟩=>?_);rw[evalPart_none];refine qAE ?_;have I4:Inv X pins σ H3 {s3 with heap:=s3.heap.push {cls:=.type "slice",data:=.fields #[vl,vu,.none]}}:=I3.kept (t':=s3.toks) λb ob q=>qAM _ q;obtain⟨T,id,hT,ht,hg⟩:=hr pins {s3 with heap:=s3.heap.push {cls:=.type "slice",data:=.fields #[vl,vu,.none]}} σ H3 x v vl vu l u s3.heap.objs.size Q I4 r1 (Heap.IsSliceOf.new ..) pl pu q3;show wpAny (model X.prog X.w) X.A (subscriptTail e (.Slice lo hi none p2) v (.ref s3.heap.objs.size)) (EP X pins σ Q) X.xe {s3 with heap:=s3.heap.push {cls:=.type "slice",data:=.fields #[vl,vu,.none]}};exact tail_any (ops:=[.ref s3.heap.objs.size,v]) ht hT hg (by with_unfolding_all rfl)
def bH(xs:List V)(lo hi:Option Int):List V:=(xs.drop (HT.sIx xs.length 0 lo)).take (HT.sIx xs.length xs.length hi-HT.sIx xs.length 0 lo)
theorem zIa(xs:List V)(lo hi:Option Int):(bH xs lo hi).length<=xs.length:=by
 unfold bH;rw[qAU,qAz];lia
end
def ixN(n:Nat)(i:Int):Option Nat:=if 0<=i then(if i<n then some i.toNat else none)else if -(n:Int)<=i then some (i+n).toNat else none
def atI(xs:List α)(i:Int):Option α:=(ixN xs.length i).bind λj=>xs[j]?
theorem jF{i:Int}{j:Nat}(h:ixN n i=some j):seqIndex? i n=some j/\j<n/\-(n:Int)<=i/\i<n:=by
 unfold ixN at h
 by_cases h0:0<=i
 .rw [qAC h0]at h
  by_cases h1:i<n
  .rw [qAC h1]at h;have e:i.toNat=j:=qAb h;exact⟨by rw[seqIndex_of h0 h1,e],by lia,by lia,h1⟩
  .rw [qAB h1]at h;cases h
 .rw [qAB h0]at h
  by_cases h1:-(n:Int)<=i
  .rw [qAC h1]at h;have e:(i+n).toNat=j:=qAb h;exact⟨by rw[seqIndex_neg (by lia) h1,e],by lia,h1,by lia⟩
  .rw [qAB h1]at h;cases h
theorem eZ{xs:List α}{i:Int}{v:α}(h:atI xs i=some v):∃j,seqIndex? i xs.length=some j/\xs[j]?=some v/\j<xs.length/\-(xs.length:Int)<=i/\i<xs.length:=by
 unfold atI at h
 cases e:ixN xs.length i with
 |none=>rw[e]at h;cases h
 |some j=>
  rw[e]at h;obtain⟨h1,h2,h3,h4⟩:=jF e;exact⟨j,h1,h,h2,h3,h4⟩
def jR(b:Expr):Prop:=∀o i,subscripted b false o i=operate [o,i] (getItem o i)
def IxR(X:Cx)(r:R2):Prop :=
 ∀(value slice:Expr) (pins:List (Addr×Obj)) (s:Shared) (σ:St) (H:Hp) (x y:V) (v u:Value) (Q:VK),Inv X pins σ H s->am x v->am y u->r x y H Q ->
  subscripted slice false v u=operate [v,u] (getItem v u)->wpAny (model X.prog X.w) X.A (subscriptTail value slice v u) (EP X pins σ Q) X.xe s
def MtR(X:Cx)(id:String)(r:V->List V->Hp->VK->Prop):Prop :=
 ∀(pins:List (Addr×Obj)) (s:Shared) (σ:St) (H:Hp) (x:V) (xs:List V) (v:Value) (us:List Value) (Q:VK),Inv X pins σ H s->am x v->aj xs us->r x xs H Q ->
  wpAny (model X.prog X.w) X.A (call (.builtin id) (v::us)) (EP X pins σ Q) X.xe s
section
variable{X:Cx}{a b:Expr}{ta tb:TE}{pos:Pos}
theorem zBd{r:R2}(hr:IxR X r)(ha:PE X a ta)(hb:PE X b tb)(hs:jR b):PE X (.Subscript a b pos) (tOp r ta tb):=by
 intro pins s σ H Q I h;exact Subscript_ (sJ ha hb I h λv u s2 x y H2 I2 rx ry q=>hr a b pins s2 σ H2 x y v u Q I2 rx ry q (hs _ _))
inductive qz(K:PySem.W.Frag)(x:V)(y:V)(H:Hp)(Q:VK):Prop
 |mk:∀p xs i v,x= .ref p->y= .int i->SqL K H p xs->atI xs i=some v->Q v H->qz K x y H Q
inductive uf(K:PySem.W.Frag)(x:V)(y:V)(H:Hp)(Q:VK):Prop
 |mk:∀p xs i v,x= .ref p->y= .int i->SqT K H p xs->atI xs i=some v->Q v H->uf K x y H Q
inductive uL(x:V)(y:V)(H:Hp)(Q:VK):Prop
 |mk:∀z i c,x= .str z->y= .int i->z.length<=sizeLine->atI z.cps.toList i=some c->Q (.str ⟨#[c]⟩) H->uL x y H Q
theorem zA0:IxR X (qz X.K):=by
 intro value slice pins s σ H x y v u Q I rx ry h hs;obtain⟨p,xs,i,z,rfl,rfl,hq,he,q⟩:=h
 cases rx
 obtain⟨t,rfl⟩:=ry;obtain⟨its,r,pl,hz⟩:=I.list hq;obtain⟨j,h1,h2,h3,h4,h5⟩:=eZ he;obtain⟨w,ew,rw'⟩:=r.get h2;have hl:=r.length;have hn:=zHx;have fin:EP X pins σ Q w s:=⟨z,H,I,rw',q⟩
 by_cases h0:0<=i
 .have hj:i.toNat=j:=by
   rw[seqIndex_of h0 h5]at h1;exact qAb h1
  exact item_listR pl.isList h0 (by lia) (by rw[hj];simpa using ew) fin hs
 .have hj:(i+(its.toArray.size:Int)).toNat=j:=by
   rw[seqIndex_neg (by lia) h4]at h1;rw[qAS,<-hl];exact qAb h1
  exact subscriptTail_builtinR (x:=w) pl.isList.typeIs slot_list_getitem.lookup
   (wpAny_getItem_list_neg (Q:=λr s'=>r=w/\EP X pins σ Q r s') pl.isList (by lia) (by rw[qAS]<;>lia) (by lia) (by rw[hj];simpa using ew) ⟨rfl,fin⟩) hs
theorem zDb:IxR X (uf X.K):=by
 intro value slice pins s σ H x y v u Q I rx ry h hs;obtain⟨p,xs,i,z,rfl,rfl,hq,he,q⟩:=h
 cases rx
 obtain⟨t,rfl⟩:=ry;obtain⟨its,r,pl,hz⟩:=I.tuple hq;obtain⟨j,h1,h2,h3,h4,h5⟩:=eZ he;obtain⟨w,ew,rw'⟩:=r.get h2;have hl:=r.length;have hn:=zHx;have fin:EP X pins σ Q w s:=⟨z,H,I,rw',q⟩
 exact subscriptTail_builtinR (x:=w) pl.typeIs slot_tuple_getitem.lookup
  (getItem_tuple (j:=j) (Q:=λr s'=>r=w/\EP X pins σ Q r s') pl (by lia) (by lia) (by rw[qAS,<-hl];exact h1) (by simpa using ew) ⟨rfl,fin⟩) hs
theorem sZ:IxR X uL:=by
 intro value slice pins s σ H x y v u Q I rx ry h hs;obtain⟨z,i,c,rfl,rfl,hz,he,q⟩:=h;obtain⟨t,rfl⟩:=rx;obtain⟨t',rfl⟩:=ry;obtain⟨j,h1,h2,h3,h4,h5⟩:=eZ he;have hl:z.cps.toList.length=z.length:=by simp[Str.length]
 rw[hl]at h1 h4 h5;have hn:=zHx
 exact tail_any (qBp s z t) slot_str_getitem.lookup (getItem_str (c:=c) (by
  have e1:decide (i< -(2^63:Int))=false:=qAZ (by lia);have e2:decide (i>=2^63)=false:=qAZ (by lia);rw[e1,e2,Bool.or_false]) (by rw[h1];simpa using h2) ⟨.str ⟨#[c]⟩,H,I.tok _,⟨_,rfl⟩,q⟩) hs
theorem gM(its:List Value)(n j:Nat)(u:Value):Obj.mapSeq (·.setIfInBounds j u) {cls:=.type "list",data:=.seq its.toArray n}={cls:=.type "list",data:=.seq (its.set j u).toArray n}:=by
 simp[Obj.mapSeq]
theorem Inv.lst{pins:List (Addr×Obj)}{σ:St}{H:Hp}{s:Shared}{p:Addr}{xs:List V}(I:Inv X pins σ H s)(h:H p=some (.lst xs)) :
  ∃(its:List Value)(n:Nat),aj xs its/\s.heap.get? p=some {cls:=.type "list",data:=.seq its.toArray n}/\xs.length<=sizeLine:=by
 obtain⟨z,its,n,r,e⟩:=I.hok p _ h;exact⟨its,n,r,e,z⟩
theorem Inv.lstUpd{pins:List (Addr×Obj)}{σ:St}{H:Hp}{s:Shared}{p:Addr}{xs ys:List V}{its its':List Value}{n':Nat}{f:Obj->Obj}(I:Inv X pins σ H s)(h:H p=some (.lst xs))
  (ho:s.heap.get? p=some {cls:=.type "list",data:=.seq its.toArray n}) (hf:f {cls:=.type "list",data:=.seq its.toArray n}={cls:=.type "list",data:=.seq its'.toArray n'}) (r:aj ys its') (hz:ys.length<=sizeLine) (t:Nat) :
  Inv X pins σ (upd H p (.lst ys)) {s with heap:=s.heap.update p f,toks:=t}:=by
 have e:(s.heap.update p f).get? p=some {cls:=.type "list",data:=.seq its'.toArray n'}:=by
  rw[qA9 f ho (by rw[hf]<;>rfl),hf]
 refine I.write (x:=p) (e:=p) (by rw[h];trivial) (.inl rfl) (λb u hb q=>(qBq _ _ (qAh hb)).trans q) ⟨_,e⟩ ?_;exact⟨hz,its',n',r,e⟩
inductive qQ(o:V)(i:V)(v:V)(H:Hp)(Q:Hp->Prop):Prop
 |mk:∀p xs k j,o= .ref p->i= .int k->H p=some (.lst xs)->ixN xs.length k=some j->Q (upd H p (.lst (xs.set j v)))->qQ o i v H Q
theorem zI9:uC X qQ:=by
 intro pins s σ H o i v ov iv u Q I ro ri rv h;obtain⟨p,xs,k,j,rfl,rfl,hp,hj,q⟩:=h
 cases ro
 obtain⟨t,rfl⟩:=ri;obtain⟨its,n,r,ho,hz⟩:=I.lst hp;obtain⟨h1,h2,h3,h4⟩:=jF hj;have hl:=r.length;have hn:=zHx
 have I':Inv X pins σ (upd H p (.lst (xs.set j v))) {s with heap:=s.heap.update p (Obj.mapSeq (·.setIfInBounds j u))} :=
  I.lstUpd hp ho (gM its n j u) (r.set rv j) (by rw[qCq];exact hz) s.toks
 by_cases h0:0<=k
 .have hk:k.toNat=j:=by
   rw[seqIndex_of h0 h4]at h1;exact qAb h1
  exact PySem.W.ki_setAt ho h0 (by lia) (by rw[qAS,<-hl];exact h4) (by rw[hk];exact⟨_,I',q⟩)
 .have hk:(k+(its.toArray.size:Int)).toNat=j:=by
   rw[seqIndex_neg (by lia) h3]at h1;rw[qAS,<-hl];exact qAb h1
  exact PySem.W.ki_setBack ho (by lia) (by rw[qAS,<-hl];exact h3) (by lia) (by rw[hk];exact⟨_,I',q⟩)
theorem eE(lo hi:Option Int)(n:Nat):(sliceBounds lo hi none n).1=((HT.sIx n 0 lo:Nat):Int)/\(sliceBounds lo hi none n).2.1=((HT.sIx n n hi:Nat):Int)/\(sliceBounds lo hi none n).2.2=1:=by
 refine⟨?_,?_,rfl⟩
 .cases lo with
  |none=>simp[sliceBounds,HT.sIx]
  |some i=>
   simp only[sliceBounds,HT.sIx,Option.getD_none,show(1:Int)>0 by decide,if_true]
   by_cases h:i<0
   .simp only[h,if_true]<;>lia
   .simp only[h,qB7]<;>lia
 .cases hi with
  |none=>simp[sliceBounds,HT.sIx]
  |some i=>
   simp only[sliceBounds,HT.sIx,Option.getD_none,show(1:Int)>0 by decide,if_true]
   by_cases h:i<0
   .simp only[h,if_true]<;>lia
   .simp only[h,qB7]<;>lia
theorem zI8(its:List Value)(lo hi:Option Int):slicePick its.toArray lo hi none=((its.drop (HT.sIx its.length 0 lo)).take (HT.sIx its.length its.length hi-HT.sIx its.length 0 lo)).toArray:=by
 obtain⟨h1,h2,h3⟩:=eE lo hi its.toArray.size;unfold slicePick;rw[h1,h2,h3];simp only[sliceRange_one,pick_run,qAS]<;>rfl
inductive kI(K:PySem.W.Frag)(x:V)(lo:Option Int)(hi:Option Int)(H:Hp)(Q:VK):Prop
 |mk:∀a xs,x= .ref a->SqL K H a xs->(∀p,H p=none->Q (.ref p) (upd H p (.lst (bH xs lo hi))))->kI K x lo hi H Q
theorem zCi:SlR X (kI X.K):=by
 intro pins s σ H x v vl vu lo hi sl Q I rx hs pl pu h;obtain⟨a,xs,rfl,hx,q⟩:=h
 cases rx
 obtain⟨its,r,ht,hz⟩:=I.list hx;have hlen:=r.length;refine⟨"list",_,slot_list_getitem.lookup,ht.isList.typeIs,?_⟩;refine wpAny_getItem_list_slice ht.isList hs pl pu .none (by simp) ?_ (by rw[qAS]<;>lia);rw[zI8,<-hlen];refine⟨.ref s.heap.objs.size,_,I.laid (t':=s.toks) (o:=.lst (bH xs lo hi)) (λb ob q=>qAM _ q) (qAG _) ?_,rfl,q _ (I.hok.fresh (qAG _))⟩;exact⟨qAW (zIa xs lo hi) hz,_,0,(r.drop (HT.sIx xs.length 0 lo)).take (HT.sIx xs.length xs.length hi-HT.sIx xs.length 0 lo),qAk _ rfl⟩
def zGm:V->Bool
 | .non=>true
 | .bl _=>true
 | .int _=>true
 | .str _=>true
 |_=>false
def eqV:V->V->Bool
 | .non,.non=>true
 | .bl a,.bl b=>a==b
 | .bl a,.int b=>(if a then 1 else 0)==b
 | .int a,.bl b=>a==(if b then 1 else 0)
 | .int a,.int b=>a==b
 | .str a,.str b=>a==b
 |_,_=>false
theorem mX{A:Around}{s:Shared}{y:V}{u v:Value}(ry:am y u)(rx:am x v)(fy:zGm y=true)(fx:zGm x=true):SeqAt.EqAt A s u v (eqV y x):=by
 cases y with
 |non=>
  cases ry
  cases x with
  |non=>cases rx;exact qCr _
  |bl b=>cases rx;exact SeqAt.EqAt.none_bool b
  |int b=>obtain⟨t,rfl⟩:=rx;exact SeqAt.EqAt.none_int b t
  |str b=>obtain⟨t,rfl⟩:=rx;exact SeqAt.EqAt.none_str b t
  |_=>exact absurd (show false=true from fx) qAd
 |bl a=>
  cases ry
  cases x with
  |non=>cases rx;exact SeqAt.EqAt.bool_none a
  |bl b=>cases rx;exact SeqAt.EqAt.bool_bool a b
  |int b=>obtain⟨t,rfl⟩:=rx;exact SeqAt.EqAt.bool_int a b t
  |str b=>obtain⟨t,rfl⟩:=rx;exact SeqAt.EqAt.bool_str a b t
  |_=>exact absurd (show false=true from fx) qAd
 |int a=>
  obtain⟨t',rfl⟩:=ry
  cases x with
  |non=>cases rx;exact SeqAt.EqAt.int_none a t'
  |bl b=>cases rx;exact SeqAt.EqAt.int_bool a t' b
  |int b=>obtain⟨t,rfl⟩:=rx;exact SeqAt.EqAt.int_int a t' b t
  |str b=>obtain⟨t,rfl⟩:=rx;exact SeqAt.EqAt.int_str a t' b t
  |_=>exact absurd (show false=true from fx) qAd
 |str a=>
  obtain⟨t',rfl⟩:=ry
  cases x with
  |non=>cases rx;exact SeqAt.EqAt.str_none a t'
  |bl b=>cases rx;exact SeqAt.EqAt.str_bool a t' b
  |int b=>obtain⟨t,rfl⟩:=rx;exact SeqAt.EqAt.str_int a t' b t
  |str b=>obtain⟨t,rfl⟩:=rx;exact SeqAt.EqAt.str_str a t' b t
  |_=>exact absurd (show false=true from fx) qAd
 |_=>exact absurd (show false=true from fy) qAd
def eqU(x:V)(u:Value):Bool:=match u with
 | .none=>eqV .non x
 | .bool b=>eqV (.bl b) x
 | .int i _=>eqV (.int i) x
 | .str z _=>eqV (.str z) x
 |_=>false
theorem nK{y:V}{u:Value}(r:am y u)(f:zGm y=true):eqU x u=eqV y x:=by
 cases y with
 |non=>cases r;rfl
 |bl b=>cases r;rfl
 |int i=>obtain⟨t,rfl⟩:=r;rfl
 |str z=>obtain⟨t,rfl⟩:=r;rfl
 |_=>exact absurd (show false=true from f) qAd
theorem zIc :∀{xs:List V}{us:List Value},aj xs us->xs.all zGm=true->us.any (eqU x)=xs.any λy=>eqV y x
 |_,_,.nil,_=>rfl
 |y::xs,u::us,.cons r t,f=>by
  rw[List.all_cons,qBS]at f;rw[qCI,qCI,nK r f.1,zIc t f.2]
theorem zF1{A:Around}{s:Shared}{v:Value}(rx:am x v)(fx:zGm x=true):∀{xs:List V}{us:List Value},aj xs us->xs.all zGm=true->∀u∈us,SeqAt.EqAt A s u v (eqU x u)
 |_,_,.nil,_=>λu hu=>by cases hu
 |y::xs,u::us,.cons r t,f=>λu' hu=>by
  rw[List.all_cons,qBS]at f;rcases qAT.mp hu with rfl|hu
  .rw [nK r f.1];exact mX r rx f.1 fx
  .exact zF1 rx fx t f.2 u' hu
def inV(x:V)(xs:List V):Bool:=xs.any λy=>eqV y x
inductive rIn(K:PySem.W.Frag)(neg:Bool)(x:V)(y:V)(H:Hp)(Q:VK):Prop
 |mk:∀p xs,y= .ref p->(SqL K H p xs\/SqT K H p xs)->zGm x=true->xs.all zGm=true->Q (.bl (if neg then !inV x xs else inV x xs)) H->rIn K neg x y H Q
theorem zFw:OpR X (compareOp .In) (rIn X.K false):=by
 intro pins s σ H x y v u Q I rx ry h;obtain⟨p,xs,rfl,hq,fx,fs,q⟩:=h
 cases ry
 rcases hq with hq|hq
 .obtain ⟨its,r,pl,hz⟩:=I.list hq;refine SeqAt.in_listAt (eqU x) pl.isList (λw hw=>zF1 rx fx r fs w (by simpa using hw)) ⟨.bl _,H,I,rfl,?_⟩;rw[show its.toArray.any (eqU x)=its.any (eqU x) by simp,zIc r fs];exact q
 .obtain ⟨its,r,pl,hz⟩:=I.tuple hq;refine SeqAt.in_tupleAt (eqU x) pl (λw hw=>zF1 rx fx r fs w (by simpa using hw)) ⟨.bl _,H,I,rfl,?_⟩;rw[show its.toArray.any (eqU x)=its.any (eqU x) by simp,zIc r fs];exact q
theorem zGr:OpR X (compareOp .NotIn) (rIn X.K true):=by
 intro pins s σ H x y v u Q I rx ry h;obtain⟨p,xs,rfl,hq,fx,fs,q⟩:=h
 cases ry
 rcases hq with hq|hq
 .obtain ⟨its,r,pl,hz⟩:=I.list hq;refine SeqAt.notIn_listAt (eqU x) pl.isList (λw hw=>zF1 rx fx r fs w (by simpa using hw)) ⟨.bl _,H,I,rfl,?_⟩;rw[show its.toArray.any (eqU x)=its.any (eqU x) by simp,zIc r fs];exact q
 .obtain ⟨its,r,pl,hz⟩:=I.tuple hq;refine SeqAt.notIn_tupleAt (eqU x) pl (λw hw=>zF1 rx fx r fs w (by simpa using hw)) ⟨.bl _,H,I,rfl,?_⟩;rw[show its.toArray.any (eqU x)=its.any (eqU x) by simp,zIc r fs];exact q
theorem zAp:zCz X (.builtin "len") (λxs H Q=>∃p ys,xs=[.ref p]/\(SqL X.K H p ys\/SqT X.K H p ys)/\Q (.int ys.length) H):=by
 intro pins s σ H xs us Q I r h;obtain⟨p,ys,rfl,hq,q⟩:=h;obtain⟨u,rfl,rx⟩:=zI5 r
 cases rx
 have hn:=zHx;rcases hq with hq|hq
 .obtain ⟨its,r',pl,hz⟩:=I.list hq;have hlen:=r'.length;exact Calls.call_len_list pl.isList (by simp only[qAS]<;>lia) ⟨.int ys.length,H,I.tok _,⟨s.toks+1,by rw[qAS,hlen]⟩,q⟩
 .obtain ⟨its,r',pl,hz⟩:=I.tuple hq;have hlen:=r'.length;exact len_tuple pl (by simp only[qAS]<;>lia) ⟨.int ys.length,H,I.tok _,⟨s.toks+1,by rw[qAS,hlen]⟩,q⟩
theorem eV:zCz X (.builtin "len") (λxs H Q=>∃z,xs=[.str z]/\z.length<=sizeLine/\Q (.int z.length) H):=by
 intro pins s σ H xs us Q I r h;obtain⟨z,rfl,hz,q⟩:=h;obtain⟨u,rfl,t,rfl⟩:=zI5 r;have hn:=zHx;exact len_str (by lia) ⟨.int z.length,H,I.tok _,⟨_,rfl⟩,q⟩
theorem zBu:zCz X (.type "list") (λxs H Q=>∃p ys,xs=[.ref p]/\(SqL X.K H p ys\/SqT X.K H p ys)/\∀l,H l=none->Q (.ref l) (upd H l (.lst ys))):=by
 intro pins s σ H xs us Q I r h;obtain⟨p,ys,rfl,hq,q⟩:=h;obtain⟨u,rfl,rx⟩:=zI5 r
 cases rx
 have fin:∀(its:List Value),aj ys its->ys.length<=sizeLine->∀(h':Heap)(c':Nat),(∀b o',s.heap.get? b=some o'->h'.get? b=some o') ->
   h'.get? s.heap.objs.size=some {cls:=.type "list",dict:=none,data:=.seq its.toArray c',slots:=#[]}->EP X pins σ Q (.ref s.heap.objs.size) {s with heap:=h'}:=λits r' hz h' c' kp e=>
  ⟨.ref s.heap.objs.size,_,I.laid (t':=s.toks) kp (qAG _) (show zBq X.prog X.w _ h' _ (.lst ys)from⟨hz,its,c',r',e⟩),rfl,q _ (I.hok.fresh (qAG _))⟩
 rcases hq with hq|hq
 .obtain ⟨its,r',pl,hz⟩:=I.list hq;have hlen:=r'.length;obtain⟨o,ho,hc,n,hd⟩:=pl.isList;exact call_list_seq p (.inl rfl) ho hc hd (λh' c' kp e=>fin its r' hz h' c' kp e) (by simp only[qAS]<;>lia)
 .obtain ⟨its,r',pl,hz⟩:=I.tuple hq;have hlen:=r'.length;obtain⟨o,ho,hc,n,hd⟩:=pl;exact call_list_seq p (.inr rfl) ho hc hd (λh' c' kp e=>fin its r' hz h' c' kp e) (by simp only[qAS]<;>lia)
theorem zF7:zCz X (.type "tuple") (λxs H Q=>∃p ys,xs=[.ref p]/\((SqL X.K H p ys/\∀l,H l=none->Q (.ref l) (upd H l (.tup ys)))\/(SqT X.K H p ys/\Q (.ref p) H))):=by
 intro pins s σ H xs us Q I r h;obtain⟨p,ys,rfl,h⟩:=h;obtain⟨u,rfl,rx⟩:=zI5 r
 cases rx
 rcases h with⟨hq,q⟩|⟨hq,q⟩
 .obtain ⟨its,r',pl,hz⟩:=I.list hq;have hlen:=r'.length;refine call_tuple_list pl.isList (λh' kp=>?_) (by simp only[qAS]<;>lia);have I1:Inv X pins σ H {s with heap:=h'}:=I.kept (t':=s.toks) kp
  have I2:Inv X pins σ (upd H h'.objs.size (.tup ys)) {s with heap:=h'.push {cls:=.type "tuple",data:=.seq its.toArray}} :=
   I1.laid (t':=s.toks) (λb o e=>qAM _ e) (qAG _) (show zBq X.prog X.w _ _ _ (.tup ys)from⟨hz,its,r',IsTup.new _ _⟩)
  exact⟨.ref h'.objs.size,_,I2,rfl,q _ (I1.hok.fresh (qAG _))⟩
 .obtain ⟨its,r',pl,hz⟩:=I.tuple hq;exact call_tuple_same pl ⟨.ref p,H,I,rfl,q⟩
def tyV(K:PySem.W.Frag)(T:String)(x:V)(H:Hp):Prop:=match x with
 | .str _=>T="str"
 | .int _=>T="int"
 | .ref p=>(T="list"/\∃xs,SqL K H p xs)\/(T="tuple"/\∃o,K.lookup p=some o/\o.cls= .type "tuple"/\o.dict=none) \/
   (T="dict"/\((∃kvs,H p=some (.dK kvs))\/∃kvs,H p=some (.dT kvs)))\/(T="set"/\∃S n,H p=some (.set S n))
 |_=>False
theorem oG{pins:List (Addr×Obj)}{σ:St}{H:Hp}{s:Shared}{T:String}{v:Value}(I:Inv X pins σ H s)(r:am x v)(ty:tyV X.K T x H) :
  s.TypeIs v T/\∀a,v= .ref a->∃ob,s.heap.get? a=some ob/\ob.dict=none:=by
 cases x with
 |str z=>
  obtain⟨t,rfl⟩:=r
  cases (show T="str" from ty)
  exact⟨qBp s z t,λ_ e=>nomatch e⟩
 |int i=>
  obtain⟨t,rfl⟩:=r
  cases (show T="int" from ty)
  exact⟨typeIs_int s i t,λ_ e=>nomatch e⟩
 |ref p=>
  cases r
  rcases ty with⟨rfl,xs,hq⟩|⟨rfl,o,hk,hc,hd⟩|⟨rfl,hk⟩|⟨rfl,S,n,hk⟩
  .obtain ⟨its,_,pl,_⟩:=I.list hq;refine⟨pl.isList.typeIs,λa e=>?_⟩
   cases e
   obtain⟨o,n,e,c,hd,_⟩:=pl;exact⟨o,e,hd⟩
  .refine ⟨⟨o,I.kIn p o hk,hc⟩,λa e=>?_⟩
   cases e
   exact⟨o,I.kIn _ o hk,hd⟩
  .have z:∃o,s.heap.get? p=some o/\o.ExactDict:=by
    rcases hk with⟨kvs,hk⟩|⟨kvs,hk⟩
    .obtain ⟨_,_,_,_,o,_,_,e,ex,_⟩:=I.hok p _ hk;exact⟨o,e,ex⟩
    .obtain ⟨_,_,_,_,o,_,_,e,ex,_⟩:=I.hok p _ hk;exact⟨o,e,ex⟩
   obtain⟨o,e,ex⟩:=z;refine⟨⟨o,e,ex.1⟩,λa e2=>?_⟩
   cases e2
   exact⟨o,e,ex.2.1⟩
  .obtain ⟨o,_,_,_,e,ex,_⟩:=I.hok p _ hk;refine⟨⟨o,e,ex.1⟩,λa e2=>?_⟩
   cases e2
   exact⟨o,e,ex.2.1⟩
 |_=>exact False.elim ty
def vm(K:PySem.W.Frag)(T:String)(r:V->List V->Hp->VK->Prop)(to:TE):TE:=λσ H Q=>to σ H λx H1=>tyV K T x H1/\r x [] H1 Q
def tBM(K:PySem.W.Frag)(T:String)(r:V->List V->Hp->VK->Prop)(to:TE)(t:TA):TE:=λσ H Q=>to σ H λx H1=>tyV K T x H1/\t σ H1 λxs H2=>r x xs H2 Q
variable{o e:Expr}{es:List Expr}{to:TE}{t:TA}{name:Str}{apos cpos:Pos}{T id:String}{r:V->List V->Hp->VK->Prop}
theorem nJ(pa:PlainAttrs T)(slot:Slot T name id)(hty:typeOf (.builtin id)=pure (.type "method_descriptor"))(hm:MtR X id r)(ho:PE X o to)
  (hbase:attributeBase o name X.env (eval o X.env)=eval o X.env:=by rfl) (hline:(apos.endLine==cpos.line)=true:=by rfl):PE X (.Call (.Attribute o name apos) [] [] cpos) (vm X.K T r to):=by
 intro pins s σ H Q I h;refine wpAny_Call_method0_late hbase hline (thn (ho pins s σ H _ I h) λv s1 ⟨x,H1,I1,r1,ty,q1⟩=>?_);obtain⟨h1,h2⟩:=oG I1 r1 ty;exact⟨T,id,pa,slot,hty,h1,h2,Calls.callWith_builtin rfl (PySem.evalArgs_none (hm pins s1 σ H1 x [] v [] Q I1 r1 .nil q1))⟩
theorem zD6(pa:PlainAttrs T)(slot:Slot T name id)(hty:typeOf (.builtin id)=pure (.type "method_descriptor"))(hm:MtR X id r)(ho:PE X o to)(ha:PA X (e::es) t)
  (hbase:attributeBase o name X.env (eval o X.env)=eval o X.env:=by rfl)
  (hfew:((backTo cpos (starEach (e::es) X.env)).all (fun x=>!x.1)&&(backToKw cpos (keywordEach [] X.env)).all (fun x=>x.1.isSome)
   &&decide ((e::es).length+([]:List Keyword).length+(if([]:List Keyword).isEmpty then 0 else 1)<30))=true:=by rfl)
  (hline:(apos.endLine==cpos.line)=true:=by rfl) (hs:starEach (e::es) X.env=(false,eval e X.env)::starEach es X.env:=by rfl) (hplain:(backTo cpos (starEach es X.env)).any (·.1)=false:=by rfl) :
  PE X (.Call (.Attribute o name apos) (e::es) [] cpos) (tBM X.K T r to t):=by
 intro pins s σ H Q I h;refine wpAny_Call_method_late hbase hfew hline rfl (thn (ho pins s σ H _ I h) λv s1 ⟨x,H1,I1,r1,ty,q1⟩=>?_);obtain⟨h1,h2⟩:=oG I1 r1 ty;refine⟨T,id,pa,slot,hty,h1,h2,?_⟩;have hA:=ha cpos pins s1 σ H1 _ I1 q1;rw[hs]at hA ⊢;refine Calls.callWith_builtin (by show(false||(backTo cpos (starEach es X.env)).any (·.1))=false;rw[hplain]<;>rfl) (Calls.evalArgs_plain ?_);exact thn hA λus s2 ⟨vs,H2,I2,r2,q2⟩=>hm pins s2 σ H2 x vs v us Q I2 r1 r2 q2
end
def MtM(X:Cx)(id:String)(r:V->List V->Hp->VK->Prop):Prop :=
 ∀(pins:List (Addr×Obj)) (s:Shared) (σ:St) (H:Hp) (x:V) (xs:List V) (v:Value) (us:List Value) (Q:VK),Inv X pins σ H s->am x v->aj xs us->r x xs H Q ->
  wpAny (model X.prog X.w) X.A (call (.builtin id) (v::us)) (EP X pins σ Q) X.xe s
theorem aj.one:∀{x:V}{us:List Value},aj [x] us->∃u,us=[u]/\am x u
 |_,_,.cons r .nil=>⟨_,rfl,r⟩
theorem aj.two:∀{x y:V}{us:List Value},aj [x,y] us->∃u v,us=[u,v]/\am x u/\am y v
 |_,_,_,.cons r (.cons q .nil)=>⟨_,_,rfl,r,q⟩
theorem aj.zero:∀{us:List Value},aj [] us->us=[]
 |_,.nil=>rfl
theorem aj.dropLast{xs:List V}{us:List Value}(h:aj xs us):aj xs.dropLast us.dropLast:=by
 induction h with
 |nil=>exact .nil
 |cons r t ih=>
  cases t with
  |nil=>exact .nil
  |cons q t'=>exact .cons r ih
theorem aj.rep{xs:List V}{us:List Value}(h:aj xs us):∀k:Nat,aj (List.replicate k xs).flatten (List.replicate k us).flatten
 |0=>.nil
 |k+1=>by
  rw[qCX,qCX,qBA,qBA];exact aj.append h (aj.rep h k)
theorem gU(l:List α):l.eraseIdx (l.length-1)=l.dropLast:=by
 induction l with
 |nil=>rfl
 |cons a r ih=>
  cases r with
  |nil=>rfl
  |cons b r=>
   have e:(a::b::r).length-1=((b::r).length-1)+1:=by
    have h1:(a::b::r).length=r.length+2:=rfl;have h2:(b::r).length=r.length+1:=rfl;lia
   rw[e,List.eraseIdx_cons_succ,ih]
   all_goals rfl
theorem di(its:List Value):∀(k:Nat)(acc:List Value),
  List.foldl (λx1 x2=>x1++x2) acc.toArray (List.replicate k its.toArray)=(acc++(List.replicate k its).flatten).toArray
 |0,acc=>by simp
 |k+1,acc=>by
  have e:acc.toArray++its.toArray=(acc++its).toArray:=by simp
  have e2:(acc++its)++(List.replicate k its).flatten=acc++(List.replicate (k+1) its).flatten:=by
   rw[qCX,qBA,qBK]
  rw[<-e2,<-di its k (acc++its),<-e,qCX,qBr]
section
variable{X:Cx}{pins:List (Addr×Obj)}{σ:St}{H:Hp}{s:Shared}{l b:Addr}{xs ys zs:List V}
theorem Inv.lset{its its':List Value}{f:Array Value->Array Value}{t':Nat}(I:Inv X pins σ H s)(hH:H l=some (.lst xs))
  (e:s.heap.get? l=some {cls:=.type "list",data:=.seq its.toArray n}) (hf:f its.toArray=its'.toArray) (hv:aj ys its') (hz:ys.length<=sizeLine) :
  Inv X pins σ (upd H l (.lst ys)) {s with heap:=s.heap.update l (Obj.mapSeq f),toks:=t'}:=by
 have q:=PySem.IsL.update e f;rw[hf]at q;refine I.write (x:=l) (e:=l) (by rw[hH];exact trivial) (.inl rfl) (λb' u hb hu=>(qBq s.heap (Obj.mapSeq f) (qAh hb)).trans hu) ⟨_,q⟩ ?_;exact⟨hz,its',_,hv,q⟩
theorem Inv.lnew{its:List Value}{t':Nat}(I:Inv X pins σ H s)(hv:aj ys its)(hz:ys.length<=sizeLine) :
  Inv X pins σ (upd H s.heap.objs.size (.lst ys)) {s with heap:=s.heap.push {cls:=.type "list",data:=.seq its.toArray},toks:=t'} :=
 I.laid (λ_ _ q=>qAM _ q) (qAG _) ⟨hz,its,0,hv,qAk _ rfl⟩
theorem Inv.fresh(I:Inv X pins σ H s):H s.heap.objs.size=none:=I.hok.fresh (qAG _)
theorem Inv.lstM(I:Inv X pins σ H s)(hH:H l=some (.lst xs)):xs.length<=sizeLine/\∃(its:List Value)(n:Nat),aj xs its/\xs.length=its.length/\s.heap.get? l=some {cls:=.type "list",data:=.seq its.toArray n}:=by
 obtain⟨z,its,n,r,e⟩:=I.hok l _ hH;exact⟨z,its,n,r,r.length,e⟩
theorem fI(h:n<=sizeLine):Builtin.List.listTooLong n=false:=by
 unfold Builtin.List.listTooLong;exact qAZ (by lia)
end
section
variable{X:Cx}
inductive iU(x:V)(vs:List V)(H:Hp)(Q:VK):Prop
 |mk:∀l xs y,x= .ref l->vs=[y]->H l=some (.lst xs)->xs.length<sizeLine->Q .non (upd H l (.lst (xs++[y])))->iU x vs H Q
theorem zCb:MtM X "list.append" iU:=by
 intro pins s σ H x vs v us Q I rx rv h;obtain⟨l,xs,y,rfl,rfl,hH,hz,q⟩:=h
 cases rx
 obtain⟨u,rfl,ru⟩:=rv.one;obtain⟨z,its,n,r,hl,e⟩:=I.lstM hH;refine qBT F.slot_list_append ⟨_,e,rfl⟩ F.entry_list_append (F.args_list_append_2 _ _) (PySem.list_append l its.toArray n u (by rw[qAS];lia)) ⟨e,?_⟩;refine⟨.non,_,I.lset (its':=its++[u]) hH e (by simp) (r.append (.cons ru .nil)) ?_,rfl,q⟩;rw[qAN,qAn];lia
inductive jB(x:V)(vs:List V)(H:Hp)(Q:VK):Prop
 |mk:∀l b xs zs,x= .ref l->vs=[.ref b]->H l=some (.lst xs)->H b=some (.lst zs)->xs.length+zs.length<=sizeLine->Q .non (upd H l (.lst (xs++zs)))->jB x vs H Q
theorem zEv:MtM X "list.extend" jB:=by
 intro pins s σ H x vs v us Q I rx rv h;obtain⟨l,b,xs,zs,rfl,rfl,hH,hB,hz,q⟩:=h
 cases rx
 obtain⟨u,rfl,ru⟩:=rv.one
 cases ru
 obtain⟨z,its,n,r,hl,e⟩:=I.lstM hH;obtain⟨z2,its2,n2,r2,hl2,e2⟩:=I.lstM hB;have hsz:its.toArray.size+its2.toArray.size<=sizeLine:=by rw[qAS,qAS];lia
 have hlong:¬(!its.toArray.isEmpty&&Builtin.List.listTooLong (its.toArray.size+its2.toArray.size))=true:=by
  rw[fI hsz,Bool.and_false];exact qAd
 refine qBT F.slot_list_extend ⟨_,e,rfl⟩ F.entry_list_extend (F.args_list_extend_2 _ _)
  (AutoSeq1.list_extend_list_list_0 l its.toArray n b its2.toArray n2 hlong (by rw[qAS];lia) (by lia)) ⟨e,e2,?_⟩
 refine⟨.non,_,I.lset (its':=its++its2) hH e (by simp) (r.append r2) ?_,rfl,q⟩;rw[qAN];lia
inductive tZ(x:V)(vs:List V)(H:Hp)(Q:VK):Prop
 |mk:∀l xs y,x= .ref l->vs=[]->H l=some (.lst xs)->xs[xs.length-1]?=some y->Q y (upd H l (.lst xs.dropLast))->tZ x vs H Q
theorem nG:MtM X "list.pop" tZ:=by
 intro pins s σ H x vs v us Q I rx rv h;obtain⟨l,xs,y,rfl,rfl,hH,hy,q⟩:=h
 cases rx
 have hus:=rv.zero;subst hus;obtain⟨z,its,n,r,hl,e⟩:=I.lstM hH;obtain⟨u,hu,ru⟩:=r.get hy
 have hy':its.toArray[its.toArray.size-1]?=some u:=by
  show its.toArray[its.length-1]?=some u;rw[<-qAo,<-hl];exact hu
 refine qBT F.slot_list_pop ⟨_,e,rfl⟩ F.entry_list_pop (F.args_list_pop_1 _) (MeetsSeq.list_pop_last l its.toArray n u hy' (by rw[qAS];lia)) ⟨e,?_⟩;refine⟨y,_,I.lset (its':=its.dropLast) hH e ?_ r.dropLast ?_,ru,q⟩
 .show its.toArray.eraseIdxIfInBounds (its.toArray.size-1)=its.dropLast.toArray;rw[qAS,List.eraseIdxIfInBounds_toArray,gU]
 .rw [List.length_dropLast];lia
inductive lu(x:V)(y:V)(H:Hp)(Q:VK):Prop
 |mk:∀l b xs zs,x= .ref l->y= .ref b->H l=some (.lst xs)->H b=some (.lst zs)->xs.length+zs.length<=sizeLine->(∀p,H p=none->Q (.ref p) (upd H p (.lst (xs++zs))))->lu x y H Q
theorem zC0:OpR X (binaryOp .Add) lu:=by
 intro pins s σ H x y v u Q I rx ry h;obtain⟨l,b,xs,zs,rfl,rfl,hH,hB,hz,q⟩:=h
 cases rx
 cases ry
 obtain⟨z,its,n,r,hl,e⟩:=I.lstM hH;obtain⟨z2,its2,n2,r2,hl2,e2⟩:=I.lstM hB;refine PySem.P.add_list e e2 ?_ (by rw[qAS,qAS];lia);have ea:its.toArray++its2.toArray=(its++its2).toArray:=by simp
 rw[ea];exact⟨.ref _,_,I.lnew (t':=s.toks) (r.append r2) (by rw[qAN];lia),rfl,q _ I.fresh⟩
inductive u5(x:V)(y:V)(H:Hp)(Q:VK):Prop
 |mk:∀l k xs,x= .ref l->y= .int k->H l=some (.lst xs)->-(2^63)<=k->k<2^63->xs.length*k.toNat<=sizeLine->(∀p,H p=none->Q (.ref p) (upd H p (.lst (List.replicate k.toNat xs).flatten)))->u5 x y H Q
theorem dY(xs:List α)(k:Nat):(List.replicate k xs).flatten.length=k*xs.length:=by
 induction k with
 |zero=>simp
 |succ k ih=>rw[qCX,qBA,qAN,ih,Nat.succ_mul,qCs]
theorem g_:OpR X (binaryOp .Mult) u5:=by
 intro pins s σ H x y v u Q I rx ry h;obtain⟨l,k,xs,rfl,rfl,hH,h1,h2,hz,q⟩:=h
 cases rx
 obtain⟨t,rfl⟩:=ry;obtain⟨z,its,n,r,hl,e⟩:=I.lstM hH;have hlen:its.toArray.size*k.toNat<=sizeLine:=by rw[qAS,<-hl];exact hz
 have hcap:¬its.toArray.size*k.toNat>(2^63-1) / 8:=by
  have:(sizeLine:Nat)<=(2^63-1) / 8:=by decide
  lia
 have hfit:¬(!Builtin.List.listFitsIndex k)=true:=by
  rw[fitsIndex_both h1 h2];exact qAd
 have hlong:¬Builtin.List.listTooLong (its.toArray.size*k.toNat)=true:=by
  rw[fI hlen];exact qAd
 have hnew:List.foldl (λx1 x2=>x1++x2) #[] (List.replicate (if its.toArray.isEmpty=true then 0 else k.toNat) its.toArray)=(List.replicate k.toNat its).flatten.toArray:=by
  have f0:∀m:Nat,List.foldl (λx1 x2=>x1++x2) #[] (List.replicate m its.toArray)=(List.replicate m its).flatten.toArray:=λm=>by
   have:=di its m [];rw[List.nil_append]at this;exact this
  rw[f0]
  cases its with
  |nil=>simp
  |cons a r'=>rw[qAB (by simp)]
 refine wpAny_binaryOp_repeat_ref (T:="list") (U:="int") (by decide) ⟨_,e,rfl⟩ (λs'=>typeIs_int s' k t) noFill_list_mul F.fills_int_mul F.slot_int_rmul repeat_list F.slot_int_index.lookup
  (qBT F.slot_int_rmul (typeIs_int s k t) F.entry_int_rmul (F.args_int_rmul_2 _ _) (int___rmul___int_list k t l its.toArray n)
   ⟨e,rfl,⟨_,e,rfl⟩,qBT F.slot_list_mul ⟨_,e,rfl⟩ F.entry_list_mul (F.args_list_mul_2 _ _) (AutoListH.list___mul___list_int_3 l its.toArray n k t hfit hcap hlong) ⟨e,?_⟩⟩)
 rw[hnew];exact⟨.ref _,_,I.lnew (t':=s.toks) (r.rep k.toNat) (by rw[dY,Nat.mul_comm];exact hz),rfl,q _ I.fresh⟩
end
section
variable{prog:Program}{w:World}{A:Around}{E:Value->Shared->Prop}{s:Shared}
set_option maxRecDepth 100000 in
end
end L2
namespace Att
open PySem PySem.W PySem.Calls PyProof.Rows
theorem zH4{P:Params}{h:Heap}:∀(ns:List Int)(vs:List Value),WellAll P h vs (ns.map WData.int)->IntsAre vs ns:=by
 intro ns
 induction ns with
 |nil=>
  intro vs w;rw[List.map_nil]at w
  cases w
  exact .nil
 |cons n ns ih=>
  intro vs w;rw[qAt]at w
  cases w with
  |cons a b=>
   cases a
   exact .cons _ _ (ih _ b)
theorem j8{l:OpenLaw}{n:Nat}(hn:l.most=some n){P:Params}{h:Heap}{args:List WData}{vals:List Value}
  (hpre:l.row.toRowW.claim.pre args=true) (hwl:WellAll P h vals args) :
  ∃a vs ns,vals=[Value.ref a]/\args=[WData.list (ns.map WData.int)]/\h.get? a=some {cls:=.type "list",data:=.seq vs.toArray}/\IntsAre vs ns/\ns.length<=n:=by
 have hsh:WShape.hasAll [] args [.list .int]=true:=(pre_splitW hpre).1;have hc:l.pre.holds [] {args:=args}=true:=(pre_splitW hpre).2;obtain⟨d,r,rfl,h1,h2⟩:=hasAllW_cons hsh;obtain rfl:=hasAllW_nil h2;obtain⟨xs,rfl,h3⟩:=hasW_list h1;obtain⟨ns,rfl⟩:=items_int h3
 have hlen:ns.length<=n:=by
  unfold OpenLaw.pre at hc
  have h4:(WTm.not (.lt (.lit (.int (n:Int))) (.len (.arg 0)))).holds [] {args:=[.list (ns.map .int)]}=true:=by
   have h4:=(holds_andW hc).1;rw[hn]at h4;exact h4
  have h5:=condW_of h4 (w_not (w_lt w_lit (w_len_list (w_arg rfl))));rw[qAD]at h5;refine Nat.le_of_not_lt λq=>?_;have q':(n:Int)<((ns.length:Nat):Int):=by lia
  first
   |(rw[qAV q']at h5;exact absurd h5 (by decide))
   |(simp at h5;lia)
 cases hwl with
 |cons w1 w2=>
  cases w2
  cases w1 with
  |list ho hall=>exact⟨_,_,ns,rfl,rfl,ho,zH4 ns _ hall,hlen⟩
theorem kq(l:OpenLaw)(args:List WData):l.row.toRowW.claim.post args (.bool true) args=true :=
 postW_of (r:=l.row.toRowW) (X:=(true==true))
  (show WShape.has [] (.bool true) .bool=true by first|rfl|decide|simp[WShape.has,WShape.arms,WShape.armsAll])
  (show(WTm.eq .res (.lit (.bool true))).value [] {args:=args,res:=some (.bool true),after:=args}=some (.bool (true==true))from w_eq_bool (w_res rfl) w_lit) rfl
theorem attach_call{l:OpenLaw}{n:Nat}{q:Program}{loose:List Str}{XP:(Str->Option Value)->Heap->Prop}{YP:World->Heap->Prop}{d:DefRec}
  (hn:l.most=some n) (hdf:d.params.defaults=[])
  (call:∀(w:World) (s₀ s₁:Shared) (mg mb:Str->Option Value) (fa:Addr) (o:Obj) (pm cd doc:Value) (a:Addr) (vs:List Value) (ns:List Int),
   Ground q loose [] XP w s₀ mg mb s₁.heap->YP w s₁.heap ->
   s₁.heap.get? fa=some o->o.data= .func (docDef d.name d.params d.body d.scope pm cd doc)->s₁.heap.CodeRec cd d.name->mg d.name=some (.ref fa) ->
   s₁.heap.get? a=some {cls:=.type "list",data:=.seq vs.toArray}->IntsAre vs ns->ns.length<=n->s₁.gens=#[] ->
   codeAny (model l.prog w) callerA (.call (.ref fa) ⟨[.ref a],[]⟩) (λr s'=>r= .ok (.ret (.bool true))/\OldK s₁.heap s'.heap/\s'.os=s₁.os/\AllBare s'.gens) s₁) :
  WalkO q loose XP YP l.row.toRowW d [] (λf vs=>PySem.call f vs):=by
 intro w s₀ s₁ mg mb G Y fa o pm cd doc dV kV ho hd hcd hD hmg hg args vals as hpre hlay hrd hwl hlo;obtain rfl:dV= .none:=Dflts.none hD hdf;obtain rfl:kV= .none:=Dflts.noKw hD;obtain⟨a,vs,ns,rfl,rfl,hobj,hints,hlen⟩:=j8 hn hpre hwl;refine enter_call (qBf (call w s₀ s₁ mg mb fa o pm cd doc a vs ns G Y ho (fd_plain hd) hcd hmg hobj hints hlen hg) λr s' hq=>?_);obtain⟨rfl,h2,h3,h4⟩:=hq;exact⟨.inl ⟨.bool true,.bool true,[],rfl,λ_=>rfl,.bool true,kq l _,λ_=>⟨List.Pairwise.nil,λ_ hm=>(nomatch hm)⟩⟩,h2,h3,h4⟩
end Att
namespace L2
open PySem PySem.Spec PyProof.Rows
variable{x qual:Str}{H H':Hp}{a:Addr}{u:Value}{y:V}{w:World}
theorem dn:∀{vs:List Value}{ns:List Int},IntsAre vs ns->aj (ns.map V.int) vs
 |_,_,.nil=>.nil
 |_,_,.cons n t h=>.cons ⟨t,rfl⟩ (dn h)
def dM(s:Stmt)(j:Nat):Stmt:=match s with
 | .ClassDef _ _ _ body _ _ _ _ _ _ _=>body.getD j (.Pass ⟨0,0,0,0⟩)
 |_=>.Pass ⟨0,0,0,0⟩
def zDq(s:Stmt):Arguments:=match s with
 | .FunctionDef _ a _ _ _ _ _ _ _ _=>a
 |_=>{posonlyargs:=[],args:=[],vararg:=none,kwonlyargs:=[],kw_defaults:=[],kwarg:=none,defaults:=[]}
def zCt(s:Stmt):List Stmt:=match s with
 | .FunctionDef _ _ b _ _ _ _ _ _ _=>b
 |_=>[]
def zAg(s:Stmt):Scope:=match s with
 | .FunctionDef _ _ _ _ _ _ sc _ _ _=>sc
 |_=>{kind:=.function,names:=[],isGenerator:=false,isCoroutine:=false}
abbrev CX0:CXT:=λ_ _ _ _ _ _=>False
abbrev E0:XK:=λ_ _ _=>False
theorem jl{X:Cx}:zIe CX0 X E0:=λ_ _ _ _ _ _ _ h=>h.elim
structure Fun(K:PySem.W.Frag)(x qual:Str)(st:Stmt)(f:Addr)(fd:FuncData):Prop where
 ex:∃(oc:Value)(od:Option Addr)(kV doc pm:Value)(an:Option Addr)(cdv ct:Value) (osl:Array (Option Value)),
  fd=PySem.W.fnOf x qual (zDq st) (zCt st) (zAg st) .none kV doc pm an cdv ct/\K.lookup f=some ⟨oc,od,.func fd,osl⟩/\PySem.W.codeIn K cdv qual=true
 kp:PySem.W.keepIn K (.ref f)=true
section
variable{P:Program}{w:World}{K:PySem.W.Frag}{mg:Str->Option Value}{base:Heap}
theorem Fun.ok{st:Stmt}{f:Addr}{fd:FuncData}{N ps:List Str}{k:Nat}{sp:Sp}(F:Fun K x qual st f fd)(S:ag N ps (zAg st))(len:∀vs H Q E,sp vs H Q E->vs.length=ps.length)
  (hbody:∀(cdv:Value) (A:Around) (outer:List Env) (s:Shared) (H:Hp) (vs:List V) (Q:VK) (E:XK),aB k (A.deeper (envOfC qual (zAg st) s.heap.objs.size f cdv))->sp vs H Q E ->
   ∃t,PSs (aM CX0 P w K mg base N qual (zAg st) f cdv A outer s H E).nox (zCt st) t/\t {nx:=λ_ H'=>Q .non H',rt:=Q} (start N vs) H):ak P w K mg base CX0 (k+1) f fd ps sp:=by
 obtain⟨oc,od,kV,doc,pm,an,cdv,ct,osl,rfl,lk,hcd⟩:=F.ex;refine qN lk hcd S len λA outer s H vs Q E hr hsp=>?_;obtain⟨t,h,q⟩:=hbody cdv A outer s H vs Q E hr hsp;exact⟨t,h.nox,q⟩
theorem Fun.binds{st:Stmt}{f:Addr}{fd:FuncData}{ps:List Str}(F:Fun K x qual st f fd)
  (h:∀(kV doc pm:Value)(an:Option Addr)(cdv ct:Value)(us:List Value),us.length=ps.length->bindArgs (PySem.W.fnOf x qual (zDq st) (zCt st) (zAg st) .none kV doc pm an cdv ct) ⟨us,[]⟩=pure (ps.zip us)):zDe K fd ps []:=by
 obtain⟨oc,od,kV,doc,pm,an,cdv,ct,osl,rfl,lk,hcd⟩:=F.ex;exact .all (h kV doc pm an cdv ct)
theorem ot{st:Stmt}{f:Addr}{oc:Value}{od an:Option Addr}{osl:Array (Option Value)}{kV doc pm cdv ct:Value}(l:K.lookup f=some ⟨oc,od,.func (PySem.W.fnOf x qual (zDq st) (zCt st) (zAg st) .none kV doc pm an cdv ct),osl⟩)
  (c:PySem.W.codeIn K cdv qual=true) (k:PySem.W.keepIn K (.ref f)=true):Fun K x qual st f (PySem.W.fnOf x qual (zDq st) (zCt st) (zAg st) .none kV doc pm an cdv ct):=⟨⟨oc,od,kV,doc,pm,an,cdv,ct,osl,rfl,l,c⟩,k⟩
end
theorem zF2{A:Around}{k:Nat}(hr:aB k A):A.units+1<cLine:=Nat.lt_of_le_of_lt (Nat.add_le_add_left (by decide:1<=64) _) hr.units
section
variable{X:Cx}
theorem pv(i:Nat){pos:Pos}(hN:X.N[i]?=some x:=by rfl)(hv:Vis X.env.scope x:=by first|exact Or.inl rfl|exact Or.inr (Or.inl rfl)|exact Or.inr (Or.inr rfl))(hd:(x==("__debug__": Str))=false:=by decide)
  (hcd:(x==("__classdict__": Str))=false:=by decide):PE X (.Name x pos) (bu i):=sw hN hv hd hcd
end
theorem aw{A B:Prop}(h:B):if false=true then A else B:=by
 rw[qAB qAd];exact h
theorem bp{A B:Prop}(h:A):if true=true then A else B:=by
 rw[qAC rfl];exact h
theorem aA{c A B:Prop}[Decidable c](h1:c->A)(h2:¬c->B):if c then A else B:=by
 by_cases h:c
 .rw [qAC h];exact h1 h
 .rw [qAB h];exact h2 h
def rG(H H':Hp):Prop:=∀b o,H b=some o->H' b=some o
theorem rG.seq{K:PySem.W.Frag}{xs:List V}(e:rG H H')(h:SqL K H a xs):SqL K H' a xs:=by
 rcases h with(h|⟨o,h⟩)|h
 .exact .inl (.inl (e _ _ h))
 .exact .inl (.inr ⟨o,e _ _ h⟩)
 .exact .inr h
section
variable{κ:Type}[DecidableEq κ]
def aR(kvs:List (κ×V))(k:κ):Option V:=(kvs.find? λkv=>decide (kv.1=k)).map (·.2)
def aT(kvs:List (κ×V))(k:κ)(v:V):List (κ×V) :=
 if(kvs.any λkv=>decide (kv.1=k))=true then kvs.map (λkv=>if kv.1=k then(kv.1,v)else kv)else kvs++[(k,v)]
theorem zGy{p:κ×V}{r:List (κ×V)}{k:κ}(e:p.1=k):aR (p::r) k=some p.2:=by simp[aR,qCJ,e]
theorem zGz{p:κ×V}{r:List (κ×V)}{k:κ}(e:¬p.1=k):aR (p::r) k=aR r k:=by simp[aR,qCJ,e]
theorem zG0(k:κ):∀kvs:List (κ×V),(kvs.any λkv=>decide (kv.1=k))=(aR kvs k).isSome
 |[]=>rfl
 |p::r=>by
  rw[qCI]
  by_cases e:p.1=k
  .simp only[zGy e,qAV e,Bool.true_or,Option.isSome_some]
  .rw [zGz e,qAZ e,Bool.false_or];exact zG0 k r
theorem zFi(kvs:List (κ×V))(k:κ)(v:V):(aT kvs k v).length<=kvs.length+1:=by
 unfold aT;split
 .rw [qAD];lia
 .rw [qAN,qAa,qBB];lia
theorem nN{kvs:List (κ×V)}{k:κ}(v:V)(h:aR kvs k=none):aT kvs k v=kvs++[(k,v)]:=by
 unfold aT;rw[zG0,h];exact qAB (by decide)
theorem bj.isSome_eq{o:Option V}{u:Option Value}(r:bj o u):o.isSome=u.isSome:=by
 cases o with
 |none=>cases u with
  |none=>rfl
  |some _=>exact(show False from r).elim
 |some _=>cases u with
  |none=>exact(show False from r).elim
  |some _=>rfl
theorem KV.val{kvs:List (κ×V)}{vs:List (κ×Value)}(r:KV kvs vs)(k:κ):bj (aR kvs k) (valueAt vs k):=by
 unfold KV at r
 induction r with
 |nil=>exact True.intro
 |@cons p q ps qs h t ih=>
  obtain⟨h1,h2⟩:=h
  by_cases e:p.1=k
  .have e':q.1=k:=h1.symm.trans e;have b:valueAt (q::qs) k=some q.2:=by simp[valueAt,qCJ,e']
   rw[zGy e,b];exact h2
  .have e':¬q.1=k:=λz=>e (h1.trans z);have b:valueAt (q::qs) k=valueAt qs k:=by simp[valueAt,qCJ,e']
   rw[zGz e,b];exact ih
theorem KV.any{kvs:List (κ×V)}{vs:List (κ×Value)}(r:KV kvs vs)(k:κ):(kvs.any λkv=>decide (kv.1=k))=vs.any λkv=>decide (kv.1=k):=by
 unfold KV at r
 induction r with
 |nil=>rfl
 |cons h t ih=>rw[qCI,qCI,ih,h.1]
theorem KV.repl{kvs:List (κ×V)}{vs:List (κ×Value)}(r:KV kvs vs)(k:κ)(ry:am y u) :
  KV (kvs.map λkv=>if kv.1=k then(kv.1,y)else kv) (vs.map λkv=>if kv.1=k then(kv.1,u)else kv):=by
 unfold KV at r ⊢
 induction r with
 |nil=>exact .nil
 |@cons p q ps qs h t ih=>
  rw[qAt,qAt];refine .cons ?_ ih;obtain⟨h1,h2⟩:=h
  by_cases e:p.1=k
  .rw [qAC e,qAC (h1.symm.trans e)];exact⟨h1,ry⟩
  .rw [qAB e,qAB (λz=>e (h1.trans z))];exact⟨h1,h2⟩
theorem KV.put{kvs:List (κ×V)}{vs:List (κ×Value)}(r:KV kvs vs)(k:κ)(ry:am y u):KV (aT kvs k y) (stored vs k u):=by
 unfold aT stored;rw[r.any k]
 by_cases e:(vs.any λkv=>decide (kv.1=k))=true
 .rw [qAC e,qAC e];exact r.repl k ry
 .rw [qAB e,qAB e];exact Paired.snoc r ⟨rfl,ry⟩
theorem KV.length{kvs:List (κ×V)}{vs:List (κ×Value)}(r:KV kvs vs):kvs.length=vs.length:=qCD r
end
theorem fO{P:Program}{k:Key}(r:am (kV k) u):(zB5 P w).is k u=true:=by
 cases k with
 |inl i=>obtain⟨t,e⟩:=(show∃t,u=Value.int i t from r);subst e;exact gE P w i t
 |inr x=>obtain⟨t,e⟩:=(show∃t,u=Value.str x t from r);subst e;exact gx P w x t
theorem dw{P:Program} :∀{ks:List Key}{us:List Value},aj (ks.map kV) us->ItemsAre (zB5 P w) ks us
 |[],_,r=>by rw[List.map_nil]at r;cases r;exact .nil
 |k::ks,_,r=>by
  rw[qAt]at r
  cases r with
  |cons h t=>exact .cons (fO h) (dw t)
abbrev KT(H:Hp):List (List Key×V)->List (List Key×Addr×Value)->Prop:=Paired λp q=>p.1=q.1/\H q.2.1=some (.tup (p.1.map kV))/\am p.2 q.2.2
theorem KT.val{kvs:List (List Key×V)}{xs:List (List Key×Addr×Value)}(r:KT H kvs xs)(k:List Key):bj (aR kvs k) ((atKey xs k).map (·.2)):=by
 induction r with
 |nil=>exact True.intro
 |@cons p q ps qs h t ih=>
  obtain⟨h1,_,h2⟩:=h
  by_cases e:p.1=k
  .have e':q.1=k:=h1.symm.trans e;have b:atKey (q::qs) k=some q.2:=by simp[atKey,qCJ,e']
   rw[zGy e,b];exact h2
  .have e':¬q.1=k:=λz=>e (h1.trans z);have b:atKey (q::qs) k=atKey qs k:=by simp[atKey,qCJ,e']
   rw[zGz e,b];exact ih
theorem KT.repl{kvs:List (List Key×V)}{xs:List (List Key×Addr×Value)}(r:KT H kvs xs)(k:List Key)(ry:am y u) :
  KT H (kvs.map λkv=>if kv.1=k then(kv.1,y)else kv) (xs.map (putAt k u)):=by
 induction r with
 |nil=>exact .nil
 |@cons p q ps qs h t ih=>
  rw[qAt,qAt];refine .cons ?_ ih;obtain⟨h1,h2,h3⟩:=h;unfold putAt
  by_cases e:p.1=k
  .rw [qAC e,qAC (h1.symm.trans e)];exact⟨h1,h2,ry⟩
  .rw [qAB e,qAB (λz=>e (h1.trans z))];exact⟨h1,h2,h3⟩
theorem KT.put{kvs:List (List Key×V)}{xs:List (List Key×Addr×Value)}(r:KT H kvs xs)(k:List Key){b:Addr}(hb:H b=some (.tup (k.map kV)))(ry:am y u) :
  KT H (aT kvs k y) (storedH xs k b u):=by
 have e:(kvs.any λkv=>decide (kv.1=k))=(atKey xs k).isSome:=by
  rw[zG0,(r.val k).isSome_eq,Option.isSome_map]
 unfold aT storedH;rw[e]
 by_cases q:(atKey xs k).isSome=true
 .rw [qAC q,qAC q];exact r.repl k ry
 .rw [qAB q,qAB q];exact Paired.snoc r ⟨rfl,hb,ry⟩
theorem KT.keeps{kvs:List (List Key×V)}{xs:List (List Key×Addr×Value)}(r:KT H kvs xs)(ht:∀b ys,H b=some (.tup ys)->H' b=some (.tup ys)):KT H' kvs xs :=
 Paired.mapP r λ_ _ z=>⟨z.1,ht _ _ z.2.1,z.2.2⟩
section
variable{P:Program}{w:World}{H:Hp}{h:Heap}{a:Addr}
theorem qY{u:HO}(ok:HOk P w H h)(e:Rd H a u):zBq P w H h a u:=e.ok ok
theorem bX{kvs:List (Key×V)}(ok:HOk P w H h)(e:Rd H a (.dK kvs)):kvs.length<=sizeLine/\(a==sysModules)=false/\∃vs,KV kvs vs/\h.DictOf (zB5 P w) a vs :=
 show zBq P w H h a (.dK kvs)from qY ok e
theorem ue{kvs:List (Key×V)}(ok:HOk P w H h)(e:H a=some (.dK kvs)):kvs.length<=sizeLine/\(a==sysModules)=false/\∃vs,KV kvs vs/\h.DictOf (zB5 P w) a vs:=bX ok (.inl e)
theorem bT{ks:List Key}(ok:HOk P w H h)(e:H a=some (.tup (ks.map kV))):(tupleKind (zB5 P w)).is h ks a:=by
 obtain⟨_,its,r,o,h1,h2,n,h3⟩:=(show zBq P w H h a (.tup (ks.map kV))from ok a _ e);exact⟨o,its.toArray,n,h1,h2,h3,by simpa using dw r⟩
theorem gh{kvs:List (List Key×V)}(ok:HOk P w H h)(e:Rd H a (.dT kvs)):kvs.length<=sizeLine/\(a==sysModules)=false /\
  ∃xs,KT H kvs xs/\h.DictOfH (tupleKind (zB5 P w)) a xs:=by
 obtain⟨z,y,xs,r,o,es,ep,h1,h2,h3,h4,h5⟩:=(show zBq P w H h a (.dT kvs)from qY ok e);refine⟨z,y,xs,r,o,es,ep,h1,h2,h3,h4,λx hx=>?_,h5⟩
 have all:∀{l:List (List Key×V)} {m:List (List Key×Addr×Value)},KT H l m->∀x∈m,(tupleKind (zB5 P w)).is h x.1 x.2.1:=by
  intro l m q
  induction q with
  |nil=>intro x hx;exact nomatch hx
  |@cons p q ps qs hq t ih=>
   intro x hx;rcases qAT.mp hx with e|hx
   .subst e;exact bT ok (by rw[<-hq.1];exact hq.2.1)
   .exact ih x hx
 exact all r x hx
theorem ug{kvs:List (List Key×V)}(ok:HOk P w H h)(e:H a=some (.dT kvs)):kvs.length<=sizeLine/\(a==sysModules)=false /\
  ∃xs,KT H kvs xs/\h.DictOfH (tupleKind (zB5 P w)) a xs:=gh ok (.inl e)
end
def aH(H:Hp)(a:Addr)(y:V)(r:Option V):Prop :=
 (∃kvs k,Rd H a (.dK kvs)/\y=kV k/\r=aR kvs k)\/∃kvs k b,Rd H a (.dT kvs)/\y= .ref b/\H b=some (.tup (k.map kV))/\r=aR kvs k
def bz(H:Hp)(a:Addr)(y v:V)(H':Hp):Prop :=
 (∃kvs k,H a=some (.dK kvs)/\y=kV k/\kvs.length<sizeLine/\H'=upd H a (.dK (aT kvs k v))) \/
 ∃kvs k b,H a=some (.dT kvs)/\y= .ref b/\H b=some (.tup (k.map kV))/\kvs.length<sizeLine/\H'=upd H a (.dT (aT kvs k v))
theorem aH.k{kvs:List (Key×V)}{k:Key}(e:H a=some (.dK kvs)):aH H a (kV k) (aR kvs k):=.inl ⟨kvs,k,.inl e,rfl,rfl⟩
theorem bz.k{kvs:List (Key×V)}{k:Key}{v:V}(e:H a=some (.dK kvs))(hl:kvs.length<sizeLine):bz H a (kV k) v (upd H a (.dK (aT kvs k v))):=.inl ⟨kvs,k,e,rfl,hl,rfl⟩
section
variable{X:Cx}{pins:List (Addr×Obj)}{σ:St}{H:Hp}{s:Shared}{a:Addr}{y v:V}{u r:Value}{o:Option V}{A:Around}{E:Value->Shared->Prop}
theorem Inv.big(I:Inv X pins σ H s):sysModules<s.heap.objs.size:=by
 have h:mainGlobals<s.heap.objs.size:=(I.mod.glob.keeps I.bk).lt;exact qCt (by decide) h
theorem lw{Q:Value->Shared->Prop}(hu:A.units+1<cLine)(I:Inv X pins σ H s)(g:aH H a y (some v))(ry:am y u)(h:∀w' s',Inv X pins σ H s'->am v w'->Q w' s') :
  wpAny (model X.prog X.w) A (getItem (.ref a) u) Q E s:=by
 rcases g with⟨kvs,k,e,ey,l⟩|⟨kvs,k,b,e,ey,eb,l⟩
 .subst ey;obtain⟨z,hd,vs,rel,dd⟩:=bX I.hok e;obtain⟨w',hw,rw'⟩:=bj.some_of (v:=v) (o:=valueAt vs k) (by rw[l];exact rel.val k);exact wpAny_getItem_of (fO ry) dd.mapOf hw (h w' _ (I.tok _) rw')
 .subst ey
  cases (show u=Value.ref b from ry)
  obtain⟨z,hd,xs,rel,dd⟩:=gh I.hok e;obtain⟨w',hw,rw'⟩:=bj.some_of (v:=v) (o:=(atKey xs k).map (·.2)) (by rw[l];exact rel.val k);obtain⟨p,hp,hp2⟩:=qBU.mp hw;refine wpAny_getItem_heap (qCu hu) (bT I.hok eb) dd hp ?_;rw[hp2];exact h w' _ (I.tok _) rw'
theorem va{Q:Value->Shared->Prop}(hu:A.units+1<cLine)(I:Inv X pins σ H s)(g:aH H a y o)(ry:am y u)(h:∀s',Inv X pins σ H s'->Q (.bool o.isSome) s') :
  wpAny (model X.prog X.w) A (compareOp .In u (.ref a)) Q E s:=by
 rcases g with⟨kvs,k,e,ey,l⟩|⟨kvs,k,b,e,ey,eb,l⟩
 .subst ey;obtain⟨z,hd,vs,rel,dd⟩:=bX I.hok e;refine wpAny_in_of (fO ry) hd dd.mapOf ?_;rw[<-(rel.val k).isSome_eq,<-l];exact h _ (I.tok _)
 .subst ey
  cases (show u=Value.ref b from ry)
  obtain⟨z,hd,xs,rel,dd⟩:=gh I.hok e;refine wpAny_in_heap (qCu hu) (bT I.hok eb) hd dd ?_;have q:=(rel.val k).isSome_eq;rw[Option.isSome_map]at q;rw[<-q,<-l];exact h _ (I.tok _)
theorem qq{Q:Value->Shared->Prop}(hu:A.units+1<cLine)(I:Inv X pins σ H s)(g:aH H a y o)(ry:am y u)(h:∀s',Inv X pins σ H s'->Q (.bool (!o.isSome)) s') :
  wpAny (model X.prog X.w) A (compareOp .NotIn u (.ref a)) Q E s:=by
 rcases g with⟨kvs,k,e,ey,l⟩|⟨kvs,k,b,e,ey,eb,l⟩
 .subst ey;obtain⟨z,hd,vs,rel,dd⟩:=bX I.hok e;refine wpAny_notIn_of (fO ry) hd dd.mapOf ?_;rw[<-(rel.val k).isSome_eq,<-l];exact h _ (I.tok _)
 .subst ey
  cases (show u=Value.ref b from ry)
  obtain⟨z,hd,xs,rel,dd⟩:=gh I.hok e;refine wpAny_notIn_heap (qCu hu) (bT I.hok eb) hd dd ?_;have q:=(rel.val k).isSome_eq;rw[Option.isSome_map]at q;rw[<-q,<-l];exact h _ (I.tok _)
theorem iX{h':Heap}{t':Nat}{ob:HO}(I:Inv X pins σ H s)(mu:Mut (H a))(hs:Heap.SameBut a s.heap h')(he:∃q,h'.get? a=some q)(new:zBq X.prog X.w (upd H a ob) h' a ob) :
  Inv X pins σ (upd H a ob) {s with heap:=h',toks:=t'} :=
 I.write (x:=a) (e:=a) mu (.inl rfl) (λb q hb z=>(hs.2 b hb).trans z) he new
theorem tU{P:Program}{h':Heap}{kvs:List (Key×V)}{vs:List (Key×Value)}(z:kvs.length<=sizeLine)(hd:(a==sysModules)=false)(rel:KV kvs vs)(dd:h'.DictOf (zB5 P w) a vs) :
  zBq P w H' h' a (.dK kvs):=⟨z,hd,vs,rel,dd⟩
theorem ls{Q:Unit->Shared->Prop}(hu:A.units+1<cLine)(I:Inv X pins σ H s)(g:bz H a y v H')(ry:am y u)(rv:am v r)(h:∀s',Inv X pins σ H' s'->Q () s') :
  wpAny (model X.prog X.w) A (setItem (.ref a) u r) Q E s:=by
 rcases g with⟨kvs,k,e,ey,l,eH⟩|⟨kvs,k,b,e,ey,eb,l,eH⟩
 .subst ey eH;obtain⟨z,hd,vs,rel,dd⟩:=ue I.hok e;have hz:vs.length<=sizeLine:=by rw[<-rel.length];exact z
  have hl:(aT kvs k v).length<=sizeLine:=by have:=zFi kvs k v;lia
  refine wpAny_setItem_pairs (hsz:=hz) (fO ry) dd λh' dd' hs=>h _ ?_;have he:∃q,h'.get? a=some q:=let⟨q,_,_,hq,_⟩:=dd';⟨q,hq⟩;exact iX I (by rw[e];exact True.intro) hs he (tU hl hd (rel.put k rv) dd')
 .subst ey eH
  cases (show u=Value.ref b from ry)
  obtain⟨z,hd,xs,rel,dd⟩:=ug I.hok e;have hz:xs.length<=sizeLine:=by rw[<-qCD rel];exact z
  have hl:(aT kvs k v).length<=sizeLine:=by have:=zFi kvs k v;lia
  refine wpAny_setItem_heap (hsz:=hz) (qCu hu) (bT I.hok eb) dd λh' dd' hs=>h _ ?_;obtain⟨q,es,ep,hq,h2,h3,h4,_,h5⟩:=dd';refine iX I (by rw[e];exact True.intro) hs ⟨q,hq⟩ ⟨hl,hd,_,(rel.put k eb rv).keeps λc ys ec=>?_,q,es,ep,hq,h2,h3,h4,h5⟩;rw[ad (zCp ec e (λz=>nomatch z))];exact ec
end
def uu(i:Expr):Prop:=∀ov iv,subscripted i false ov iv=operate [ov,iv] (getItem ov iv)
theorem qg{prog:Program}{A:Around}{E:Value->Shared->Prop}{s:Shared}{env:Env}{value slice:Expr}{pos:Pos}{T id:String}{Q:Value->Shared->Prop}
  (hl:typeLookup (.type T) "__getitem__"=pure (some (.builtin id))) (hs:uu slice)
  (h:wpAny (model prog w) A (eval value env) (λo s₁=>wpAny (model prog w) A (eval slice env) (λi s₂=>s₂.TypeIs o T/\wpAny (model prog w) A (getItem o i) Q E s₂) E s₁) E s) :
  wpAny (model prog w) A (eval (.Subscript value slice pos) env) Q E s:=by
 refine Subscript_ (qAv h (λo s₁ h₁=>qAv h₁ (λi s₂ h₂=>?_) λ_ _ x=>x) λ_ _ x=>x);obtain⟨hT,h₂⟩:=h₂;unfold subscriptTail;refine qAA ?_;rw[getitemInPython_of_ne hT.not_modules];refine qAA (qCv hT hl ?_)
 have fin:wpAny (model prog w) A (subscripted slice false o i) (λr s₃=>wpAny (model prog w) A (letTemporaryGo value o r >>= λ_=>pure r) Q E s₃) E s₂:=by
  rw[hs o i];exact wpAny_operating (qAv h₂ (λr s₃ h₃=>qAA (wpAny_letTemporaryGo (qAE h₃))) λ_ _ x=>x)
 first
  |exact qAE (qAA fin)
  |exact qAA (qAE (qAA fin))
  |exact qAA fin
theorem fS{X:Cx}{pins:List (Addr×Obj)}{σ:St}{s:Shared}{o:Option V}(I:Inv X pins σ H s)(g:aH H a y o):s.TypeIs (.ref a) "dict":= by
 rcases g with⟨kvs,k,e,_,_⟩|⟨kvs,k,b,e,_,_,_⟩
 .obtain ⟨_,_,vs,_,dd⟩:=bX I.hok e;exact dd.typeIs
 .obtain ⟨_,_,xs,_,dd⟩:=gh I.hok e;exact dd.typeIs
inductive mT(Q:VK)(x:V)(y:V)(H2:Hp):Prop
 |mk:∀a v,x= .ref a->aH H2 a y (some v)->Q v H2->mT Q x y H2
def ux(td ty:TE):TE:=λσ H Q=>td σ H λx H1=>ty σ H1 λy H2=>mT Q x y H2
inductive qP(Q:VK)(y:V)(x:V)(H2:Hp):Prop
 |mk:∀a o,x= .ref a->aH H2 a y o->Q (.bl o.isSome) H2->qP Q y x H2
def vx(ty td:TE):TE:=λσ H Q=>ty σ H λy H1=>td σ H1 λx H2=>qP Q y x H2
inductive gm(Q:VK)(y:V)(x:V)(H2:Hp):Prop
 |mk:∀a o,x= .ref a->aH H2 a y o->Q (.bl (!o.isSome)) H2->gm Q y x H2
def p7(ty td:TE):TE:=λσ H Q=>ty σ H λy H1=>td σ H1 λx H2=>gm Q y x H2
inductive mi(D:a_)(σ:St)(v:V)(x:V)(y:V)(H3:Hp):Prop
 |mk:∀a H4,x= .ref a->bz H3 a y v H4->D.nx σ H4->mi D σ v x y H3
def uM(td ty tv:TE):TS:=λD σ H=>tv σ H λv H1=>td σ H1 λx H2=>ty σ H2 λy H3=>mi D σ v x y H3
section
variable{X:Cx}{o i e value:Expr}{pos pos' tpos:Pos}{td ty tv:TE}
theorem zB8(hu:X.A.units+1<cLine)(ho:PE X o td)(hi:PE X i ty)(hs:uu i):PE X (.Subscript o i pos) (ux td ty):=by
 intro pins s σ H Q I h;refine qg PySem.F.slot_dict_getitem.lookup hs (thn (ho pins s σ H _ I h) λu s1 ⟨x,H1,I1,rx,q1⟩=>thn (hi pins s1 σ H1 _ I1 q1) λiv s2 ⟨y,H2,I2,ry,a,v,ex,g,q2⟩=>?_);subst ex;obtain rfl:u=Value.ref a:=rx;exact⟨fS I2 g,lw hu I2 g ry λw' s3 I3 rw'=>⟨v,H2,I3,rw',q2⟩⟩
theorem zHp(hu:X.A.units+1<cLine)(hi:PE X i ty)(ho:PE X o td):PC X .In i o (vx ty td):=by
 intro pins s σ H Q I h;refine thn (hi pins s σ H _ I h) λiv s1 ⟨y,H1,I1,ry,q1⟩=>thn (ho pins s1 σ H1 _ I1 q1) λu s2 ⟨x,H2,I2,rx,a,ov,ex,g,q2⟩=>?_;subst ex;obtain rfl:u=Value.ref a:=rx;exact va hu I2 g ry λs3 I3=>⟨.bl ov.isSome,H2,I3,rfl,q2⟩
theorem zDa(hu:X.A.units+1<cLine)(hi:PE X i ty)(ho:PE X o td):PC X .NotIn i o (p7 ty td):=by
 intro pins s σ H Q I h;refine thn (hi pins s σ H _ I h) λiv s1 ⟨y,H1,I1,ry,q1⟩=>thn (ho pins s1 σ H1 _ I1 q1) λu s2 ⟨x,H2,I2,rx,a,ov,ex,g,q2⟩=>?_;subst ex;obtain rfl:u=Value.ref a:=rx;exact qq hu I2 g ry λs3 I3=>⟨.bl (!ov.isSome),H2,I3,rfl,q2⟩
theorem zD4(hu:X.A.units+1<cLine)(ho:PE X o td)(hi:PE X i ty)(hv:PE X value tv)(hs:swapsWith value (some (.Subscript o i pos')) pos.line X.env=pure false) :
  PS X (.Assign [.Subscript o i pos'] value pos) (uM td ty tv):=by
 intro pins s σ H D I h;refine wpAny_Assign_Subscript (thn (hv pins s σ H _ I h) λr s1 ⟨v,H1,I1,rv,q1⟩=>thn (ho pins s1 σ H1 _ I1 q1) λu s2 ⟨x,H2,I2,rx,q2⟩=>thn (hi pins s2 σ H2 _ I2 q2) λiv s3 ⟨y,H3,I3,ry,a,H4,ex,g,q3⟩=>?_) hs;subst ex;obtain rfl:u=Value.ref a:=rx;exact ls hu I3 g ry rv λs4 I4=>⟨σ,H4,I4,q3⟩
end
theorem oO{P:Program}(h:Heap)(hb:sysModules<h.objs.size):zBq P w H (h.push {cls:=.type "dict",data:=.dict #[]}) h.objs.size (.dK []) :=
 ⟨qAi _,qBG.mpr (qAh (qAQ hb)),[],.nil,Heap.DictOf.new h⟩
def zIr:TE:=λ_ H Q=>∀p,H p=none->Q (.ref p) (upd H p (.dK []))
section
variable{X:Cx}{pos:Pos}
theorem zBv:PE X (.Dict [] [] pos) zIr:=λpins s σ H Q I h=>
 wpAny_Dict_empty ⟨.ref s.heap.objs.size,_,I.laid (a:=s.heap.objs.size) (o:=.dK []) (t':=s.toks) (λ_ _ q=>qAM _ q) (qAG _) (oO s.heap I.big),rfl,h _ (I.hok.fresh (qAG _))⟩
end
end L2
set_option maxHeartbeats 4000000
namespace L2
open PySem PySem.Spec PyProof.Rows
variable{env:Env}{scope:Scope}{x:Str}{c:Addr}{X:Cx}{elt iter tg:Expr}{ifs:List Expr}{pos:Pos}{g:TG}{tt:TT}{te:TE}{wi:TI}{n:Nat}
def aI(env:Env):List (Str×NameKind)->List (Str×Addr)->List (Str×Addr)
 |[],cs=>cs
 |(n,k)::r,cs=>if(k==NameKind.free)=true then(match env.cells.lookup n with|some c=>aI env r ((n,c)::cs)|none=>aI env r cs)else aI env r cs
theorem zEy{env:Env}:∀(l:List (Str×NameKind)) (cs:List (Str×Addr)),(∀x∈l,x.2= .free->∃c,env.cells.lookup x.1=some c) ->
  (forIn l cs (fun (x:Str×NameKind) (cs:List (Str×Addr))=>match x with
   |(name,kind)=>if(kind==NameKind.free)=true then(do let c<-cellOf env name;pure (ForInStep.yield ((name,c)::cs)))else pure (ForInStep.yield cs)):Sem (List (Str×Addr)))=pure (aI env l cs)
 |[],_,_=>rfl
 |(n,k)::r,cs,h=>by
  rw[List.forIn_cons];have hr:∀x∈r,x.2= .free->∃c,env.cells.lookup x.1=some c:=λx hx=>h x (qAX _ hx)
  by_cases hk:(k==NameKind.free)=true
  .obtain ⟨c,hc⟩:=h (n,k) qAf (by simpa using hk)
   have e1:aI env ((n,k)::r) cs=aI env r ((n,c)::cs):=by
    show(if(k==NameKind.free)=true then _ else _)=_;rw[qAC hk];have hc:env.cells.lookup n=some c:=hc;rw[hc]
   have e2:cellOf env n=pure c:=by
    have hc:env.cells.lookup n=some c:=hc;unfold cellOf;rw[hc]
   rw[e1,<-zEy r ((n,c)::cs) hr];show(if(k==NameKind.free)=true then(do let c<-cellOf env n;pure (ForInStep.yield ((n,c)::cs)))else pure (ForInStep.yield cs)) >>= _=_;rw[qAC hk,e2,pure_bind,pure_bind]
  .have e1:aI env ((n,k)::r) cs=aI env r cs:=by
    show(if(k==NameKind.free)=true then _ else _)=_;rw[qAB hk]
   rw[e1,<-zEy r cs hr];show(if(k==NameKind.free)=true then(do let c<-cellOf env n;pure (ForInStep.yield ((n,c)::cs)))else pure (ForInStep.yield cs)) >>= _=_;rw[qAB hk,pure_bind]
theorem zF4(h:∀x∈scope.names,x.2= .free->∃c,env.cells.lookup x.1=some c):closureFor scope env=pure (aI env scope.names []):=by
 unfold closureFor;have e:=zEy (env:=env) scope.names [] h
 first
  |exact e
  |(refine Eq.trans ?_ e;rfl)
  |(rw[bind_pure];exact e)
  |simpa using e
theorem zDn :∀{l:List (Str×NameKind)} {cs:List (Str×Addr)},(∀y d,cs.lookup y=some d->env.cells.lookup y=some d)->(aI env l cs).lookup x=some c->env.cells.lookup x=some c
 |[],cs,h,e=>h x c e
 |(n,k)::r,cs,h,e=>by
  unfold aI at e
  by_cases hk:(k==NameKind.free)=true
  .rw [qAC hk]at e
   cases q:env.cells.lookup n with
   |none=>rw[q]at e;exact zDn h e
   |some d=>
    rw[q]at e;refine zDn (λy z hy=>?_) e;rw[qBV]at hy
    cases hyn:y==n with
    |true=>
     rw[hyn]at hy;have:y=n:=by simpa using hyn
     subst this;rw[q];exact hy
    |false=>rw[hyn]at hy;exact h y z hy
  .rw [qAB hk]at e;exact zDn h e
theorem zE5(hx:env.cells.lookup x=some c):∀{l:List (Str×NameKind)} {cs:List (Str×Addr)},cs.lookup x=some c->(aI env l cs).lookup x=some c
 |[],_,h=>h
 |(n,k)::r,cs,h=>by
  unfold aI
  by_cases hk:(k==NameKind.free)=true
  .rw [qAC hk]
   cases q:env.cells.lookup n with
   |none=>exact zE5 hx h
   |some d=>
    refine zE5 hx ?_;rw[qBV]
    cases hxn:x==n with
    |true=>
     have:x=n:=by simpa using hxn
     subst this;rw[<-q,hx]
    |false=>exact h
  .rw [qAB hk];exact zE5 hx h
theorem zF6(hx:env.cells.lookup x=some c):∀{l:List (Str×NameKind)} {cs:List (Str×Addr)},(x,NameKind.free)∈l->(aI env l cs).lookup x=some c
 |[],_,h=>nomatch h
 |(n,k)::r,cs,h=>by
  unfold aI;rcases qAT.mp h with e|h
  .cases e
   rw[qAC (show(NameKind.free==NameKind.free)=true by decide),hx];exact zE5 hx (by rw[qBV];simp)
  .by_cases hk:(k==NameKind.free)=true
   .rw [qAC hk]
    cases q:env.cells.lookup n with
    |none=>exact zF6 hx h
    |some d=>exact zF6 hx h
   .rw [qAB hk];exact zF6 hx h
theorem zEb :∀{l:List (Str×NameKind)} {n:Nat} {acc:List (Str×Addr)},(∀y∈l,y.2= .cell->y.1≠x)->(cellsFrom n l acc).lookup x=acc.lookup x
 |[],_,_,_=>rfl
 |(y,k)::r,n,acc,h=>by
  have hr:∀z∈r,z.2= .cell->z.1≠x:=λz hz=>h z (qAX _ hz);unfold cellsFrom;split
  .rename_i hk;rw[zEb hr,qBV]
   have:(x==y)=false:=by
    have:=h (y,k) qAf (by simpa using hk);exact qBG.mpr (λz=>this z.symm)
   rw[this]
  .exact zEb hr
theorem zCg :∀{l:List (Str×NameKind)} {n:Nat} {acc:List (Str×Addr)},(cellsFrom n l acc).lookup x=some c->acc.lookup x=some c\/(n<=c/\(x,NameKind.cell)∈l)
 |[],_,_,h=>.inl h
 |(y,k)::r,n,acc,h=>by
  unfold cellsFrom at h;split at h
  .rename_i hk;have hk':k= .cell:=by simpa using hk
   rcases zCg h with z|⟨z1,z2⟩
   .rw [qBV]at z
    cases hx:x==y with
    |true=>
     rw[hx]at z;have e:n=c:=qAb z;have e2:x=y:=by simpa using hx
     subst e2;subst hk';exact .inr ⟨qCU e,qAf⟩
    |false=>rw[hx]at z;exact .inl z
   .exact .inr ⟨qAW (qB6 _) z1,qAX _ z2⟩
  .rcases zCg h with z|⟨z1,z2⟩
   .exact .inl z
   .exact .inr ⟨z1,qAX _ z2⟩
theorem zEc:∀{l:List (Str×NameKind)} {n:Nat} {acc:List (Str×Addr)},(∀x y c,acc.lookup x=some c->acc.lookup y=some c->x=y)->(∀z d,acc.lookup z=some d->d<n)->∀x y c,(cellsFrom n l acc).lookup x=some c->(cellsFrom n l acc).lookup y=some c->x=y
 |[],_,_,p,_=>p
 |(w,k)::r,n,acc,p,lt=>by
  unfold cellsFrom;split
  .refine zEc (l:=r) (n:=n+1) (acc:=(w,n)::acc) (λx y c h1 h2=>?_) (λz d h=>?_)
   .rw [qBV]at h1 h2
    cases hx:x==w with
    |true=>
     rw[hx]at h1;have e1:n=c:=qAb h1
     cases hy:y==w with
     |true=>exact(by simpa using hx:x=w).trans (by simpa using hy:y=w).symm
     |false=>
      rw[hy]at h2;have:=lt y c h2;rw[<-e1]at this;exact absurd this (qA2 _)
    |false=>
     rw[hx]at h1
     cases hy:y==w with
     |true=>
      rw[hy]at h2;have e2:n=c:=qAb h2;have:=lt x c h1;rw[<-e2]at this;exact absurd this (qA2 _)
     |false=>rw[hy]at h2;exact p x y c h1 h2
   .rw [qBV]at h
    cases hz:z==w with
    |true=>
     rw[hz]at h;have e:n=d:=qAb h;rw[<-e];exact qCV _
    |false=>
     rw[hz]at h;exact qBs (lt z d h)
  .exact zEc p lt
theorem zCx :∀{l:List (Str×NameKind)} {h:Heap} {acc:List (Str×Addr)},(∀y d,acc.lookup y=some d->∃v,h.IsCell d v)->(cellsFrom h.objs.size l acc).lookup x=some c->∃v,(pushCells h l).IsCell c v
 |[],_,_,hA,e=>hA x c e
 |(y,k)::r,h,acc,hA,e=>by
  unfold cellsFrom at e;unfold pushCells;split at e
  .rename_i hk;rw[qAC hk];have hs:(h.push {cls:=.type "cell",data:=.cell none}:Heap).objs.size=h.objs.size+1:=qBR ..;rw[<-hs]at e;refine zCx (λz d hz=>?_) e;rw[qBV]at hz
   cases hzy:z==y with
   |true=>
    rw[hzy]at hz;have e:h.objs.size=d:=qAb hz;subst e;exact⟨none,_,qAk _ rfl,rfl⟩
   |false=>
    rw[hzy]at hz;obtain⟨v,o,ho,hd⟩:=hA z d hz;exact⟨v,o,qAM _ ho,hd⟩
  .rename_i hk;rw[qAB hk];exact zCx hA e
theorem zDf{M:Model}{A:Around}{E:Value->Shared->Prop}{s:Shared}{globals:Addr}{cl:List (Str×Addr)}{qual:Str}{outer:Env}{Q:Env->Shared->Prop}
  (h:Q (newEnv scope s.heap.objs.size globals (cellsFrom (s.heap.objs.size+1) scope.names cl) qual none .none (some outer) builtinsNs) {s with heap:=pushCells (s.heap.push {cls:=.type "dict",data:=.dict #[]}) scope.names}) :
  wpAny M A (newFunctionEnv scope globals cl [] qual none .none (some outer)) Q E s:=by
 simp only[newFunctionEnv,Option.isSome_some,if_true];refine qAA (wpAny_alloc ?_);refine qAA (wpAny_layCells _ (λname kind cells=>by cases hkc:kind==NameKind.cell<;>simp[hkc]) _ _ _ _ ?_);rw[show({s with heap:=s.heap.push {cls:=.type "dict",data:=.dict #[]}}:Shared).heap.objs.size=s.heap.objs.size+1 from qBR ..];rw[List.forIn_nil];exact qAA (qAE (qAE h))
theorem zF5 :∀{l:List (Str×NameKind)} {cs:List (Str×Addr)},(∀y∈l,y.2= .free->y.1≠x)->(aI env l cs).lookup x=cs.lookup x
 |[],_,_=>rfl
 |(n,k)::r,cs,h=>by
  have hr:∀z∈r,z.2= .free->z.1≠x:=λz hz=>h z (qAX _ hz);unfold aI
  by_cases hk:(k==NameKind.free)=true
  .rw [qAC hk];have nx:(x==n)=false:=qBG.mpr λz=>h (n,k) qAf (by simpa using hk) z.symm
   cases q:env.cells.lookup n with
   |none=>exact zF5 hr
   |some d=>
    rw[show(aI env r ((n,d)::cs)).lookup x=((n,d)::cs).lookup x from zF5 hr,qBV,nx]
  .rw [qAB hk];exact zF5 hr
def Cx.block(X:Cx)(scope:Scope)(C:Addr)(s₀:Shared)(H₀:Hp)(ex:List Addr)(N:List Str):Cx where
 prog:=X.prog
 w:=X.w
 K:=X.K
 mg:=X.mg
 base:=X.base
 A:=X.A
 N:=N
 s₀:=s₀
 H₀:=H₀
 env:=compEnvC scope (cellsFrom (C+1) scope.names (aI X.env scope.names [])) C X.env
 outer:=X.stack
 stack:=X.stack
 ex:=ex
 fn:=λx=>scope.names.lookup x==some .cell
 calm:=X.calm
 pn:=[]
 xe:=λ_ _=>False
structure bF(X:Cx)(scope:Scope):Prop where
 kind:scope.kind= .function
 apart:∀y∈scope.names,∀z∈scope.names,y.2= .cell->z.2= .free->y.1≠z.1
 owns:∀y∈scope.names,y.2= .cell->scope.names.lookup y.1=some .cell
 free:∀y∈scope.names,y.2= .free->X.env.kindOf y.1=some .cell\/X.env.kindOf y.1=some .free
 locs:∀y∈scope.names,y.2= .local->scope.names.lookup y.1=some .local
theorem zDj{scope:Scope}{k:NameKind}:∀{l:List (Str×NameKind)}, 
  (l.map λ(n,k)=>if(k==NameKind.free&&env.scope.kind== .function&&env.kindOf n==some .cell)then(n,NameKind.cell)else(n,k)).lookup x=some k ->
  k= .cell\/k= .free->∃k',(x,k')∈l/\(k'= .cell\/k'= .free)
 |[],h,_=>by simp at h
 |(n,j)::r,h,hk=>by
  have h:List.lookup x ((if(j==NameKind.free&&env.scope.kind== .function&&env.kindOf n==some .cell)=true then(n,NameKind.cell)else(n,j))::(r.map λ(n,k)=>if(k==NameKind.free&&env.scope.kind== .function&&env.kindOf n==some .cell)then(n,NameKind.cell)else(n,k)))=some k:=h
  by_cases hc:(j==NameKind.free&&env.scope.kind== .function&&env.kindOf n==some .cell)=true
  .rw [qAC hc,qBV]at h
   have hj:j= .free:=by
    simp only[qBS]at hc;simpa using hc.1.1
   cases hx:x==n with
   |true=>
    have:x=n:=by simpa using hx
    subst this;exact⟨j,qAf,.inr hj⟩
   |false=>
    rw[hx]at h;obtain⟨k',m,q⟩:=zDj (scope:=scope) h hk;exact⟨k',qAX _ m,q⟩
  .rw [qAB hc,qBV]at h
   cases hx:x==n with
   |true=>
    rw[hx]at h;have e:j=k:=qAb h;have:x=n:=by simpa using hx
    subst this;exact⟨j,qAf,by rw[e];exact hk⟩
   |false=>
    rw[hx]at h;obtain⟨k',m,q⟩:=zDj (scope:=scope) h hk;exact⟨k',qAX _ m,q⟩
inductive ah(X:Cx)(scope:Scope):List Str->List (Option Nat)->Prop
 |nil:ah X scope [] []
 |own {x:Str} {N:List Str} {ix:List (Option Nat)}:ah X scope N ix->ah X scope (x::N) (Option.none::ix)
 |tk {x:Str} {N:List Str} {ix:List (Option Nat)} {i:Nat} (hN:X.N[i]?=some x) (hv:Vis X.env.scope x) (hk:(relabel scope X.env).names.lookup x=some .cell\/(relabel scope X.env).names.lookup x=some .free) (hf:(x,NameKind.free)∈scope.names) :
   ah X scope N ix->ah X scope (x::N) (some i::ix)
def zDr(σ:St)(ix:List (Option Nat)):St:=ix.map λo=>o.bind λi=>(σ[i]?).join
theorem ah.len{N:List Str}{ix:List (Option Nat)}(D:ah X scope N ix):ix.length=N.length:=by
 induction D with
 |nil=>rfl
 |own _ ih=>simp[ih]
 |tk _ _ _ _ _ ih=>simp[ih]
theorem ah.get{N:List Str}{ix:List (Option Nat)}{σ:St}(D:ah X scope N ix):∀(j:Nat)(x:Str)(v:V),N[j]?=some x->(zDr σ ix)[j]?=some (some v) ->
  ∃(i:Nat),X.N[i]?=some x/\σ[i]?=some (some v)/\Vis X.env.scope x/\((relabel scope X.env).names.lookup x=some .cell\/(relabel scope X.env).names.lookup x=some .free)/\(x,NameKind.free)∈scope.names:=by
 induction D with
 |nil=>intro j x v h;simp at h
 |own d ih=>
  intro j x v h1 h2
  cases j with
  |zero=>simp[zDr]at h2
  |succ j=>exact ih j x v (by simpa using h1) (by simpa[zDr]using h2)
 |@tk y N ix i hN hv hk hf d ih=>
  intro j x v h1 h2
  cases j with
  |zero=>
   have e:y=x:=by simpa using h1
   subst e;refine⟨i,hN,?_,hv,hk,hf⟩;have h2:((σ[i]?).join)=some v:=by simpa[zDr]using h2
   cases q:σ[i]? with
   |none=>rw[q]at h2;cases h2
   |some o=>rw[q]at h2;exact qAl some h2
  |succ j=>exact ih j x v (by simpa using h1) (by simpa[zDr]using h2)
section
variable{X:Cx}{pins:List (Addr×Obj)}{σ:St}{H:Hp}{s:Shared}{scope:Scope}{N:List Str}{ix:List (Option Nat)}{fp:List Addr}
theorem Inv.nostk(I:Inv X pins σ H s){b:Addr}(h1:b≠X.env.locals)(h2:b∉X.fs):b∉frs X.stack:=λz=>(qAT.mp (I.stkSub b z)).elim h1 h2
theorem Inv.blockStart{h':Heap}{tk:Nat}{m:Str->Option Value}(I:Inv X pins σ H s)(B:bF X scope)(D:ah X scope N ix)(hfp:∀b∈fp,bh X pins H b)(hfo:∀b∈fp,∃o,s.heap.get? b=some o)
  (hns:h'.Ns s.heap.objs.size m) (hk:∀b o,s.heap.get? b=some o->h'.get? b=some o) (hcl:∀x c,(cellsFrom (s.heap.objs.size+1) scope.names (aI X.env scope.names [])).lookup x=some c->∃v,h'.IsCell c v) :
  Inv (X.block scope s.heap.objs.size s H fp N) (X.pn++pins) (zDr σ ix) H {s with heap:=h',toks:=tk}:=by
 have sub:∀{x:Str}{c:Addr},(aI X.env scope.names []).lookup x=some c->X.env.cells.lookup x=some c:=λ{x c} e=>zDn (λy d z=>by simp at z) e
 have old:∀{x:Str}{c:Addr},(aI X.env scope.names []).lookup x=some c->c<s.heap.objs.size:=λ{x c} e=>by
  obtain⟨v,o,ho,_⟩:=I.cell x c (sub e);exact qAI ho
 have two:∀{x:Str}{c:Addr},(cellsFrom (s.heap.objs.size+1) scope.names (aI X.env scope.names [])).lookup x=some c->X.env.cells.lookup x=some c\/s.heap.objs.size<c:=λ{x c} e=>by
  rcases zCg e with z|⟨z,_⟩
  .exact .inl (sub z)
  .exact .inr z
 have own:∀{x:Str},(x,NameKind.free)∈scope.names->(cellsFrom (s.heap.objs.size+1) scope.names (aI X.env scope.names [])).lookup x=(aI X.env scope.names []).lookup x:=λ{x} hx=>zEb λy hy e=>B.apart y hy _ hx e rfl
 have okB:(X.block scope s.heap.objs.size s H fp N).Ok:=by
  refine⟨I.ok.mod,B.kind,I.ok.glob,I.ok.blt,qAG _,zEc (λx y c h1 h2=>I.ok.inj x y c (sub h1) (sub h2)) (λz d h=>qBs (old h)),λx hx=>?_,(λx c z e=>?_),I.ok.hd,I.ok.frames,.inl rfl,λb hb=>⟨?_,λx c e=>?_⟩,I.bs,qAW I.ok.bsz I.sz,λb o e hb=>?_,λb hb=>I.nostk (hfp b hb).2.1 (hfp b hb).2.2.1,I.stack,I.stkFree⟩
  .have hx':(relabel scope X.env).names.lookup x=some .cell\/(relabel scope X.env).names.lookup x=some .free:=hx
   have key:∃k',(x,k')∈scope.names/\(k'= .cell\/k'= .free):=by
    rcases hx' with e|e
    .exact zDj (scope:=scope) e (.inl rfl)
    .exact zDj (scope:=scope) e (.inr rfl)
   obtain⟨k',m1,q⟩:=key;rcases q with q|q
   .subst q;exact Option.isSome_iff_exists.mp (qCo _ _ _ (.inl (B.owns _ m1 rfl)))
   .subst q;obtain⟨c,hc⟩:=I.ok.has x (B.free _ m1 rfl);exact⟨c,(own m1).trans (zF6 hc m1)⟩
  .rcases zCg e with q|⟨q,_⟩
   .have z:scope.names.lookup x=some .cell:=by
     have z:(scope.names.lookup x==some NameKind.cell)=true:=z;simpa using z
    have hm:=qCH z;have:(x,NameKind.free)∈scope.names\/True:=.inr trivial
    exact absurd q (by
     rw[zF5 (λy hy e1 e2=>B.apart _ hm y hy rfl e1 e2.symm)];intro h;cases h)
   .exact qCR q
  .obtain ⟨o,e⟩:=hfo b hb;exact qAQ (qAI e)
  .rcases two e with z|z
   .exact (hfp b hb).2.2.2.2.1 x c z
   .obtain ⟨o,e⟩:=hfo b hb;exact qA4 (qCt (qAI e) z)
  .rcases (hfp b hb).2.2.2.1 with z|z
   .exact I.ok.noex b o e z
   .exact absurd (qAj (qAI (I.ok.bs b o e).1) z) (qA2 _)
 refine⟨okB,rfl,I.bare,Un.kept hk,⟨m,hns,λj x v h1 h2 h3=>?_⟩,λx c e=>?_,I.hok.fresh (qAG _),λx c e=>(two e).elim (λz=>I.freeC x c z) (λz=>I.hok.fresh (qCR z)),λp hp=>?_,I.hok.kept hk,?_⟩
 .obtain ⟨i,e1,e2,vis,kd,fr⟩:=D.get j x v h1 h2;obtain⟨m0,hn0,hl⟩:=I.loc;obtain⟨u,r,l⟩:=hl i x v e1 e2 vis;refine⟨u,r,?_⟩;rcases l with⟨k,_⟩|⟨_,c,hc,o,ho,hd⟩
  .rcases B.free _ fr rfl with z|z
   .have z:X.env.kindOf x=some .cell:=z;rw[k]at z;cases z
   .have z:X.env.kindOf x=some .free:=z;rw[k]at z;cases z
  .exact .inr ⟨kd,c,(own fr).trans (zF6 hc fr),o,hk c o ho,hd⟩
 .exact hcl x c e
 .have hp':p∈X.pn++pins:=by simpa[Cx.block]using hp
  obtain⟨e,n,ne,nf,d⟩:=I.pin p hp';exact⟨hk _ _ e,n,qAQ (qAI e),I.nostk ne nf,d⟩
 .show (zDr σ ix).length=N.length;unfold zDr;rw[qAD];exact D.len
end
def PTs(X:Cx)(ifs:List Expr)(t:TT):Prop :=
 ∀(pins:List (Addr×Obj)) (s:Shared) (σ:St) (H:Hp) (Q:Bool->Hp->Prop),Inv X pins σ H s->t σ H Q ->
  wpAny (model X.prog X.w) X.A (forIn ifs true λc r=>if r=true then do let ok<-isTrue c X.env (eval c X.env);pure (ForInStep.yield ok)else pure (ForInStep.yield r)) (TP X pins σ Q) X.xe s
def gD:TT:=λ_ H Q=>Q true H
theorem zCm :PTs X [] gD:=λ_ _ _ H _ I h=>wpAny_tests_nil ⟨H,I,h⟩
theorem zCl{c:Expr}{t:TT}(h:PT X c t):PTs X [c] t:=λpins s σ H Q I hw=>wpAny_tests_one (h pins s σ H Q I hw)
theorem cX{prog:Program}{w:World}{A:Around}{R:Result->Shared->Prop}{s:Shared}{elt target iter:Expr}{ifs:List Expr}{scope:Scope}{pos:Pos}{it acc:Value}{env:Env}(I:Nat->Shared->Prop)
  (turn:∀n s,I n s->wpAny (model prog w) A (pyNext it) (fun r s₁=>match r with
   |none=>R (.ok .next) s₁
   |some v=>wpAny (model prog w) A (letOwnedTupleGo target it v) (λ_ s₁'=>wpAny (model prog w) A (assign target env v) (λ_ s₂ =>
     wpAny (model prog w) A (forIn ifs true λc r=>if r=true then do let ok<-isTrue c env (eval c env);pure (ForInStep.yield ok)else pure (ForInStep.yield r)) (λok s₃ =>
      if ok=true then wpAny (model prog w) A (eval elt env) (λx s₄ =>
       wpAny (model prog w) A (call (.builtin "list.append") [acc,x]) (λ_ s₅=>∃m,m<n/\I m s₅) (λ_ _=>False) s₄) (λ_ _=>False) s₃
      else∃m,m<n/\I m s₃) (λ_ _=>False) s₂) (λ_ _=>False) s₁') (λ_ _=>False) s₁) (λ_ _=>False) s)
  (n:Nat) (h:I n s) :
  codeAny (model prog w) A (.compLoop (.ListComp elt [⟨target,iter,ifs,0⟩] scope pos) 0 it acc env) R s:=by
 refine codeAny_loop rfl I (λn s hI=>?_) n h;show wpAny _ A ((compTurn (.ListComp elt [⟨target,iter,ifs,0⟩] scope pos) 0 it acc env).onRaise (λx=>do noteFrame x env;theTreesLotGoes x)) _ _ s;refine wpAny_noted ?_;rw[compTurn_list];refine qAA (qCm (qAA (qAv (turn n s hI) (λr s₁ h₁=>?_) λ_ _ h'=>h'.elim)))
 cases r with
 |none=>exact qAE h₁
 |some v=>
  refine qAA (qAv h₁ (λ_ s₁' h₁'=>?_) λ_ _ h'=>h'.elim);refine qAA (qAv h₁' (λ_ s₂ h₂=>qAA (qAv h₂ (λok s₃ h₃=>?_) λ_ _ h'=>h'.elim)) λ_ _ h'=>h'.elim)
  cases ok with
  |false=>exact qAE ⟨rfl,h₃⟩
  |true=>
   exact qAA (qAA (qAv h₃ (λx s₄ h₄=>qAA (qAv h₄ (λ_ s₅ h₅=>qAE (qAE ⟨rfl,h₅⟩)) λ_ _ h'=>h'.elim)) λ_ _ h'=>h'.elim))
def fK(wi:TI)(ix:List (Option Nat))(g:TG)(tt:TT)(te:TE):TE:=λσ H Q=>wi σ H λJ H1=>∀D,H1 D=none->∃W:Nat->Nat->List V->St->Hp->Prop,
 (∃m,W 0 m [] (zDr σ ix) (upd H1 D (.lst [])))/\∀i m ys τ H2,W i m ys τ H2 ->
  (J.stop i H2/\Q (.ref D) H2)\/(J.go i H2/\∃N:List V->St->Hp->Prop,(∀ys' τ' H',N ys' τ' H'->∃m',m'<m/\W (i+1) m' ys' τ' H')/\∀x H3,J.yld i H2 x H3->g x τ H3 λτ' H4=>tt τ' H4 λb H5=>if b=true then te τ' H5 λv H6=>H6 D=some (.lst ys)/\ys.length<sizeLine/\N (ys++[v]) τ' (upd H6 D (.lst (ys++[v]))) else N ys τ' H5)
theorem iA{Y:Cx}{J:It}{fp:List Addr}{it D:Addr}{tn:Nat->Heap->Prop}{P:List (Addr×Obj)}{W:Nat->Nat->List V->St->Hp->Prop}{m0:Nat}
  {R:Result->Shared->Prop} {QD:Hp->Prop} {s4:Shared} {τ0:St} {H4:Hp}
  (hc:Y.calm=true) (hx:∀e s,Y.xe e s->False) (hg:PG Y tg g) (ht:PTs Y ifs tt) (he:PE Y elt te) (T:fE Y.prog Y.w Y.K tg J fp it tn)
  (stat:∀{H':Hp},(∀b∈fp,H' b=none)->∀b∈fp,bh Y P H' b)
  (turn:∀i m ys τ H2,W i m ys τ H2->(J.stop i H2/\QD H2)\/(J.go i H2/\∃N:List V->St->Hp->Prop,(∀ys' τ' H',N ys' τ' H'->∃m',m'<m/\W (i+1) m' ys' τ' H')/\∀x H3,J.yld i H2 x H3->g x τ H3 fun τ' H4=>tt τ' H4 fun b H5 =>
   if b=true then te τ' H5 λv H6=>H6 D=some (.lst ys)/\ys.length<sizeLine/\N (ys++[v]) τ' (upd H6 D (.lst (ys++[v])))
   else N ys τ' H5))
  (fin:∀τ H' s',Inv Y P τ H' s'->QD H'->R (.ok .next) s')
  (I0:Inv Y P τ0 H4 s4) (t0:tn 0 s4.heap) (n0:∀b∈fp,H4 b=none) (w0:W 0 m0 [] τ0 H4) :
  codeAny (model Y.prog Y.w) Y.A (.compLoop (.ListComp elt [⟨tg,iter,ifs,0⟩] scope pos) 0 (.ref it) (.ref D) Y.env) R s4:=by
 have nx:∀{α:Type}{t:Sem α}{Q:α->Shared->Prop}{s:Shared},wpAny (model Y.prog Y.w) Y.A t Q Y.xe s->wpAny (model Y.prog Y.w) Y.A t Q (λ_ _=>False) s:=λh=>qAv h (λ_ _ q=>q) hx;refine cX (λn s'=>∃i ys τ H',Inv Y P τ H' s'/\tn i s'.heap/\(∀b∈fp,H' b=none)/\W i n ys τ H') ?_ m0 ⟨0,[],τ0,H4,I0,t0,n0,w0⟩;rintro n s5 ⟨i,ys,τ,H5,I5,st5,fr5,w5⟩;rcases turn i n ys τ H5 w5 with⟨stop,q⟩|⟨go,N,hN,step⟩
 .refine thn (T.done Y rfl rfl rfl hc i P s5 τ H5 _ I5 (stat fr5) st5 stop) λr s6 ⟨hr,I6⟩=>?_;subst hr;exact fin τ H5 s6 I6 q
 .refine thn (T.item Y rfl rfl rfl hc i P s5 τ H5 _ I5 (stat fr5) st5 go) λr s6 ⟨u,hr,h6⟩=>?_;subst hr;refine thn h6 λ_ s7 ⟨x,H7,I7,r7,y7,st7,fr7⟩=>?_;have I7':=I7.pinned (stat fr7) (T.obj _ _ st7);refine nx (thn (hg _ s7 τ H7 x u _ I7' r7 (step x H7 y7)) λ_ s8 ⟨τ8,H8,I8,q8⟩=>?_);refine nx (thn (ht _ s8 τ8 H8 _ I8 q8) λok s9 ⟨H9,I9,q9⟩=>?_)
  have again:∀{ys':List V}{H':Hp}{s':Shared},Inv Y (P++zIu fp s7.heap) τ8 H' s'->(∃m',m'<n/\W (i+1) m' ys' τ8 H')->∃m,m<n/\∃i ys τ H',Inv Y P τ H' s'/\tn i s'.heap/\(∀b∈fp,H' b=none)/\W i m ys τ H':=λ{ys' H' s'} I' ⟨m',hm,w'⟩=>by
   refine⟨m',hm,i+1,ys',τ8,H',I'.unpinned,T.keep _ _ _ st7 λb hb o e=>(I'.pin (b,o) (qAs _ (qAs _ (zC4 hb e)))).1,λb hb=>?_,w'⟩;obtain⟨o,e,d⟩:=T.obj _ _ st7 b hb;exact(I'.pin (b,o) (qAs _ (qAs _ (zC4 hb e)))).2.1
  cases ok with
  |false=>
   rw[qAB qAd]at q9 ⊢;exact again I9 (hN _ _ _ q9)
  |true=>
   rw[qAC rfl]at q9 ⊢;refine nx (thn (he _ s9 τ8 H9 _ I9 q9) λy s10 ⟨v,H10,I10,r10,hD,hz,w10⟩=>?_);refine nx (thn (zCb (X:=Y) _ s10 τ8 H10 (.ref D) [v] (.ref D) [y] (λ_ H'=>H'=upd H10 D (.lst (ys++[v]))) I10 rfl (.cons r10 .nil) ⟨D,ys,v,rfl,rfl,hD,hz,rfl⟩) λ_ s11 ⟨z,H11,I11,_,e11⟩=>?_);subst e11;exact again I11 (hN _ _ _ w10)
theorem fV{pos p1:Pos}{N:List Str}{ix:List (Option Nat)}{pins:List (Addr×Obj)}{s:Shared}{σ:St}{H:Hp}{Q:VK}{use:Option (Value->Sem Unit)}
  {Z:Value->Shared->Prop}
  (hc:X.calm=true) (B:bF X scope) (Dr:ah X scope N ix) (hi:PI X tg iter wi)
  (hg:∀C s₀ H₀ ex,PG (X.block scope C s₀ H₀ ex N) tg g) (ht:∀C s₀ H₀ ex,PTs (X.block scope C s₀ H₀ ex N) ifs tt) (he:∀C s₀ H₀ ex,PE (X.block scope C s₀ H₀ ex N) elt te)
  (hs:∀x,foldedSetIterable iter X.env x=pure x)
  (I:Inv X pins σ H s) (h:fK wi ix g tt te σ H Q)
  (fin:∀(D C:Addr) (H':Hp) (s':Shared) (m:Str->Option Value),Inv X pins σ H' s'->Q (.ref D) H'->s'.heap.Ns C m->(∀h',Heap.SameBut C s'.heap h'->Inv X pins σ H' {s' with heap:=h'})->C≠X.env.locals->(∀x c,X.env.cells.lookup x=some c->c≠C)->H' C=none ->
   (∀p∈X.pn++pins,p.1≠C)->X.s₀.heap.objs.size<=C->compPost (model X.prog X.w) X.A X.xe use Z (.ref D) C (.ok .next) s') :
  wpAny (model X.prog X.w) X.A (comprehension (.ListComp elt [⟨tg,iter,ifs,0⟩] scope pos) scope X.env p1 (newList []) false (eval iter X.env) use) Z X.xe s:=by
 have hfree:∀x∈scope.names,x.2= .free->∃c,X.env.cells.lookup x.1=some c:=λx hx e=>I.ok.has _ (B.free x hx e);refine wpAny_comprehension_free (use:=use) rfl hs (zF4 hfree) B.kind B.locs ?_;refine thn (hi pins s σ H _ I h) λv s1 h1=>thn h1 λitv s2 h2=>?_;obtain⟨it,fp,tn,J,H2,e,I2,T,st2,f2,R⟩:=h2;subst e;have hDf:H2 s2.heap.objs.size=none:=I2.hok.fresh (qAG _);obtain⟨W,⟨m0,w0⟩,turn⟩:=R _ hDf;refine qBa ?_ (by show(0:Nat)<=sizeLine;exact qAi _);have I3:Inv X pins σ (upd H2 s2.heap.objs.size (.lst [])) {s2 with heap:=s2.heap.push {cls:=.type "list",data:=.seq ([]:List Value).toArray}}:=I2.lnew (t':=s2.toks) (ys:=[]) (its:=[]) .nil (qAi _);generalize hD:s2.heap.objs.size=D at *
 have fpo:∀b∈fp,∃o,s2.heap.get? b=some o:=λb hb=>let⟨o,q,_⟩:=T.obj _ _ st2 b hb;⟨o,q⟩
 have fpD:∀b∈fp,b≠D:=λb hb=>by
  obtain⟨o,q⟩:=fpo b hb;rw[<-hD];exact qAQ (qAI q)
 have f3:∀b∈fp,bh X pins (upd H2 D (.lst [])) b:=λb hb=>⟨by rw[ad (fpD b hb)];exact(f2 b hb).1,(f2 b hb).2⟩;generalize hs3:({s2 with heap:=s2.heap.push {cls:=.type "list",data:=.seq ([]:List Value).toArray}}:Shared)=s3 at I3 ⊢;have k23:∀b o,s2.heap.get? b=some o->s3.heap.get? b=some o:=λb o q=>by rw[<-hs3];exact qAM _ q
 have fpo3:∀b∈fp,∃o,s3.heap.get? b=some o:=λb hb=>let⟨o,q⟩:=fpo b hb;⟨o,k23 b o q⟩;have st3:tn 0 s3.heap:=T.keep _ _ _ st2 λb hb o q=>k23 b o q;refine zDf ?_;have k34:∀b o,s3.heap.get? b=some o->(pushCells (s3.heap.push {cls:=.type "dict",data:=.dict #[]}) scope.names).get? b=some o:=λb o q=>qCw _ _ b o (qAM _ q);have hns4:(pushCells (s3.heap.push {cls:=.type "dict",data:=.dict #[]}) scope.names).Ns s3.heap.objs.size (λ_=>none):=(Heap.Ns.new s3.heap (.type "dict")).keeps (qCw _ _)
 have hcl4:∀x c,(cellsFrom (s3.heap.objs.size+1) scope.names (aI X.env scope.names [])).lookup x=some c->∃v,(pushCells (s3.heap.push {cls:=.type "dict",data:=.dict #[]}) scope.names).IsCell c v:=λx c e=>by
  refine zCx (h:=s3.heap.push {cls:=.type "dict",data:=.dict #[]}) (acc:=aI X.env scope.names []) (λy d hy=>?_) (by rw[qBR];exact e);obtain⟨v,o,ho,hd⟩:=I3.cell y d (zDn (λy d z=>by simp at z) hy);exact⟨v,o,qAM _ ho,hd⟩
 have IB:=I3.blockStart (tk:=s3.toks) B Dr f3 fpo3 hns4 k34 hcl4;generalize hh4:pushCells (s3.heap.push {cls:=.type "dict",data:=.dict #[]}) scope.names=h4 at *
 generalize hC:s3.heap.objs.size=C at *
 have hCX:X.s₀.heap.objs.size<=C:=by rw[<-hC];exact I3.sz
 have CL:C≠X.env.locals:=by rw[<-hC];exact qA4 I3.lt
 have Cc:∀x c,X.env.cells.lookup x=some c->c≠C:=λx c q=>by
  obtain⟨v,o,ho,_⟩:=I3.cell x c q;rw[<-hC];exact qAQ (qAI ho)
 have Cp:∀p∈X.pn++pins,p.1≠C:=λp hp=>by
  rw[<-hC];exact qAQ (qAI (I3.pin p hp).1)
 have fpC:∀b∈fp,b≠C:=λb hb=>by
  obtain⟨o,q⟩:=fpo3 b hb;rw[<-hC];exact qAQ (qAI q)
 have stat:∀{H':Hp},(∀b∈fp,H' b=none)->∀b∈fp,bh (X.block scope C s3 (upd H2 D (.lst [])) fp N) (X.pn++pins) H' b:=λ{H'} hn b hb=>by
  obtain⟨_,q1,q2,q3,q4,q5⟩:=f2 b hb;exact⟨hn b hb,fpC b hb,I3.nostk q1 q2,.inl hb,λx c e=>(zCg e).elim (λz=>q4 x c (zDn (λy d z=>by simp at z) z)) (λz=>by obtain⟨o,q⟩:=fpo3 b hb;have:=qAI q;rw[hC]at this;exact qA4 (qAj (qBs this) z.1)),λp hp=>q5 p (by simpa[Cx.block]using hp)⟩
 have st4:tn 0 h4:=T.keep _ _ _ st3 λb hb o q=>k34 b o q;have n4:∀b∈fp,(upd H2 D (.lst [])) b=none:=λb hb=>(f3 b hb).1
 have loop:=iA (Y:=X.block scope C s3 (upd H2 D (.lst [])) fp N) (iter:=iter) (pos:=pos) (scope:=scope) (D:=D) (R:=compPost (model X.prog X.w) X.A X.xe use Z (.ref D) C) hc (λ_ _ z=>z) (hg C s3 _ fp) (ht C s3 _ fp) (he C s3 _ fp) T stat turn
  (fun τ H' s' I' q=>by
   have I5:Inv X pins σ H' s':=I3.call' (ch:=fp) I'.os I'.base I'.hok I'.bare λb hb=>by
    obtain⟨_,q1,q2,q3,q4,q5⟩:=f2 b hb;exact⟨q3,q1,q4,q5⟩
   obtain⟨m,hn,_⟩:=I'.loc;have hC0:H' C=none:=I'.free;exact fin D C H' s' m I5 q hn (λh'' hs''=>I5.turned (t':=s'.toks) (λb o hb e=>hs''.extBut b o hb e) hC0 CL (.inr hCX) Cc Cp) CL Cc hC0 Cp hCX) IB st4 n4 w0
 exact codeAny_compStart_list loop (T.self _ 0 _ _ _ st4 loop)
theorem zBn{N:List Str}{ix:List (Option Nat)}(hc:X.calm=true)(B:bF X scope)(Dr:ah X scope N ix)(hi:PI X tg iter wi)
  (hg:∀C s₀ H₀ ex,PG (X.block scope C s₀ H₀ ex N) tg g) (ht:∀C s₀ H₀ ex,PTs (X.block scope C s₀ H₀ ex N) ifs tt) (he:∀C s₀ H₀ ex,PE (X.block scope C s₀ H₀ ex N) elt te)
  (hs:∀x,foldedSetIterable iter X.env x=pure x:=by intro _;rfl):PE X (.ListComp elt [⟨tg,iter,ifs,0⟩] scope pos) (fK wi ix g tt te):=by
 intro pins s σ H Q I h;rw[eval_ListComp];exact fV (use:=none) hc B Dr hi hg ht he hs I h λD C H' s' m I' q hn k _ _ _ _ _=>⟨m,hn,λh' hs'=>⟨.ref D,H',k h' hs',rfl,q⟩⟩
theorem zGi{spos py:Pos}{N:List Str}{ix:List (Option Nat)}{i:Nat}{y:Str}(hc:X.calm=true)(B:bF X scope)(Dr:ah X scope N ix)(hi:PI X tg iter wi)
  (hg:∀C s₀ H₀ ex,PG (X.block scope C s₀ H₀ ex N) tg g) (ht:∀C s₀ H₀ ex,PTs (X.block scope C s₀ H₀ ex N) ifs tt) (he:∀C s₀ H₀ ex,PE (X.block scope C s₀ H₀ ex N) elt te)
  (hN:X.N.Nodup) (hy:X.N[i]?=some y) (hl:X.env.scope.names.lookup y=some .local)
  (hsw:swapsWith (.ListComp elt [⟨tg,iter,ifs,0⟩] scope pos) (some (.Name y py)) spos.line X.env=pure true:=by rfl)
  (hs:∀x,foldedSetIterable iter X.env x=pure x:=by intro _;rfl):PS X (.Assign [.Name y py] (.ListComp elt [⟨tg,iter,ifs,0⟩] scope pos) spos) (ki (fK wi ix g tt te) (zJy i)):=by
 intro pins s σ H Dn I h;rw[exec_Assign_Name_used _ _ _ _ hsw];refine qAA (qCm (qAA ?_));show wpAny _ X.A (do let _<-comprehension (.ListComp elt [⟨tg,iter,ifs,0⟩] scope pos) scope X.env _ (newList []) false (eval iter X.env) (some (assign (.Name y py) X.env))) _ _ s;refine qAA (thn (fV (use:=some (assign (.Name y py) X.env)) (Z:=λ_ s'=>SP X pins Dn .next s') hc B Dr hi hg ht he hs I h λD C H' s' m I' q hn k CL Cc C0 Cp CX=>?_) λ_ s' hq=>qAE (qAE hq));show wpAny _ _ (assign (.Name y py) X.env (.ref D)) _ _ s';refine wpAny_assign_Name (dh I' hN hy (.inl hl) (v:=.ref D) rfl (λs'' I'' ⟨a,sb,ha⟩=>?_) (.inr hl))
 have aC:C≠a:=by
  rcases ha with z|z
  .rw [z];exact CL
  .exact (Cc _ _ z).symm
 exact⟨m,hn.sameBut sb aC,λh' hs'=>⟨_,H',I''.turned (t':=s''.toks) (λb o hb e=>hs'.extBut b o hb e) C0 CL (.inr CX) Cc Cp,q⟩⟩
theorem qo{J:It}{ix:List (Option Nat)}{Q:VK}{σ:St}{H1:Hp}{D:Addr}(xs:List V)(Pv:Nat->List V->St->Hp->Prop)(h0:Pv 0 [] (zDr σ ix) (upd H1 D (.lst [])))
  (hJ:∀i ys τ H,Pv i ys τ H->(∀x,xs[i]?=some x->J.go i H/\∀y H',J.yld i H y H'->H'=H/\y=x)/\(i=xs.length->J.stop i H))
  (hs:∀i x ys τ H,xs[i]?=some x->Pv i ys τ H->g x τ H λτ' H4=>tt τ' H4 λb H5=>if b=true then te τ' H5 λv H6=>H6 D=some (.lst ys)/\ys.length<sizeLine/\Pv (i+1) (ys++[v]) τ' (upd H6 D (.lst (ys++[v])))else Pv (i+1) ys τ' H5)
  (hd:∀ys τ H,Pv xs.length ys τ H->Q (.ref D) H) :
  ∃W:Nat->Nat->List V->St->Hp->Prop,(∃m,W 0 m [] (zDr σ ix) (upd H1 D (.lst [])))/\∀i m ys τ H2,W i m ys τ H2 ->
   (J.stop i H2/\Q (.ref D) H2)\/(J.go i H2/\∃N:List V->St->Hp->Prop,(∀ys' τ' H',N ys' τ' H'->∃m',m'<m/\W (i+1) m' ys' τ' H')/\∀x H3,J.yld i H2 x H3->g x τ H3 λτ' H4=>tt τ' H4 λb H5=>if b=true then te τ' H5 λv H6=>H6 D=some (.lst ys)/\ys.length<sizeLine/\N (ys++[v]) τ' (upd H6 D (.lst (ys++[v]))) else N ys τ' H5):=by
 refine⟨λi m ys τ H=>m=xs.length-i/\i<=xs.length/\Pv i ys τ H,⟨xs.length,by simp,qAi _,h0⟩,?_⟩;rintro i m ys τ H ⟨rfl,hi,p⟩;obtain⟨j1,j2⟩:=hJ i ys τ H p
 by_cases hlt:i<xs.length
 .have hx:xs[i]?=some xs[i]:=by simp[hlt]
  obtain⟨go,yl⟩:=j1 _ hx;refine .inr ⟨go,Pv (i+1),λys' τ' H' p'=>⟨xs.length-(i+1),by lia,rfl,hlt,p'⟩,λy H' yd=>?_⟩;obtain⟨e1,e2⟩:=yl y H' yd;subst e1 e2;exact hs i _ ys τ _ hx p
 .have e:i=xs.length:=by lia
  subst e;exact .inl ⟨j2 rfl,hd ys τ H p⟩
def m8(scope sc:Scope):Bool:=(scope.kind== .function)&&(scope.names.all (λy=>scope.names.all λz=>y.2 != .cell||z.2 != .free||y.1 != z.1)&&scope.names.all (λy=>y.2 != .cell||scope.names.lookup y.1==some .cell))&&scope.names.all (λy=>y.2 != .free||sc.names.lookup y.1==some .cell||sc.names.lookup y.1==some .free)&&scope.names.all (λy=>y.2 != .local||scope.names.lookup y.1==some .local)
theorem zBp{scope sc:Scope}(hsc:X.env.scope=sc)(h:m8 scope sc=true):bF X scope:=by
 unfold m8 at h;simp only[qBS,qBt,Bool.or_eq_true]at h;obtain⟨⟨⟨h1,h2,h5⟩,h3⟩,h4⟩:=h;refine⟨by simpa using h1,λy hy z hz e1 e2=>?_,λy hy e=>?_,λy hy e=>?_,λy hy e=>?_⟩
 .rcases h2 y hy z hz with(q|q)|q
  .rw [e1]at q;simp at q
  .rw [e2]at q;simp at q
  .simpa using q
 .rcases h5 y hy with q|q
  .rw [e]at q;simp at q
  .simpa using q
 .have q:=h3 y hy;show X.env.scope.names.lookup y.1=some .cell\/X.env.scope.names.lookup y.1=some .free;rw[hsc];rcases q with(q|q)|q
  .rw [e]at q;simp at q
  .exact .inl (by simpa using q)
  .exact .inr (by simpa using q)
 .have q:=h4 y hy;rcases q with q|q
  .rw [e]at q;simp at q
  .simpa using q
def uN(scope sc:Scope):Scope:={scope with names:=scope.names.map λ(n,k)=>if(k== .free&&sc.kind== .function&&sc.names.lookup n==some .cell)then(n,.cell)else(n,k)}
theorem sC{e0:Env}{outer scope sc:Scope}(hX:X.env.scope=relabel outer e0)(h0:e0.scope=sc)(h:m8 scope (uN outer sc)=true):bF X scope :=
 zBp (sc:=uN outer sc) (by rw[hX];subst h0;rfl) h
def Its(z:Str):It:=⟨λi _=>i<z.cps.size,λi H x H'=>H'=H/\∃c,z.cps[i]?=some c/\x= .str ⟨#[c]⟩,λi _=>z.cps.size<=i⟩
theorem oF{P:Program}{w:World}{K:PySem.W.Frag}(it:Addr)(z:Str)(t:Tok)(ty:String)(hty:ty="str_ascii_iterator"\/ty="str_iterator"):fE P w K tg (Its z) [it] it (λi h=>h.IsStrIter it ty z t i) where
 mem:=by simp
 obj:=λi h st b hb=>by
  have e:b=it:=by simpa using hb
  subst e;obtain⟨o,e,c,d⟩:=st;exact⟨o,e,λv z=>by rw[d]at z;cases z⟩
 keep:=λi h h' st k=>by
  obtain⟨o,e,c,d⟩:=st;exact⟨o,k it (by simp) o e,c,d⟩
 item:=by
  intro X hP hw hK hc i pins s σ H E I hf st hg;subst hP hw hK;obtain⟨f0,f1,f2,f3,f4,f5⟩:=hf it (by simp);have hlt:i<z.cps.size:=hg;have hx:z.cps[i]?=some z.cps[i]:=by simp[hlt]
  have fin:∀h':Heap,h'.IsStrIter it ty z t (i+1)->Heap.SameBut it s.heap h'->∃u,some (Value.str ⟨#[z.cps[i]]⟩ s.toks)=some u /\
    wpAny (model X.prog X.w) X.A (letOwnedTupleGo tg (.ref it) u) (λ_ s2=>∃x H',Inv X pins σ H' s2/\am x u/\(Its z).yld i H x H'/\s2.heap.IsStrIter it ty z t (i+1)/\∀b∈[it],H' b=none) E {s with heap:=h',toks:=s.toks+1}:=λh' st' sb=>by
   have I1:Inv X pins σ H {s with heap:=h',toks:=s.toks+1}:=I.turned (t':=s.toks+1) (λb o hb e=>(sb.2 b hb).trans e) f0 f1 f3 f4 f5;obtain⟨o,e,c,d⟩:=id st';exact⟨_,rfl,gH (s:={s with heap:=h',toks:=s.toks+1}) e c d (by rcases hty with rfl|rfl<;>decide) ⟨.str ⟨#[z.cps[i]]⟩,H,I1,⟨_,rfl⟩,⟨rfl,_,hx,rfl⟩,st',λb hb=>(hf b hb).1⟩⟩
  rcases hty with rfl|rfl
  .exact wpAny_pyNext_ascii_item st hx fin
  .exact wpAny_pyNext_wide_item st hx fin
 done:=by
  intro X hP hw hK hc i pins s σ H E I hf st hg;subst hP hw hK;obtain⟨f0,f1,f2,f3,f4,f5⟩:=hf it (by simp);have hle:z.cps.size<=i:=hg;have hx:z.cps[i]?=none:=by simp[hle]
  have fin:∀h':Heap,Heap.ExtBut it s.heap h'->(none:Option Value)=none/\Inv X pins σ H {s with heap:=h'}:=λh' eb=>⟨rfl,I.turned (t':=s.toks) (λb o hb e=>eb b o hb e) f0 f1 f3 f4 f5⟩;rcases hty with rfl|rfl
  .exact wpAny_pyNext_ascii_end (I.ok.hd hc) st hx fin
  .exact wpAny_pyNext_wide_end (I.ok.hd hc) st hx fin
 self:=λ_ _ _ _ _ st h=>by
  rcases hty with rfl|rfl
  .exact wpAny_pyIter_striter_ascii st h
  .exact wpAny_pyIter_striter_wide st h
inductive qS(R:It->Hp->Prop)(x:V)(H1:Hp):Prop
 |mk:∀z,x= .str z->R (Its z) H1->qS R x H1
def u6(tl:TE):TI:=λσ H R=>tl σ H λx H1=>qS R x H1
theorem l_{l:Expr}{tl:TE}(hl:PE X l tl):PI X tg l (u6 tl):=by
 intro pins s σ H R I h;refine thn (hl pins s σ H _ I h) λv s1 ⟨x,H1,I1,r1,q1⟩=>?_;obtain⟨z,e,q⟩:=q1;subst e;obtain⟨t,rfl⟩:=r1
 have fin:∀(ty:String),(ty="str_ascii_iterator"\/ty="str_iterator")->PIE X pins σ tg R (.ref s1.heap.objs.size) {s1 with heap:=s1.heap.push {cls:=.type ty,data:=.fields #[.str z t,.int 0 0]}}:=λty hty=>
  ⟨s1.heap.objs.size,[s1.heap.objs.size],_,_,H1,rfl,I1.kept (t':=s1.toks) λb o e=>qAM _ e,oF _ z t ty hty,⟨_,qAk _ rfl,rfl,rfl⟩,λb hb=>by
   have e:b=s1.heap.objs.size:=by simpa using hb
   subst e;exact I1.fpOk (qAG _) (I1.hok.fresh (qAG _)),q⟩
 cases ha:z.cps.all (·<128)
 .exact wpAny_pyIter_wide ha (fin _ (.inr rfl))
 .exact wpAny_pyIter_ascii ha (fin _ (.inl rfl))
theorem qj{bs:List Bool}{its:List Value}(r:aj (bs.map V.bl) its){i:Nat}{v:Value}(h:its[i]?=some v):v= .bool (bs.getD i false)/\i<bs.length:=by
 have hl:=r.length;rw[qAD]at hl;have hi:i<its.length:=(qAL.mp h).1;have hb:i<bs.length:=by lia
 have e:(bs.map V.bl)[i]?=some (V.bl bs[i]):=by simp[hb]
 obtain⟨u,hu,ru⟩:=r.get e;rw[h]at hu
 cases hu
 refine⟨?_,hb⟩;have:v= .bool bs[i]:=ru;rw[this,qBg];simp[hb]
theorem lz(bs:List Bool):(List.range bs.length).all (λi=>bs.getD i false)=bs.all id:=by
 rw[qB5];simp only[qBt,qBH];constructor
 .intro h x hx;obtain⟨i,hi,rfl⟩:=qBL.mp hx;have:=h i hi;simpa[qBg,hi]using this
 .intro h i hi;have:=h bs[i] (qB8 hi);simpa[qBg,hi]using this
theorem zE6(X:Cx)(hc:X.calm=true):zCz X (.builtin "all") (λxs H Q=>∃(p:Addr)(bs:List Bool),xs=[.ref p]/\SqL X.K H p (bs.map V.bl)/\Q (.bl (bs.all id)) H):=by
 intro pins s σ H xs us Q I rv h;obtain⟨p,bs,rfl,hq,q⟩:=h;obtain⟨u,rfl,ru⟩:=rv.one
 cases ru
 obtain⟨its,r,pl,hz⟩:=I.list hq;have hl:=r.length;rw[qAD]at hl;refine call_all_walk (wpAny_pyIter_list pl.isList ?_);have hp:p<s.heap.objs.size:=by obtain⟨o,n,e,_⟩:=pl;exact qAI e
 have I1:Inv X pins σ H {s with heap:=s.heap.push {cls:=.type "list_iterator",data:=.fields #[.ref p,.int 0 0]}}:=I.kept (t':=s.toks) λb o e=>qAM _ e;refine⟨s.heap.objs.size,_,_,_,_,_,λi=>bs.getD i false,rfl,Walks.list (A:=X.A.in1) (show X.A.in1.handled=none from I.ok.hd hc) s.heap.objs.size p (qAQ hp) its.toArray,⟨⟨_,qAk _ rfl,rfl,rfl⟩,pl.isList.at λo e=>qAM _ e⟩,?_,λh' tk hk=>?_⟩
 .intro i v s' E' Q' hv hq';obtain⟨rfl,_⟩:=qj r (by simpa using hv);exact qBP hq'
 .have e:(List.range its.toArray.size).all (λi=>bs.getD i false)=bs.all id:=by
   rw[qAS,<-hl];exact lz bs
  refine⟨.bl (bs.all id),H,?_,by rw[e];rfl,q⟩;obtain⟨f0,f1,f2,f3,f4,f5⟩:=I.fpOk (b:=s.heap.objs.size) (qAG _) (I.hok.fresh (qAG _));exact I1.turned (t':=tk) (λb o hb e=>hk b o (by simpa using hb) e) f0 f1 f3 f4 f5
theorem zBg :zCz X (.builtin "isinstance") (λxs H Q=>∃x n t b,xs=[x,.ty n]/\ao X.K H x t/\PySem.W.kitOne X.K t (.type n)=some b/\Q (.bl b) H):=by
 intro pins s σ H xs us Q I rv h;obtain⟨x,n,t,b,rfl,ty,e,q⟩:=h;obtain⟨u,c,rfl,rx,rc⟩:=rv.two
 cases (show c=Value.type n from rc)
 exact lg I rx ty e λtk=>⟨.bl b,H,I.tok tk,rfl,q⟩
theorem dk :OpR X (compareOp .LtE) (λx y H Q=>∃i j,x= .str i/\y= .str j/\Q (.bl (!(decide (j.cps.toList<i.cps.toList)))) H):=by
 intro pins s σ H x y v u Q I rx ry h;obtain⟨i,j,rfl,rfl,q⟩:=h;obtain⟨t,rfl⟩:=rx;obtain⟨t',rfl⟩:=ry;exact PySem.P.le_str ⟨.bl _,H,I,rfl,q⟩
theorem zIs:∀{ts:List Str}{us:List Value},aj (ts.map V.str) us->StrsAre us ts
 |[],_,.nil=>.nil
 |t::ts,_,.cons r rr=>by
  obtain⟨tk,rfl⟩:=r;exact .cons _ _ (zIs rr)
inductive rA(K:PySem.W.Frag)(x:V)(vs:List V)(H:Hp)(Q:VK):Prop
 |mk:∀sep p ts,x= .str sep->vs=[.ref p]->SqL K H p (ts.map V.str)->(ts.map (·.length)).sum+ts.length*sep.length<=16777216->Q (.str (Txt.join sep ts)) H->rA K x vs H Q
theorem pS :MtR X "str.join" (rA X.K):=by
 intro pins s σ H x vs v us Q I rx rv h;obtain⟨sep,p,ts,rfl,rfl,hq,hz,q⟩:=h;obtain⟨t,rfl⟩:=rx;obtain⟨u,rfl,ru⟩:=rv.one
 cases ru
 obtain⟨its,r,pl,_⟩:=I.list hq;exact PyProof.Rows.join_list pl.isList (by simpa using zIs r) hz λt' k=>⟨.str _,H,I.tok k,⟨_,rfl⟩,q⟩
inductive bq(K:PySem.W.Frag)(H:Hp):Nat->V->V->Prop
 |flat {n:Nat} {x:V} (fx:zGm x=true):bq K H n x x
 |same {n:Nat} {a:Addr}:bq K H n (.ref a) (.ref a)
 |lists {n:Nat} {a b:Addr} {xs ys:List V} (hx:SqL K H a xs) (hy:SqL K H b ys) (hl:xs.length=ys.length) (he:∀(i:Nat)(x y:V),xs[i]?=some x->ys[i]?=some y->bq K H n x y):bq K H (n+1) (.ref a) (.ref b)
 |tups {n:Nat} {a b:Addr} {xs ys:List V} (hx:SqT K H a xs) (hy:SqT K H b ys) (hl:xs.length=ys.length) (he:∀(i:Nat)(x y:V),xs[i]?=some x->ys[i]?=some y->bq K H n x y):bq K H (n+1) (.ref a) (.ref b)
theorem nW{x:V}(h:zGm x=true):eqV x x=true:=by
 cases x<;>simp[eqV]<;>simp[zGm]at h
section
variable{X:Cx}{pins:List (Addr×Obj)}{σ:St}{H:Hp}{s:Shared}
theorem zHb(n:Nat):(List.range n).all (λ_=>true)=true:=by simp
theorem om(I:Inv X pins σ H s){x y:V}(h:bq X.K H n x y):∀{u v:Value}{A:Around},am x u->am y v->A.units+n<cLine->SeqAt.EqAt A s u v true:=by
 induction h with
 |flat fx=>
  intro u v A ru rv _;have q:=mX (A:=A) (s:=s) ru rv fx fx
  rwa [nW fx]at q
 |same=>
  intro u v A ru rv _
  cases ru
  cases rv
  exact qCr _
 |@lists n a b xs ys hx hy hl he ih=>
  intro u v A ru rv hu
  cases ru
  cases rv
  by_cases ab:a=b
  .subst ab;exact qCr _
  .obtain ⟨its,r,pl,hz⟩:=I.list hx;obtain⟨its2,r2,pl2,hz2⟩:=I.list hy;have e1:=r.length;have e2:=r2.length
   have q:=SeqAt.RcAt.lists (A:=A) (s:=s) (e:=λ_=>true) pl.isList pl2.isList (by rw[qAS,qAS];lia) (by lia) (λj h1 h2=>by
    rw[qAS]at h1 h2;have hjx:xs[j]?=some (xs[j]'(by lia)):=by simp
    have hjy:ys[j]?=some (ys[j]'(by lia)):=by simp
    obtain⟨u1,q1,ru1⟩:=r.get hjx;obtain⟨v1,q2,rv1⟩:=r2.get hjy
    have e3:its.toArray[j]=u1:=by
     have:its[j]?=some its[j]:=by simp
     rw[this]at q1;simpa using q1
    have e4:its2.toArray[j]=v1:=by
     have:its2[j]?=some its2[j]:=by simp
     rw[this]at q2;simpa using q2
    rw[e3,e4];exact ih j _ _ hjx hjy ru1 rv1 (by show A.units+1+n<cLine;lia))
   rw[zHb]at q;exact SeqAt.EqAt.of_refs ab q
 |@tups n a b xs ys hx hy hl he ih=>
  intro u v A ru rv hu
  cases ru
  cases rv
  by_cases ab:a=b
  .subst ab;exact qCr _
  .obtain ⟨its,r,pl,hz⟩:=I.tuple hx;obtain⟨its2,r2,pl2,hz2⟩:=I.tuple hy;have e1:=r.length;have e2:=r2.length
   have q:=SeqAt.RcAt.tuples (A:=A) (s:=s) (e:=λ_=>true) (show s.heap.IsTuple a its.toArray from pl) (show s.heap.IsTuple b its2.toArray from pl2) (by lia) (λj h1 h2=>by
    rw[qAS]at h1 h2;have hjx:xs[j]?=some (xs[j]'(by lia)):=by simp
    have hjy:ys[j]?=some (ys[j]'(by lia)):=by simp
    obtain⟨u1,q1,ru1⟩:=r.get hjx;obtain⟨v1,q2,rv1⟩:=r2.get hjy
    have e3:its.toArray[j]=u1:=by
     have:its[j]?=some its[j]:=by simp
     rw[this]at q1;simpa using q1
    have e4:its2.toArray[j]=v1:=by
     have:its2[j]?=some its2[j]:=by simp
     rw[this]at q2;simpa using q2
    rw[e3,e4];exact ih j _ _ hjx hjy ru1 rv1 (by show A.units+1+n<cLine;lia))
   rw[zHb,Bool.true_and,qAS,qAS,<-e1,<-e2,hl,beq_self_eq_true]at q;exact SeqAt.EqAt.of_refs ab q
theorem zId(I:Inv X pins σ H s){xs ys:List V}{its its2:List Value}{A:Around}(r:aj xs its)(r2:aj ys its2)(he:∀(i:Nat)(x y:V),xs[i]?=some x->ys[i]?=some y->bq X.K H n x y)(hu:A.units+n<cLine) :
  ∀j (h1:j<its.toArray.size) (h2:j<its2.toArray.size),SeqAt.EqAt A s its.toArray[j] its2.toArray[j] true:=λj h1 h2=>by
 have e1:=r.length;have e2:=r2.length;rw[qAS]at h1 h2;have hjx:xs[j]?=some (xs[j]'(by lia)):=by simp
 have hjy:ys[j]?=some (ys[j]'(by lia)):=by simp
 obtain⟨u1,q1,ru1⟩:=r.get hjx;obtain⟨v1,q2,rv1⟩:=r2.get hjy
 have e3:its.toArray[j]=u1:=by
  have:its[j]?=some its[j]:=by simp
  rw[this]at q1;simpa using q1
 have e4:its2.toArray[j]=v1:=by
  have:its2[j]?=some its2[j]:=by simp
  rw[this]at q2;simpa using q2
 rw[e3,e4];exact om I (he j _ _ hjx hjy) ru1 rv1 hu
end
inductive aO(K:PySem.W.Frag)(n:Nat)(b:Bool)(x:V)(y:V)(H:Hp)(Q:VK):Prop
 |mk:∀a c xs ys,x= .ref a->y= .ref c->SqL K H a xs->SqL K H c ys->xs.length=ys.length->(∀(i:Nat)(x y:V),xs[i]?=some x->ys[i]?=some y->bq K H n x y)->Q (.bl b) H->aO K n b x y H Q
inductive aP(K:PySem.W.Frag)(b:Bool)(x:V)(y:V)(H:Hp)(Q:VK):Prop
 |mk:∀a c xs ys,x= .ref a->y= .ref c->SqL K H a xs->SqL K H c ys->xs.length≠ys.length->Q (.bl b) H->aP K b x y H Q
section
variable{X:Cx}
theorem tH(hu:X.A.units+1+n<cLine):OpR X (compareOp .Eq) (aO X.K n true):=by
 intro pins s σ H x y v u Q I rx ry h;obtain⟨a,c,xs,ys,rfl,rfl,hx,hy,hl,he,q⟩:=h
 cases rx
 cases ry
 obtain⟨its,r,pl,hz⟩:=I.list hx;obtain⟨its2,r2,pl2,hz2⟩:=I.list hy;have e1:=r.length;have e2:=r2.length;refine SeqAt.eq_listAt (e:=λ_=>true) pl.isList pl2.isList (by rw[qAS,qAS];lia) (by lia) (zId I r r2 he (by show X.A.units+1+n<cLine;lia)) ?_;rw[zHb];exact⟨.bl true,H,I,rfl,q⟩
theorem sQ(hu:X.A.units+1+n<cLine):OpR X (compareOp .NotEq) (aO X.K n false):=by
 intro pins s σ H x y v u Q I rx ry h;obtain⟨a,c,xs,ys,rfl,rfl,hx,hy,hl,he,q⟩:=h
 cases rx
 cases ry
 obtain⟨its,r,pl,hz⟩:=I.list hx;obtain⟨its2,r2,pl2,hz2⟩:=I.list hy;have e1:=r.length;have e2:=r2.length;refine SeqAt.RcNeAt.lists (e:=λ_=>true) pl.isList pl2.isList (by rw[qAS,qAS];lia) (by lia) (zId I r r2 he (by show X.A.units+1+n<cLine;lia)) X.prog X.w X.xe _ ?_;rw[zHb];exact⟨.bl false,H,I,rfl,q⟩
theorem tj(hu:X.A.units<cLine):OpR X (compareOp .Eq) (aP X.K false):=by
 intro pins s σ H x y v u Q I rx ry h;obtain⟨a,c,xs,ys,rfl,rfl,hx,hy,hl,q⟩:=h
 cases rx
 cases ry
 obtain⟨its,r,pl,hz⟩:=I.list hx;obtain⟨its2,r2,pl2,hz2⟩:=I.list hy;have e1:=r.length;have e2:=r2.length;exact SeqAt.eq_list_lengthsAt pl.isList pl2.isList (by rw[qAS,qAS];simp;lia) hu ⟨.bl false,H,I,rfl,q⟩
theorem OpR.either{f:Value->Value->Sem Value}{r r':R2}(h:OpR X f r)(h':OpR X f r'):OpR X f (λx y H Q=>r x y H Q\/r' x y H Q):=by
 intro pins s σ H x y v u Q I rx ry q;rcases q with q|q
 .exact h pins s σ H x y v u Q I rx ry q
 .exact h' pins s σ H x y v u Q I rx ry q
end
end L2
namespace SM
open PySem PySem.StrLaws PySem.Builtin PySem.Builtin.Str
end SM
namespace L2
open PySem PySem.Spec PyProof.Rows
variable{M:List Addr}{H H1 H':Hp}{a D:Addr}{σ:St}{g:TG}{te:TE}
structure Cal(P:Program)(w:World)(K:PySem.W.Frag)(mg:Str->Option Value)(base:Heap)(x:Str)(k:Nat)(ps:List Str)(sp:Sp):Prop where
 to:∃(f:Addr)(fd:FuncData),mg x=some (.ref f)/\PySem.W.keepIn K (.ref f)=true/\zDe K fd ps []/\ak P w K mg base CX0 k f fd ps sp
theorem zAh{X:Cx}{x:Str}{k:Nat}{ps:List Str}{sp:Sp}{e:Expr}{es:List Expr}{p pos:Pos}{t:TA}(C:Cal X.prog X.w X.K X.mg X.base x k ps sp)(hr:aB k X.A)(hg:Gl X x)(ha:PA X (e::es) t)
  (hdb:(x==("__debug__": Str))=false:=by decide) (he:starEach (e::es) X.env=(false,eval e X.env)::starEach es X.env:=by rfl) (hpl:(backTo pos (starEach es X.env)).any (·.1)=false:=by rfl) :
  PE X (.Call (.Name x p) (e::es) [] pos) (lW sp [] E0 t):=by
 obtain⟨f,fd,h1,h2,h3,h4⟩:=C.to;exact pO h4 hr hg h1 h2 h3 .nil jl ha hdb he hpl
theorem se:bootBuiltins "max"=some (.builtin "max"):=by decide +kernel
theorem zI3:bootBuiltins "all"=some (.builtin "all"):=by decide +kernel
theorem zAl:bootBuiltins "isinstance"=some (.builtin "isinstance"):=by decide +kernel
theorem ku:bootBuiltins "sorted"=some (.builtin "sorted"):=by decide +kernel
theorem mE:bootBuiltins "abs"=some (.builtin "abs"):=by decide +kernel
theorem dJ:bootBuiltins "sum"=some (.builtin "sum"):=by decide +kernel
theorem zBy:bootBuiltins "len"=some (.builtin "len"):=by decide +kernel
theorem zIb:bootBuiltins "int"=some (.type "int"):=by decide +kernel
theorem fj:bootBuiltins "str"=some (.type "str"):=by decide +kernel
theorem zCe:bootBuiltins "list"=some (.type "list"):=by decide +kernel
theorem zGa:bootBuiltins "tuple"=some (.type "tuple"):=by decide +kernel
theorem sO:bootBuiltins "set"=some (.type "set"):=by decide +kernel
theorem jH:bootBuiltins "bool"=some (.type "bool"):=by decide +kernel
def Fre(H:Hp)(l:Addr):Prop:=H l=none
def Kp(M:List Addr)(H H':Hp):Prop:=∀b o,H b=some o->b∉M->H' b=some o
theorem Kp.refl :Kp M H H:=λ_ _ h _=>h
theorem Kp.trans{H2:Hp}(a:Kp M H H1)(b:Kp M H1 H2):Kp M H H2:=λc o h n=>b c o (a c o h n) n
theorem Kp.weak{M':List Addr}(k:Kp M H H')(s:∀b,b∈M->b∈M'):Kp M' H H':=λb o h n=>k b o h λz=>n (s b z)
theorem Kp.of0(k:Kp [] H H'):Kp M H H':=λb o h _=>k b o h (by simp)
theorem Kp.new{M:List Addr}{l:Addr}{o:HO}(k:Kp M H H')(f:Fre H l):Kp M H (upd H' l o):=λb u h n=>by
 rw[ad (zAm h f)];exact k b u h n
theorem Kp.put{l:Addr}{o:HO}(k:Kp M H H')(f:l∈M):Kp M H (upd H' l o):=λb u h n=>by
 rw[ad (by intro e;subst e;exact n f)];exact k b u h n
theorem Kp.fre{l:Addr}(k:Kp M H H')(f:Fre H' l)(n:l∉M):Fre H l:=by
 unfold Fre
 cases q:H l with
 |none=>rfl
 |some o=>
  have:=k l o q n;unfold Fre at f;rw[f]at this;cases this
theorem Kp.at0(k:Kp [] H H'):rG H H':=λb o h=>k b o h (by simp)
theorem Kp.seq{K:PySem.W.Frag}{xs:List V}(e:Kp [] H H')(h:SqL K H a xs):SqL K H' a xs:=e.at0.seq h
theorem ae{b:Addr}{o:HO}(f:Fre H b)(h:H a=some o):a≠b:=zAm h f
theorem nm1{b:Addr}(h:a≠b):a∉[b]:=by simpa using h
theorem nm2{b c:Addr}(h:a≠b)(h':a≠c):a∉[b,c]:=by simp;exact⟨h,h'⟩
theorem zEj{α:Type}{xs:List α}{i:Int}{v:α}(h0:0<=i)(h:xs[i.toNat]?=some v):atI xs i=some v:=by
 have hl:i.toNat<xs.length:=(qAL.mp h).1;unfold atI ixN;rw[qAC h0,qAC (by lia)];exact h
theorem fG{α:Type}{xs:List α}{n:Nat}{v:α}(h:xs[n]?=some v):atI xs (n:Int)=some v:=zEj (by lia) (by simpa using h)
theorem hu2{A:Around}{k n:Nat}(hr:aB k A)(h:n<=60:=by decide):A.units+1+n<cLine:=by
 have:=hr.units;lia
theorem hu0{A:Around}{k:Nat}(hr:aB k A):A.units<cLine:=by
 have:=hr.units;lia
theorem eg{X:Cx}{k:Nat}(hr:aB k X.A):OpR X (compareOp .Eq) (λx y H Q=>aO X.K 8 true x y H Q\/aP X.K false x y H Q):=(tH (hu2 hr)).either (tj (hu0 hr))
theorem zA1{K:PySem.W.Frag}{t:Value}(h:(t==t)=true:=by rfl):PySem.W.kitOne K t t=some true:=by
 unfold PySem.W.kitOne;rw[qAC h]
theorem p0{t u:TS}{D:a_}(Mid:St->Hp->Prop)(h1:∀N:St->Hp->Prop,(∀σ H,Mid σ H->N σ H)->t {D with nx:=N} σ H)(h2:∀σ H,Mid σ H->u D σ H):aq t u D σ H:=h1 (u D) h2
theorem iz{tb:TS}{D:a_}{b:Bool}(Mid:St->Hp->Prop)(h1:∀N:St->Hp->Prop,(∀σ H,Mid σ H->N σ H)->if b=true then tb {D with nx:=N} σ H else N σ H)(h2:∀σ H,Mid σ H->D.nx σ H) :
  if b=true then tb D σ H else i7 D σ H:=h1 D.nx h2
theorem zBt{K:PySem.W.Frag}{ix:List (Option Nat)}{tt:TT}{QD:Hp->Prop}(xs:List V)(Pv:Nat->List V->St->Hp->Prop)(h0:Pv 0 [] (zDr σ ix) (upd H1 D (.lst [])))
  (hl:∀i ys τ H,Pv i ys τ H->SqL K H a xs)
  (hs:∀i x ys τ H,xs[i]?=some x->Pv i ys τ H->g x τ H λτ' H4=>tt τ' H4 λb H5=>if b=true then te τ' H5 λv H6=>H6 D=some (.lst ys)/\ys.length<sizeLine/\Pv (i+1) (ys++[v]) τ' (upd H6 D (.lst (ys++[v])))else Pv (i+1) ys τ' H5)
  (hd:∀ys τ H,Pv xs.length ys τ H->QD H) :
  ∃W:Nat->Nat->List V->St->Hp->Prop,(∃m,W 0 m [] (zDr σ ix) (upd H1 D (.lst [])))/\∀i m ys τ H2,W i m ys τ H2 ->
   ((Itl K a).stop i H2/\QD H2)\/((Itl K a).go i H2/\∃N:List V->St->Hp->Prop,(∀ys' τ' H',N ys' τ' H'->∃m',m'<m/\W (i+1) m' ys' τ' H')/\∀x H3,(Itl K a).yld i H2 x H3->g x τ H3 λτ' H4=>tt τ' H4 λb H5=>if b=true then te τ' H5 λv H6=>H6 D=some (.lst ys)/\ys.length<sizeLine/\N (ys++[v]) τ' (upd H6 D (.lst (ys++[v]))) else N ys τ' H5):=by
 refine qo (Q:=λ_ H=>QD H) xs Pv h0 (λi ys τ H p=>⟨λx hx=>⟨⟨xs,x,hl i ys τ H p,hx⟩,λy H' yl=>?_⟩,λe=>⟨xs,hl i ys τ H p,by lia⟩⟩) hs hd;obtain⟨e,z⟩:=yl;subst e;have:=z xs (hl i ys τ _ p);rw[hx]at this;exact⟨rfl,(qAb this).symm⟩
theorem fv{z:Str}{ix:List (Option Nat)}{tt:TT}{QD:Hp->Prop}(Pv:Nat->List V->St->Hp->Prop)(h0:Pv 0 [] (zDr σ ix) (upd H1 D (.lst [])))
  (hs:∀i c ys τ H,z.cps.toList[i]?=some c->Pv i ys τ H->g (.str ⟨#[c]⟩) τ H λτ' H4=>tt τ' H4 λb H5=>if b=true then te τ' H5 λv H6=>H6 D=some (.lst ys)/\ys.length<sizeLine/\Pv (i+1) (ys++[v]) τ' (upd H6 D (.lst (ys++[v])))else Pv (i+1) ys τ' H5)
  (hd:∀ys τ H,Pv z.length ys τ H->QD H) :
  ∃W:Nat->Nat->List V->St->Hp->Prop,(∃m,W 0 m [] (zDr σ ix) (upd H1 D (.lst [])))/\∀i m ys τ H2,W i m ys τ H2 ->
   ((Its z).stop i H2/\QD H2)\/((Its z).go i H2/\∃N:List V->St->Hp->Prop,(∀ys' τ' H',N ys' τ' H'->∃m',m'<m/\W (i+1) m' ys' τ' H')/\∀x H3,(Its z).yld i H2 x H3->g x τ H3 λτ' H4=>tt τ' H4 λb H5=>if b=true then te τ' H5 λv H6=>H6 D=some (.lst ys)/\ys.length<sizeLine/\N (ys++[v]) τ' (upd H6 D (.lst (ys++[v]))) else N ys τ' H5):=by
 refine⟨λi m ys τ H=>m=z.length-i/\i<=z.length/\Pv i ys τ H,⟨z.length,by simp,qAi _,h0⟩,?_⟩;rintro i m ys τ H ⟨rfl,hi,p⟩
 by_cases hlt:i<z.length
 .refine .inr ⟨hlt,Pv (i+1),λys' τ' H' p'=>⟨z.length-(i+1),by lia,rfl,hlt,p'⟩,λy H' yd=>?_⟩;obtain⟨e1,c,e2,e3⟩:=yd;subst e1 e3;exact hs i c ys τ _ (by simpa using e2) p
 .have e:i=z.length:=by lia
  subst e;exact .inl ⟨qAG _,hd ys τ H p⟩
theorem zBc{K:PySem.W.Frag}{ix:List (Option Nat)}{QD:Hp->Prop}(xs:List V)(Pv:Nat->List V->St->Hp->Prop)(h0:Pv 0 [] (zDr σ ix) (upd H1 D (.lst [])))
  (hl:∀i ys τ H,Pv i ys τ H->SqL K H a xs)
  (hs:∀i x ys τ H,xs[i]?=some x->Pv i ys τ H->g x τ H λτ' H4=>te τ' H4 λv H6=>H6 D=some (.lst ys)/\ys.length<sizeLine/\Pv (i+1) (ys++[v]) τ' (upd H6 D (.lst (ys++[v]))))
  (hd:∀ys τ H,Pv xs.length ys τ H->QD H) :
  ∃W:Nat->Nat->List V->St->Hp->Prop,(∃m,W 0 m [] (zDr σ ix) (upd H1 D (.lst [])))/\∀i m ys τ H2,W i m ys τ H2 ->
   ((Itl K a).stop i H2/\QD H2)\/((Itl K a).go i H2/\∃N:List V->St->Hp->Prop,(∀ys' τ' H',N ys' τ' H'->∃m',m'<m/\W (i+1) m' ys' τ' H')/\∀x H3,(Itl K a).yld i H2 x H3->g x τ H3 λτ' H4=>gD τ' H4 λb H5=>if b=true then te τ' H5 λv H6=>H6 D=some (.lst ys)/\ys.length<sizeLine/\N (ys++[v]) τ' (upd H6 D (.lst (ys++[v]))) else N ys τ' H5):=zBt (tt:=gD) xs Pv h0 hl hs hd
theorem kO{z:Str}{ix:List (Option Nat)}{QD:Hp->Prop}(Pv:Nat->List V->St->Hp->Prop)(h0:Pv 0 [] (zDr σ ix) (upd H1 D (.lst [])))
  (hs:∀i c ys τ H,z.cps.toList[i]?=some c->Pv i ys τ H->g (.str ⟨#[c]⟩) τ H λτ' H4=>te τ' H4 λv H6=>H6 D=some (.lst ys)/\ys.length<sizeLine/\Pv (i+1) (ys++[v]) τ' (upd H6 D (.lst (ys++[v]))))
  (hd:∀ys τ H,Pv z.length ys τ H->QD H) :
  ∃W:Nat->Nat->List V->St->Hp->Prop,(∃m,W 0 m [] (zDr σ ix) (upd H1 D (.lst [])))/\∀i m ys τ H2,W i m ys τ H2 ->
   ((Its z).stop i H2/\QD H2)\/((Its z).go i H2/\∃N:List V->St->Hp->Prop,(∀ys' τ' H',N ys' τ' H'->∃m',m'<m/\W (i+1) m' ys' τ' H')/\∀x H3,(Its z).yld i H2 x H3->g x τ H3 λτ' H4=>gD τ' H4 λb H5=>if b=true then te τ' H5 λv H6=>H6 D=some (.lst ys)/\ys.length<sizeLine/\N (ys++[v]) τ' (upd H6 D (.lst (ys++[v]))) else N ys τ' H5):=fv (tt:=gD) Pv h0 hs hd
section
variable{X:Cx}{K:PySem.W.Frag}
theorem j4(hK:X.K=K:=by rfl):zCz X (.builtin "isinstance") (λxs H Q=>∃x n t b,xs=[x,.ty n]/\ao K H x t/\PySem.W.kitOne K t (.type n)=some b/\Q (.bl b) H):=by subst hK;exact zBg
theorem zG8(hK:X.K=K:=by rfl):IxR X (qz K):=by subst hK;exact zA0
theorem zJ3(hK:X.K=K:=by rfl):zCz X (.type "list") (λxs H Q=>∃p ys,xs=[.ref p]/\(SqL K H p ys\/SqT K H p ys)/\∀l,H l=none->Q (.ref l) (upd H l (.lst ys))):=by subst hK;exact zBu
theorem zC3(hK:X.K=K:=by rfl):zCz X (.builtin "len") (λxs H Q=>∃p ys,xs=[.ref p]/\(SqL K H p ys\/SqT K H p ys)/\Q (.int ys.length) H):=by subst hK;exact zAp
theorem zD7(hK:X.K=K:=by rfl):OpR X (compareOp .NotIn) (rIn K true):=by subst hK;exact zGr
theorem p8{k:Nat}(hr:aB k X.A)(hK:X.K=K:=by rfl):OpR X (compareOp .Eq) (λx y H Q=>aO K 8 true x y H Q\/aP K false x y H Q):=by subst hK;exact eg hr
end
theorem Kp.drop{H2:Hp}{p:Addr}(k1:Kp [] H H1)(f:Fre H p)(k2:Kp [p] H1 H2):Kp [] H H2:=λb o h _=>k2 b o (k1 b o h (by simp)) (nm1 (ae f h))
end L2
namespace Tim
open PySem PyProof.Rows
variable{i:Nat}{st:SortSt}
def gal:Bool->Keyed->Array Keyed->Nat->Nat->Nat->StateT SortSt Sem (Option Nat):=sortPriv% PySem.Builtin.gallop
def mLo:Array Keyed->Array Keyed->StateT SortSt Sem (Array Keyed):=sortPriv% PySem.Builtin.mergeLo
def mHi:Array Keyed->Array Keyed->StateT SortSt Sem (Array Keyed):=sortPriv% PySem.Builtin.mergeHi
def kk(κ:KeyKind)(p:Keyed):κ.α:=(κ.keyOf p.1).getD κ.dflt
def Has(κ:KeyKind)(p:Keyed):Prop:=∃a,κ.keyOf p.1=some a
theorem Has.key{κ:KeyKind}{p:Keyed}(h:Has κ p):κ.keyOf p.1=some (kk κ p):=by
 obtain⟨a,e⟩:=h;unfold kk;rw[e];rfl
theorem mr{κ:KeyKind}{xs:Array Keyed}{p:Keyed}(h:xs[i]?=some p):KK κ xs i=kk κ p:=by
 unfold KK kk;rw[h]
def CmpOk(prog:Program)(w:World)(A:Around)(s:Shared)(kd:SortKind)(κ:KeyKind):Prop :=
 ∀(E:Value->Shared->Prop)(x y:Value)(a b:κ.α)(Q:Bool->Shared->Prop),κ.keyOf x=some a->κ.keyOf y=some b->Q (κ.blt a b) s->wpAny (model prog w) A (keyLt' kd x y) Q E s
section
variable{prog:Program}{w:World}{A:Around}{E:Value->Shared->Prop}{s:Shared}{kd:SortKind}{κ:KeyKind}
theorem w_lt{x y:Keyed}{Q:Option Bool->SortSt->Prop}(C:CmpOk prog w A s kd κ)(hk:kindOf st=kd)(hx:Has κ x)(hy:Has κ y)(h:Q (some (κ.blt (kk κ x) (kk κ y))) st):wpS (model prog w) A E s (lt' x y) Q st:=by
 rw[lt'_eq];refine qAF (qBW ?_);rw[hk];exact qAF (qBu (qB9 (C _ x.1 y.1 _ _ _ hx.key hy.key ⟨rfl,qAH h⟩)))
theorem zB2{arr:Array Keyed}{p:Keyed}{Q:Keyed->SortSt->Prop}(e:arr[i]?=some p)(h:Q p st):wpS (model prog w) A E s (elem' arr i) Q st:=by
 rw[elem'_eq,e];exact qAH h
theorem tE{j:Nat}{Q:Option Bool->SortSt->Prop}(C:CmpOk prog w A s kd κ)(hk:kindOf st=kd)(hi:∃p,(arrOf st)[i]?=some p/\Has κ p)(hj:∃p,(arrOf st)[j]?=some p/\Has κ p)
  (h:Q (some (κ.blt (KK κ (arrOf st) i) (KK κ (arrOf st) j))) st):wpS (model prog w) A E s (ltAt' i j) Q st:=by
 obtain⟨p,e1,h1⟩:=hi;obtain⟨q,e2,h2⟩:=hj;rw[mr e1,mr e2]at h;rw[ltAt'_eq];exact qAF (qBW (qAF (zB2 e1 (qAF (zB2 e2 (w_lt C hk h1 h2 h))))))
def byd(left:Bool)(key:Keyed)(arr:Array Keyed)(base i:Nat):StateT SortSt Sem (Option Bool):=do
 let x<-elem' arr (base+i)
 if left=true then lt' x key else(do let r<-lt' key x;pure (r.map λb=>!b))
theorem uw{left:Bool}{key:Keyed}{arr:Array Keyed}{base:Nat}{Q:Option Bool->SortSt->Prop}(C:CmpOk prog w A s kd κ)(hk:kindOf st=kd)(hkey:Has κ key)(hi:∃p,arr[base+i]?=some p/\Has κ p)
  (h:Q (some (if left=true then κ.blt (KK κ arr (base+i)) (kk κ key)else !κ.blt (kk κ key) (KK κ arr (base+i)))) st):wpS (model prog w) A E s (byd left key arr base i) Q st:=by
 obtain⟨p,e,hp⟩:=hi;rw[mr e]at h;refine qAF (zB2 e ?_)
 cases left with
 |true=>exact w_lt C hk hp hkey h
 |false=>exact qAF (w_lt C hk hkey hp (qAH h))
end
end Tim
namespace ST
open PySem PySem.SetTable
variable{xs:Array Nat}{i j mask N:Nat}{α:Type}{hs:List Int}
abbrev cB(l:List Nat):Prop:=l.Pairwise (·<·)
theorem zE3(hr:cB xs.toList){k:Nat}{x y:Nat}(hik:i<k)(ex:xs[i]?=some x)(ey:xs[k]?=some y):x<y:=by
 rw[<-qAo]at ex ey;obtain⟨hi,rfl⟩:=qAL.mp ex;obtain⟨hk,rfl⟩:=qAL.mp ey;exact List.pairwise_iff_getElem.mp hr i k hi hk hik
structure Bel(xs:Array Nat)(j r:Nat):Prop where
 le:r<=xs.size
 lo:∀i x,i<r->xs[i]?=some x->x<j
 hi:∀i x,r<=i->xs[i]?=some x->j<=x
theorem zJ4(hr:cB xs.toList) :∀(fuel lo hi:Nat),hi-lo<=fuel->lo<=hi->hi<=xs.size->(∀i x,i<lo->xs[i]?=some x->x<j)->(∀i x,hi<=i->xs[i]?=some x->j<=x)->Bel xs j (below.go xs j fuel lo hi)
 |0,lo,hi,h1,h2,h3,h4,h5=>by
  have e:lo=hi:=by lia
  subst e;exact⟨h3,h4,h5⟩
 |fuel+1,lo,hi,h1,h2,h3,h4,h5=>by
  unfold below.go
  by_cases c:lo<hi
  .rw [qAC c];have hm:(lo+hi) / 2<xs.size:=by lia
   have em:xs[(lo+hi) / 2]?=some xs[(lo+hi) / 2]:=by simp
   have eD:xs.getD ((lo+hi) / 2) j=xs[(lo+hi) / 2]:=by simp[Array.getD,hm]
   show Bel xs j (if xs.getD ((lo+hi) / 2) j<j then _ else _);rw[eD]
   by_cases d:xs[(lo+hi) / 2]<j
   .rw [qAC d];refine zJ4 hr fuel _ hi (by lia) (by lia) h3 (λi x hi' ex=>?_) h5
    by_cases q:i=(lo+hi) / 2
    .subst q;rw[em]at ex;cases ex;exact d
    .have:=zE3 hr (show i<(lo+hi) / 2 by lia) ex em;lia
   .rw [qAB d];refine zJ4 hr fuel lo _ (by lia) (by lia) (by lia) h4 (λi x hi' ex=>?_)
    by_cases q:i=(lo+hi) / 2
    .subst q;rw[em]at ex;cases ex;lia
    .have:=zE3 hr (show(lo+hi) / 2<i by lia) em ex;lia
  .rw [qAB c];have e:lo=hi:=by lia
   subst e;exact⟨h3,h4,h5⟩
theorem zE7(hr:cB xs.toList)(j:Nat):Bel xs j (below xs j) :=
 zJ4 hr xs.size 0 xs.size (by lia) (by lia) (qAG _) (λi x h=>by lia) (λi x h e=>by
  have:=(qBM.mp e).1;lia)
theorem Bel.at(hr:cB xs.toList){r:Nat}(B:Bel xs j r)(e:xs[i]?=some j):r=i:=by
 rcases Nat.lt_trichotomy r i with z|z|z
 .have hi:i<xs.size:=(qBM.mp e).1;have er:xs[r]?=some (xs[r]'(by lia)):=by simp
  have h1:=B.hi r _ (qAG _) er;have h2:=zE3 hr z er e;lia
 .exact z
 .have:=B.lo i j z e;lia
def Tb(mask:Nat):SetTable:={mask:=mask,place:=#[],dummies:=#[],finger:=0,led:=false,moves:=0,plain:=false}
def pr(mask:Nat)(h:Int):Nat->Probe
 |0=>(Tb mask).probeStart h
 |n+1=>(Tb mask).advance (pr mask h n)
def rs(mask:Nat)(h:Int):Nat->Nat×Nat
 |0=>(bits h % (mask+1),bits h)
 |r+1=>leap mask (rs mask h r).1 (rs mask h r).2
def stt(mask:Nat)(h:Int):Nat->Nat
 |0=>0
 |r+1=>stt mask h r+(runEnd mask (rs mask h r).1-(rs mask h r).1+1)
theorem iV(mask:Nat)(h:Int):∀r,(rs mask h r).1<=mask
 |0=>Nat.le_of_lt_succ (Nat.mod_lt _ (Nat.succ_pos _))
 |r+1=>Nat.le_of_lt_succ (Nat.mod_lt _ (Nat.succ_pos _))
theorem iq(mask i:Nat)(hi:i<=mask):i<=runEnd mask i/\runEnd mask i<=mask/\runEnd mask i-i<=9:=by
 unfold runEnd;split<;>lia
theorem lN(mask:Nat)(h:Int):∀r,stt mask h r<=10*r
 |0=>qAG _
 |r+1=>by
  have h1:=lN mask h r;have h2:=(iq mask _ (iV mask h r)).2.2;show stt mask h r+(runEnd mask (rs mask h r).1-(rs mask h r).1+1)<=_;lia
theorem nI(mask:Nat)(p:Probe)(h:p.more>0):(Tb mask).advance p={p with j:=p.j+1,more:=p.more-1}:=by
 unfold advance;rw[qAC h]
theorem mJ(mask:Nat)(p:Probe)(h:p.more=0):(Tb mask).advance p={p with j:=(leap mask p.i p.perturb).1,more:=runEnd mask (leap mask p.i p.perturb).1-(leap mask p.i p.perturb).1,i:=(leap mask p.i p.perturb).1,perturb:=(leap mask p.i p.perturb).2}:=by
 unfold advance;rw[qAB (by lia)];rfl
theorem zFs(mask:Nat)(h:Int):∀(r k:Nat),k<=runEnd mask (rs mask h r).1-(rs mask h r).1 ->
  pr mask h (stt mask h r+k)={j:=(rs mask h r).1+k,more:=runEnd mask (rs mask h r).1-(rs mask h r).1-k,i:=(rs mask h r).1,perturb:=(rs mask h r).2,dummy:=none}
 |0,0,_=>rfl
 |r+1,0,_=>by
  have ih:=zFs mask h r (runEnd mask (rs mask h r).1-(rs mask h r).1) (qAG _);show pr mask h (stt mask h r+(runEnd mask (rs mask h r).1-(rs mask h r).1)+1)=_;show(Tb mask).advance (pr mask h (stt mask h r+(runEnd mask (rs mask h r).1-(rs mask h r).1)))=_;rw[ih,mJ _ _ (by simp)];rfl
 |r,k+1,hk=>by
  have ih:=zFs mask h r k (by lia);show(Tb mask).advance (pr mask h (stt mask h r+k))=_;rw[ih,nI _ _ (by show _-k>0;lia)];simp only[Probe.mk.injEq];exact⟨by lia,by lia,trivial,trivial,trivial⟩
theorem qX(mask:Nat)(h:Int)(n:Nat):∃r k,n=stt mask h r+k/\k<=runEnd mask (rs mask h r).1-(rs mask h r).1:=by
 induction n with
 |zero=>exact⟨0,0,rfl,qAi _⟩
 |succ n ih=>
  obtain⟨r,k,e,hk⟩:=ih
  by_cases c:k<runEnd mask (rs mask h r).1-(rs mask h r).1
  .exact ⟨r,k+1,by lia,c⟩
  .refine ⟨r+1,0,?_,qAi _⟩;show n+1=stt mask h r+(runEnd mask (rs mask h r).1-(rs mask h r).1+1)+0;lia
theorem qV(mask:Nat)(h:Int)(n:Nat):(pr mask h n).j<=mask:=by
 obtain⟨r,k,e,hk⟩:=qX mask h n;rw[e,zFs mask h r k hk];have:=iq mask _ (iV mask h r);show(rs mask h r).1+k<=mask;lia
theorem nj(mask:Nat)(h:Int)(n:Nat):(pr mask h n).dummy=none:=by
 obtain⟨r,k,e,hk⟩:=qX mask h n;rw[e,zFs mask h r k hk]
theorem pD(h:Int):bits h<2^64:=by
 unfold bits;have h1:=qAw h (show(2^64:Int)≠0 by decide);have h2:=qA0 h (show(0:Int)<2^64 by decide);lia
theorem jt(mask:Nat)(h:Int):∀r,(rs mask h r).2=bits h / 32^r
 |0=>by simp[rs]
 |r+1=>by
  show(rs mask h r).2 / 32=_;rw[jt mask h r,Nat.div_div_eq_div_mul,Nat.pow_succ]
theorem mL(mask:Nat)(h:Int)(r:Nat)(hr:13<=r):(rs mask h r).2=0:=by
 rw[jt];have h1:=pD h;have h2:32^13<=32^r:=Nat.pow_le_pow_right (by decide) hr;have h3:(2:Nat)^64<32^13:=by decide
 exact Nat.div_eq_of_lt (by lia)
def f5(mask i:Nat):Nat:=(i*5+1) % (mask+1)
def it5(mask:Nat):Nat->Nat->Nat
 |0,i=>i
 |n+1,i=>it5 mask n (f5 mask i)
theorem zH2(mask:Nat):∀(a b i:Nat),it5 mask (a+b) i=it5 mask b (it5 mask a i)
 |0,b,i=>by rw[Nat.zero_add];rfl
 |a+1,b,i=>by
  rw[show a+1+b=(a+b)+1 by lia];show it5 mask (a+b) (f5 mask i)=it5 mask b (it5 mask a (f5 mask i));exact zH2 mask a b _
theorem rN(mask:Nat)(h:Int)(n:Nat):(rs mask h (13+n)).1=it5 mask n (rs mask h 13).1:=by
 induction n with
 |zero=>rfl
 |succ n ih=>
  show(leap mask (rs mask h (13+n)).1 (rs mask h (13+n)).2).1=_;rw[mL mask h (13+n) (by lia),ih,show n+1=n+1 from rfl,zH2 mask n 1];show((it5 mask n _)*5+1+0 / 32) % (mask+1)=f5 mask (it5 mask n _);unfold f5;simp
def Msk(mask:Nat):Prop:=mask=7\/mask=31\/mask=127\/mask=511
def orb(mask:Nat):Nat->Nat->List Nat
 |0,_=>[]
 |n+1,i=>i::orb mask n (f5 mask i)
theorem jd(mask:Nat):∀(n i s:Nat),s∈orb mask n i->∃a,a<n/\it5 mask a i=s
 |0,i,s,h=>by simp[orb]at h
 |n+1,i,s,h=>by
  rcases qAT.mp h with z|z
  .exact ⟨0,by lia,z.symm⟩
  .obtain ⟨a,ha,e⟩:=jd mask n (f5 mask i) s z;exact⟨a+1,by lia,e⟩
theorem qE(hm:Msk mask):(List.range (mask+1)).all (λs=>(orb mask (mask+1) 0).contains s)=true/\it5 mask (mask+1) 0=0:=by
 rcases hm with rfl|rfl|rfl|rfl
 .exact ⟨by decide +kernel,by decide +kernel⟩
 .exact ⟨by decide +kernel,by decide +kernel⟩
 .exact ⟨by decide +kernel,by decide +kernel⟩
 .exact ⟨by decide +kernel,by decide +kernel⟩
theorem cyc(hm:Msk mask)(i s:Nat)(hi:i<=mask)(hs:s<=mask):∃r,r<=mask/\it5 mask r i=s:=by
 obtain⟨h1,h2⟩:=qE hm
 have get:∀x,x<=mask->∃a,a<mask+1/\it5 mask a 0=x:=λx hx=>by
  have:=qBt.mp h1 x (qBH.mpr (by lia));exact jd mask (mask+1) 0 x (by simpa using this)
 obtain⟨a,ha,ea⟩:=get i hi;obtain⟨b,hb,eb⟩:=get s hs
 by_cases c:a<=b
 .refine ⟨b-a,by lia,?_⟩;rw[<-ea,<-zH2,show a+(b-a)=b by lia,eb]
 .refine ⟨mask+1-a+b,by lia,?_⟩;rw[<-ea,<-zH2,show a+(mask+1-a+b)=mask+1+b by lia,zH2,h2,eb]
theorem oK(hm:Msk mask)(h:Int)(s:Nat)(hs:s<=mask):∃r,r<=13+mask/\(rs mask h r).1=s:=by
 obtain⟨r,hr,e⟩:=cyc hm (rs mask h 13).1 s (iV mask h 13) hs;exact⟨13+r,by lia,by rw[rN,e]⟩
theorem cU{L:List Nat}(hL:L.length<=mask):∃s,s<=mask/\s∉L:=by
 apply qBh;intro h
 have sub:∀s,s∈List.range (mask+1)->s∈L:=λs hs=>by
  apply qBh;intro q;exact h ⟨s,by have:=qBH.mp hs;lia,q⟩
 have:=(List.nodup_range (n:=mask+1)).length_le_of_subset sub;rw[List.length_range]at this;lia
theorem pL(hm:Msk mask)(h:Int){L:List Nat}(hL:L.length<=mask):∃n,n<10*turns mask/\(pr mask h n).j∉L:=by
 obtain⟨s,hs,q⟩:=cU hL;obtain⟨r,hr,e⟩:=oK hm h s hs;refine⟨stt mask h r,?_,?_⟩
 .have:=lN mask h r;unfold turns;lia
 .have:=zFs mask h r 0 (qAi _);rw[qCx]at this;rw[this];show(rs mask h r).1+0∉L;rw[qCx,e];exact q
theorem zI1(hm:Msk mask)(h:Int){L:List Nat}(hL:L.length<=mask):∃n,n<10*turns mask/\(pr mask h n).j∉L/\∀m,m<n->(pr mask h m).j∈L:=by
 obtain⟨n,hn,q⟩:=pL hm h hL
 induction n using Nat.strongRecOn with
 |_ n ih=>
  by_cases c:∃m,m<n/\(pr mask h m).j∉L
  .obtain ⟨m,hm',qm⟩:=c;exact ih m hm' (by lia) qm
  .refine ⟨n,hn,q,λm hmn=>?_⟩;apply qBh;intro z;exact c ⟨m,hmn,z⟩
structure TOk(t:SetTable)(hs:List Int):Prop where
 m:Msk t.mask
 d:t.dummies=#[]
 r:cB t.place.toList
 l:∀j∈t.place.toList,j<=t.mask
 n:t.place.size=hs.length
 f:t.place.size<=t.mask
 reach:∀(i j:Nat)(h:Int),t.place[i]?=some j->hs[i]?=some h->∃n,(pr t.mask h n).j=j/\∀m,m<n->(pr t.mask h m).j∈t.place.toList
theorem m_(fi mo:Nat)(led:Bool):TOk (SetTable.fresh fi mo led) [] :=
 ⟨.inl rfl,rfl,List.Pairwise.nil,(λj h=>absurd (show j∈([]:List Nat)from h) (by simp)),rfl,qAi _,(λi j h _ e=>by simp at e)⟩
theorem jz(j:Nat):has #[] j=false:=by
 unfold SetTable.has;simp
section
variable{t:SetTable}{hs:List Int}
theorem dg(T:TOk t hs)(e:t.place[i]?=some j):t.slot j= .live i:=by
 have b:=(zE7 T.r j).at T.r e;unfold slot;rw[b];show(if(t.place[i]?==some j)=true then _ else _)=_;rw[e];simp
theorem im(T:TOk t hs)(h:j∉t.place.toList):t.slot j= .empty:=by
 unfold slot
 have e:(t.place[below t.place j]?==some j)=false:=by
  rw[qBG];intro z;exact h (qAJ (i:=below t.place j) (by rw[qAo];exact z))
 simp only[e,T.d,jz];simp
theorem tP(h:j∈xs.toList):∃i:Nat,xs[i]?=some j:=by
 obtain⟨i,hi,e⟩:=qBL.mp h;exact⟨i,by rw[<-qAo];exact qAL.mpr ⟨hi,e⟩⟩
def Oth(t:SetTable)(hashAt:Nat->Int)(h:Int)(m:Nat):Prop:=∃i:Nat,t.place[i]?=some (pr t.mask h m).j/\hashAt i≠h
theorem lX(t:SetTable)(h:Int)(n:Nat):t.advance (pr t.mask h n)=pr t.mask h (n+1):=rfl
theorem qM(T:TOk t hs)(hashAt:Nat->Int)(h:Int)(hN:(pr t.mask h N).j∉t.place.toList)(hb:∀m,m<N->(pr t.mask h m).j∈t.place.toList):∀(d n fuel:Nat),N=n+d->d<fuel ->
  (probe.go t hashAt h fuel (pr t.mask h n)=some (.empty (pr t.mask h N).j none)/\∀m,n<=m->m<N->Oth t hashAt h m) \/
  ∃m i,n<=m/\m<N/\t.place[i]?=some (pr t.mask h m).j/\hashAt i=h/\probe.go t hashAt h fuel (pr t.mask h n)=some (.candidate (pr t.mask h m).j i (pr t.mask h (m+1)))/\∀m',n<=m'->m'<m->Oth t hashAt h m'
 |0,n,fuel+1,e,_=>by
  have e:N=n:=by lia
  subst e;left;refine⟨?_,λm h1 h2=>by lia⟩;unfold probe.go;rw[im T hN];show some (Met.empty _ (pr t.mask h N).dummy)=_;rw[nj]
 |d+1,n,fuel+1,e,hf=>by
  obtain⟨i,ei⟩:=tP (hb n (by lia));unfold probe.go;rw[dg T ei]
  by_cases c:hashAt i=h
  .right;refine⟨n,i,qAG _,by lia,ei,c,?_,λm' h1 h2=>by lia⟩;show(if(hashAt i==h)=true then _ else _)=_;rw[qAC (by simpa using c),lX]
  .have q:(if(hashAt i==h)=true then some (Met.candidate (pr t.mask h n).j i (t.advance (pr t.mask h n)))else probe.go t hashAt h fuel (t.advance (pr t.mask h n)))=probe.go t hashAt h fuel (pr t.mask h (n+1)):=by
    rw[qAB (by simpa using c),lX]
   rcases qM T hashAt h hN hb d (n+1) fuel (by lia) (by lia)with⟨z1,z2⟩|⟨m,i',z1,z2,z3,z4,z5,z6⟩
   .left;refine⟨q.trans z1,λm h1 h2=>?_⟩
    by_cases cm:m=n
    .subst cm;exact⟨i,ei,c⟩
    .exact z2 m (by lia) h2
   .right;refine⟨m,i',by lia,z2,z3,z4,q.trans z5,λm' h1 h2=>?_⟩
    by_cases cm:m'=n
    .subst cm;exact⟨i,ei,c⟩
    .exact z6 m' (by lia) h2
 |_,_,0,_,h=>by lia
theorem zJt(xs:Array α)(p:Nat)(x:α)(hp:p<=xs.size):(insertAt xs p x).toList=xs.toList.take p++x::xs.toList.drop p:=by
 unfold insertAt;rw[qCY,qCK,qBi,qBi,List.extract_eq_drop_take,List.extract_eq_drop_take];rw[qBN (l:=xs.toList.drop p) (by simp)];simp
theorem lH(hr:cB xs.toList)(hj:j∉xs.toList):cB (insertAt xs (below xs j) j).toList:=by
 have B:=zE7 hr j;rw[zJt _ _ _ B.le];refine List.pairwise_append.mpr ⟨hr.sublist (List.take_sublist _ _),List.pairwise_cons.mpr ⟨λy hy=>?_,hr.sublist (List.drop_sublist _ _)⟩,λx hx y hy=>?_⟩
 .obtain ⟨i,hi,rfl⟩:=qBL.mp hy;rw[qAz]at hi
  have e:xs[below xs j+i]?=some (xs.toList.drop (below xs j))[i]:=by
   rw[<-qAo,<-qCL];simp
  have h1:=B.hi _ _ (qCy _ i) e;have h2:(xs.toList.drop (below xs j))[i]≠j:=λz=>hj (z▸qCz hy);lia
 .have hxj:x<j:=by
   obtain⟨i,hi,rfl⟩:=qBL.mp hx;rw[qAU]at hi
   have e:xs[i]?=some (xs.toList.take (below xs j))[i]:=by
    rw[<-qAo,<-qDD (show i<below xs j by lia)];exact qAq _
   exact B.lo i _ (by lia) e
  rcases qAT.mp hy with z|z
  .rw [z];exact hxj
  .obtain ⟨i,hi,rfl⟩:=qBL.mp z;rw[qAz]at hi
   have e:xs[below xs j+i]?=some (xs.toList.drop (below xs j))[i]:=by
    rw[<-qAo,<-qCL];simp
   have h1:=B.hi _ _ (qCy _ i) e;lia
theorem zGl{β:Type}{L:List α}{M:List β}(hl:L.length=M.length){p:Nat}(hp:p<=L.length){x:α}{y:β}{u:α}{v:β}(h1:(L.take p++x::L.drop p)[i]?=some u)(h2:(M.take p++y::M.drop p)[i]?=some v) :
  (u=x/\v=y)\/∃i':Nat,L[i']?=some u/\M[i']?=some v:=by
 have l1:(L.take p).length=p:=by rw[qAU];lia
 have l2:(M.take p).length=p:=by rw[qAU];lia
 by_cases c:i<p
 .rw [qA5 (by lia),qDD c]at h1 h2;exact .inr ⟨i,h1,h2⟩
 .rw [qBJ (by lia)]at h1 h2;rw[l1]at h1;rw[l2]at h2
  cases e:i-p with
  |zero=>
   rw[e]at h1 h2;exact .inl ⟨(by simpa using h1.symm),(by simpa using h2.symm)⟩
  |succ k=>
   rw[e]at h1 h2;rw[qCZ,qCL]at h1 h2;exact .inr ⟨p+k,h1,h2⟩
theorem sP(T:TOk t hs)(h:Int)(hN:(pr t.mask h N).j∉t.place.toList)(hb:∀m,m<N->(pr t.mask h m).j∈t.place.toList)(hf:t.place.size+1<=t.mask) :
  TOk (t.put (pr t.mask h N).j).1 (hs.take (t.put (pr t.mask h N).j).2++h::hs.drop (t.put (pr t.mask h N).j).2):=by
 have B:=zE7 T.r (pr t.mask h N).j;have ep:(t.put (pr t.mask h N).j).2=below t.place (pr t.mask h N).j:=rfl;have el:(t.put (pr t.mask h N).j).1.place=insertAt t.place (below t.place (pr t.mask h N).j) (pr t.mask h N).j:=rfl;have em:(t.put (pr t.mask h N).j).1.mask=t.mask:=rfl;have tl:=zJt t.place (below t.place (pr t.mask h N).j) (pr t.mask h N).j B.le
 have mem:∀j,j∈t.place.toList->j∈(insertAt t.place (below t.place (pr t.mask h N).j) (pr t.mask h N).j).toList:=λj hj=>by
  rw[tl];have:j∈t.place.toList.take (below t.place (pr t.mask h N).j)++t.place.toList.drop (below t.place (pr t.mask h N).j):=by rw[qBb];exact hj
  rcases qAR.mp this with z|z
  .exact qAp _ z
  .exact qAs _ (qAX _ z)
 have sz:(insertAt t.place (below t.place (pr t.mask h N).j) (pr t.mask h N).j).size=t.place.size+1:=by
  have:=qAl List.length tl;simp only[qB2,qAN,qAa,qAU,qAz]at this;have:=B.le;lia
 refine⟨T.m,?_,lH T.r hN,λj hj=>?_,?_,?_,λi j h' e1 e2=>?_⟩
 .show (if has t.dummies (pr t.mask h N).j then _ else t.dummies)=#[];rw[T.d,jz];rfl
 .rw [em];rw[el,tl]at hj;rcases qAR.mp hj with z|z
  .exact T.l j (qBj z)
  .rcases qAT.mp z with z|z
   .rw [z];exact qV _ _ _
   .exact T.l j (qCz z)
 .rw [el,sz,ep,qAN,qAa,qAU,qAz];have:=B.le;have:=T.n;lia
 .rw [el,sz];exact hf
 .rw [em];rw[el,<-qAo,tl]at e1;rw[ep]at e2;rw[el];rcases zGl (L:=t.place.toList) (M:=hs) (by simpa using T.n) (by simpa using B.le) e1 e2 with⟨z1,z2⟩|⟨i',z1,z2⟩
  .subst z1 z2;exact⟨N,rfl,λm hm=>mem _ (hb m hm)⟩
  .obtain ⟨n,q1,q2⟩:=T.reach i' j h' (by rw[<-qAo];exact z1) z2;exact⟨n,q1,λm hm=>mem _ (q2 m hm)⟩
end
structure Ow(mask:Nat)(hs:List Int)(owner:Array (Option Nat))(sl:List Nat):Prop where
 z:owner.size=mask+1
 n:sl.length=hs.length
 nd:sl.Nodup
 l:∀j∈sl,j<=mask
 a:∀(k j:Nat),sl[k]?=some j->owner[j]?=some (some k)
 e:∀j,j<=mask->j∉sl->owner[j]?=some none
 reach:∀(k j:Nat)(h:Int),sl[k]?=some j->hs[k]?=some h->∃n,(pr mask h n).j=j/\∀m,m<n->(pr mask h m).j∈sl
theorem zJm{owner:Array (Option Nat)}{sl:List Nat}(O:Ow mask hs owner sl)(hj:j<=mask):((owner.getD j (some 0)).isNone=true)↔j∉sl:=by
 have hz:j<owner.size:=by rw[O.z];lia
 have eD:owner.getD j (some 0)=owner[j]:=by simp[Array.getD,hz]
 rw[eD];constructor
 .intro h q;obtain⟨k,hk,e⟩:=qBL.mp q;have:=O.a k j (qAL.mpr ⟨hk,e⟩);rw[Array.getElem?_eq_getElem hz]at this;rw[qAb this]at h;simp at h
 .intro q;have:=O.e j hj q;rw[Array.getElem?_eq_getElem hz]at this;rw[qAb this];rfl
theorem jw{owner:Array (Option Nat)}{sl:List Nat}(hm:Msk mask)(O:Ow mask hs owner sl)(hl:sl.length<=mask)(h:Int)(hN:(pr mask h N).j∉sl)(hb:∀m,m<N->(pr mask h m).j∈sl){R:Nat}(hR:(rs mask h R).1∉sl) :
  ∀(fuel r:Nat),stt mask h r<=N->R<r+fuel->layClean.free mask owner fuel (rs mask h r).1 (rs mask h r).2=some (pr mask h N).j
 |0,r,h1,h2=>by
  exfalso
  have key:∀d,stt mask h R<=stt mask h (R+d)/\(0<d->stt mask h R<stt mask h (R+d)):=by
   intro d
   induction d with
   |zero=>exact⟨qAG _,λz=>by lia⟩
   |succ d ih=>
    have e:stt mask h (R+(d+1))=stt mask h (R+d)+(runEnd mask (rs mask h (R+d)).1-(rs mask h (R+d)).1+1):=rfl;exact⟨by lia,λ_=>by lia⟩
  obtain⟨d,rfl⟩:∃d,r=R+d:=⟨r-R,by lia⟩;have hd:0<d:=by lia
  have:=(key d).2 hd;have q:=hb (stt mask h R) (by lia);have e:=zFs mask h R 0 (qAi _);rw[qCx]at e;rw[e]at q;exact hR (by simpa using q)
 |fuel+1,r,h1,h2=>by
  have rl:=iq mask _ (iV mask h r);unfold layClean.free
  cases q:(List.range (runEnd mask (rs mask h r).1+1-(rs mask h r).1)).find? λk=>(owner.getD ((rs mask h r).1+k) (some 0)).isNone with
  |some k=>
   have q1:=List.find?_some q;have q2:=qDE q;rw[qBH]at q2;have q1:((owner.getD ((rs mask h r).1+k) (some 0)).isNone)=true:=q1;rw[zJm O (by lia)]at q1;have e:=zFs mask h r k (by lia);have hk:(pr mask h (stt mask h r+k)).j=(rs mask h r).1+k:=by rw[e]
   have c1:¬stt mask h r+k<N:=λz=>q1 (hk▸hb _ z)
   have c2:¬N<stt mask h r+k:=λz=>by
    obtain⟨d,hd⟩:∃d,N=stt mask h r+d:=⟨N-stt mask h r,by lia⟩;have hdk:d<k:=by lia
    rw[List.find?_eq_some_iff_append]at q;obtain⟨_,as,bs,e1,e2⟩:=q
    have la:as.length=k:=by
     have:=qAl (λl=>l[as.length]?) e1;simp at this
     by_cases cc:as.length<runEnd mask (rs mask h r).1+1-(rs mask h r).1
     .rw [List.getElem?_range cc]at this;exact qAb this
     .rw [qC0 (by simp;lia)]at this
      cases this
    have mem:d∈as:=by
     have hd':(List.range (runEnd mask (rs mask h r).1+1-(rs mask h r).1))[d]?=some d:=List.getElem?_range (by lia);rw[e1,qA5 (by lia)]at hd';exact qAJ hd'
    have z1:=e2 d mem;have ed:=zFs mask h r d (by lia);have hjd:(pr mask h N).j=(rs mask h r).1+d:=by rw[hd,ed]
    have z2:((owner.getD ((rs mask h r).1+d) (some 0)).isNone)=true:=(zJm O (by lia)).mpr (hjd▸hN);rw[z2]at z1;simp at z1
   have eN:N=stt mask h r+k:=by lia
   show some ((rs mask h r).1+k)=_;rw[eN,hk]
  |none=>
   have q1:=List.find?_eq_none.mp q;refine jw hm O hl h hN hb hR fuel (r+1) ?_ (by lia);show stt mask h r+(runEnd mask (rs mask h r).1-(rs mask h r).1+1)<=N;apply qBh;intro c;obtain⟨d,hd⟩:∃d,N=stt mask h r+d:=⟨N-stt mask h r,by lia⟩;have ed:=zFs mask h r d (by lia);have hjd:(pr mask h N).j=(rs mask h r).1+d:=by rw[hd,ed]
   have z1:=q1 d (qBH.mpr (by lia));have z2:((owner.getD ((rs mask h r).1+d) (some 0)).isNone)=true:=(zJm O (by lia)).mpr (hjd▸hN);exact z1 z2
theorem qu{owner:Array (Option Nat)}{sl:List Nat}(hm:Msk mask)(O:Ow mask hs owner sl)(hl:sl.length<=mask)(h:Int) :
  ∃N,(pr mask h N).j∉sl/\(∀m,m<N->(pr mask h m).j∈sl)/\layClean.free mask owner (turns mask) (bits h % (mask+1)) (bits h)=some (pr mask h N).j:=by
 obtain⟨N,_,hN,hb⟩:=zI1 hm h hl;obtain⟨s,hs',q⟩:=cU hl;obtain⟨R,hR,e⟩:=oK hm h s hs';exact⟨N,hN,hb,jw hm O hl h hN hb (R:=R) (by rw[e];exact q) (turns mask) 0 (qAi _) (by unfold turns;lia)⟩
theorem Ow.more{owner:Array (Option Nat)}{sl:List Nat}(O:Ow mask hs owner sl)(h:Int)(hN:(pr mask h N).j∉sl)(hb:∀m,m<N->(pr mask h m).j∈sl) :
  Ow mask (hs++[h]) (owner.setIfInBounds (pr mask h N).j (some hs.length)) (sl++[(pr mask h N).j]):=by
 have hj:=qV mask h N;have hz:(pr mask h N).j<owner.size:=by rw[O.z];lia
 have one:∀{k j:Nat},(sl++[(pr mask h N).j])[k]?=some j->(k<sl.length/\sl[k]?=some j)\/(k=sl.length/\j=(pr mask h N).j):=λ{k j} e=>by
  by_cases c:k<sl.length
  .rw [qA5 c]at e;exact .inl ⟨c,e⟩
  .rw [qBJ (by lia)]at e
   have hk:k=sl.length:=by
    have:=(qAL.mp e).1;simp at this;lia
   subst hk;exact .inr ⟨rfl,by simpa using e.symm⟩
 refine⟨by rw[qDF];exact O.z,by simp[O.n],?_,λj hj'=>?_,λk j e=>?_,λj hj1 hj2=>?_,λk j h' e1 e2=>?_⟩
 .refine qBX.mpr ⟨O.nd,qBI.mpr ⟨by simp,qBC⟩,λa ha b hb'=>?_⟩;have:b=(pr mask h N).j:=by simpa using hb'
  subst this;intro z;subst z;exact hN ha
 .rcases qAR.mp hj' with z|z
  .exact O.l j z
  .have:j=(pr mask h N).j:=by simpa using z
   rw[this];exact hj
 .rcases one e with⟨_,z⟩|⟨z1,z2⟩
  .have hne:j≠(pr mask h N).j:=λq=>hN (q▸qAJ z);rw[qDG (qAh hne)];exact O.a k j z
  .subst z1 z2;rw[qDH hz,O.n]
 .have h1:j∉sl:=λq=>hj2 (qAp _ q);have h2:j≠(pr mask h N).j:=λq=>hj2 (qAs _ (by simp[q]));rw[qDG (qAh h2)];exact O.e j hj1 h1
 .rcases one e1 with⟨c,z⟩|⟨z1,z2⟩
  .rw [qA5 (by rw[<-O.n];exact c)]at e2;obtain⟨n,q1,q2⟩:=O.reach k j h' z e2;exact⟨n,q1,λm hm=>qAp _ (q2 m hm)⟩
  .subst z1 z2;rw[qBJ (by rw[O.n];exact qAG _),O.n]at e2;have:h'=h:=by simpa using e2.symm
   subst this;exact⟨N,rfl,λm hm=>qAp _ (hb m hm)⟩
theorem sf(hm:Msk mask)(hs:List Int)(hl:hs.length<=mask):∃owner sl,Ow mask hs owner sl/\layClean mask hs.toArray=some owner:=by
 have key:∀(rest done:List Int) (owner:Array (Option Nat)) (sl:List Nat),Ow mask done owner sl->done.length+rest.length<=mask ->
   ∃owner' sl',Ow mask (done++rest) owner' sl'/\rest.foldl (λ(acc:Option (Array (Option Nat)×Nat)) h=>do
    let(owner,k)<-acc
    let j<-layClean.free mask owner (turns mask) (bits h % (mask+1)) (bits h)
    pure (owner.setIfInBounds j (some k),k+1)) (some (owner,done.length))=some (owner',(done++rest).length):=by
  intro rest
  induction rest with
  |nil=>intro done owner sl O _;exact⟨owner,sl,by rw[qAm];exact O,by rw[qAm];rfl⟩
  |cons h rest ih=>
   intro done owner sl O hl;rw[qAa]at hl;obtain⟨N,hN,hb,ef⟩:=qu hm O (by rw[O.n];lia) h;have O2:=O.more h hN hb;obtain⟨o',s',O3,e3⟩:=ih (done++[h]) _ _ O2 (by rw[qAN];simp;lia);refine⟨o',s',by simpa using O3,?_⟩;rw[qBr]
   have e4:(do
    let(owner,k)<-(some (owner,done.length):Option (Array (Option Nat)×Nat))
    let j<-layClean.free mask owner (turns mask) (bits h % (mask+1)) (bits h)
    pure (owner.setIfInBounds j (some k),k+1))=some (owner.setIfInBounds (pr mask h N).j (some done.length),(done++[h]).length):=by
    show(do
     let j<-layClean.free mask owner (turns mask) (bits h % (mask+1)) (bits h)
     pure (owner.setIfInBounds j (some done.length),done.length+1))=_
    rw[ef];simp
   rw[e4,e3];simp
 have O0:Ow mask [] (Array.replicate (mask+1) none) []:=⟨Array.size_replicate,rfl,qBC,(λj h=>absurd h qCa),(λk j e=>by rw[List.getElem?_nil]at e;cases e),(λj hj _=>by rw[Array.getElem?_replicate,qAC (by lia)]),(λk j h e=>by rw[List.getElem?_nil]at e;cases e)⟩;obtain⟨o,sl,O,e⟩:=key hs [] _ _ O0 (by simpa using hl);refine⟨o,sl,by simpa using O,?_⟩;unfold layClean;rw[List.foldl_toArray];have e':=e;simp only[List.nil_append,qBB]at e';show Option.map _ (hs.foldl _ (some (Array.replicate (mask+1) none,0)))=_;rw[e'];rfl
theorem qC(hm:Msk mask)(hs:List Int)(hl:hs.length<=mask)(fi mo:Nat)(led plain:Bool):∃t order,laid mask fi mo led plain hs.toArray=some (t,order)/\t.mask=mask/\t.led=led/\t.plain=plain/\order.toList.Perm (List.range hs.length) /\
  TOk t (order.toList.map λk=>hs.getD k 0):=by
 obtain⟨owner,sl,O,e⟩:=sf hm hs hl
 have hg:∀j,j<=mask->owner.getD j none=(owner[j]?).getD none:=λj hj=>by
  have hz:j<owner.size:=by rw[O.z];lia
  simp[Array.getD,hz]
 have el:∀j,j<=mask->((owner.getD j none).map (j,·)=none↔j∉sl):=λj hj=>by
  rw[hg j hj];constructor
  .intro q z;obtain⟨k,hk,ek⟩:=qBL.mp z;rw[O.a k j (qAL.mpr ⟨hk,ek⟩)]at q
   cases q
  .intro q;rw[O.e j hj q];rfl
 have es:∀j k,j<=mask->((owner.getD j none).map (j,·)=some (j,k)↔sl[k]?=some j):=λj k hj=>by
  rw[hg j hj];constructor
  .intro q
   by_cases c:j∈sl
   .obtain ⟨k',hk,ek⟩:=qBL.mp c;have ek':=qAL.mpr ⟨hk,ek⟩;rw[O.a k' j ek']at q;have q:some (j,k')=some (j,k):=q;injection q with q;injection q with _ q;rw[<-q];exact ek'
   .rw [O.e j hj c]at q;cases q
  .intro q;rw[O.a k j q];rfl
 generalize hlive:(List.range (mask+1)).filterMap (λj=>(owner.getD j none).map (j,·))=live
 have mem:∀p,p∈live↔sl[p.2]?=some p.1:=λp=>by
  rw[<-hlive,List.mem_filterMap];constructor
  .rintro ⟨j,hj,q⟩;have hj':j<=mask:=by have:=qBH.mp hj;lia
   have:p.1=j:=by
    cases h:owner.getD j none with
    |none=>rw[h]at q;cases q
    |some k=>rw[h]at q;have q:some (j,k)=some p:=q;injection q with q;rw[<-q]
   subst this;exact(es p.1 p.2 hj').mp q
  .intro q;have hj:p.1<=mask:=O.l _ (qAJ q);exact⟨p.1,qBH.mpr (by lia),(es p.1 p.2 hj).mpr q⟩
 have rise:cB (live.map (·.1)):=by
  have h1:(List.range (mask+1)).Pairwise (·<·):=List.pairwise_lt_range;rw[<-hlive,List.map_filterMap];refine List.Pairwise.filterMap _ (λa b hab x hx y hy=>?_) h1
  cases ha:owner.getD a none with
  |none=>rw[ha]at hx;cases hx
  |some k=>
   rw[ha]at hx;have hx:some a=some x:=hx
   cases hb:owner.getD b none with
   |none=>rw[hb]at hy;cases hy
   |some k'=>
    rw[hb]at hy;have hy:some b=some y:=hy;injection hx with hx;injection hy with hy;lia
 have nd2:(live.map (·.2)).Nodup:=by
  have hr:live.Pairwise (λa b=>a.1<b.1):=List.pairwise_map.mp rise;refine List.pairwise_map.mpr (hr.imp_of_mem λ{a b} ha hb hab q=>?_);have h1:=(mem a).mp ha;have h2:=(mem b).mp hb;rw[q]at h1;rw[h1]at h2;have:=qAb h2;lia
 have perm:(live.map (·.2)).Perm (List.range hs.length):=by
  refine(List.perm_ext_iff_of_nodup nd2 List.nodup_range).mpr λk=>?_;rw[qBH,qAe];constructor
  .rintro ⟨p,hp,rfl⟩;have:=(qAL.mp ((mem p).mp hp)).1;rw[O.n]at this;exact this
  .intro hk;have hk':k<sl.length:=by rw[O.n];exact hk
   exact⟨(sl[k],k),(mem _).mpr (by simp),rfl⟩
 have pmem:∀j,j∈live.map (·.1)↔j∈sl:=λj=>by
  rw[qAe];constructor
  .rintro ⟨p,hp,rfl⟩;exact qAJ ((mem p).mp hp)
  .intro q;obtain⟨k,hk,ek⟩:=qBL.mp q;exact⟨(j,k),(mem _).mpr (qAL.mpr ⟨hk,ek⟩),rfl⟩
 have llen:live.length=hs.length:=by
  have:=perm.length_eq;simpa using this
 refine⟨{mask,place:=(live.map (·.1)).toArray,dummies:=#[],finger:=fi,led,moves:=mo,plain},(live.map (·.2)).toArray,?_,rfl,rfl,rfl,by simpa using perm,?_⟩
 .unfold laid;rw[e];show some (_,_)=some (_,_);rw[hlive]
 .refine ⟨hm,rfl,by simpa using rise,λj hj=>?_,by simp[llen],by simp[llen];exact hl,λi j h e1 e2=>?_⟩
  .exact O.l j ((pmem j).mp (by simpa using hj))
  .have e1:(live.map (·.1))[i]?=some j:=by simpa using e1
   have e2:((live.map (·.2)).map λk=>hs.getD k 0)[i]?=some h:=by simpa using e2
   cases q:live[i]? with
   |none=>rw[qAY,q]at e1;cases e1
   |some p=>
    rw[qAY,q]at e1;rw[qAY,qAY,q]at e2;have e1:p.1=j:=by simpa using e1
    have e2:hs.getD p.2 0=h:=by simpa using e2
    have hp:=(mem p).mp (qAJ q);rw[e1]at hp;have hk:p.2<hs.length:=by rw[<-O.n];exact(qAL.mp hp).1
    have hh:hs[p.2]?=some h:=by
     rw[<-e2,qBg];simp[hk]
    obtain⟨n,q1,q2⟩:=O.reach p.2 j h hp hh
    exact⟨n,q1,λm hm=>by
     have:=(pmem _).mpr (q2 m hm);simpa using this⟩
section
variable{prog:Program}{w:World}{K:Type}[DecidableEq K]{knd:KeyKind prog w K}{A:Around}{E:Value->Shared->Prop}{s:Shared}
theorem cJ{v:Value}(h:carriedByValue v=true):∀a,v≠.ref a:=by
 intro a e;subst e;simp[carriedByValue]at h
theorem qi(n:Nat){v:Value}(h:carriedByValue v=true):ofAClassStatement n v=pure false:=by
 cases v with
 |ref a=>exact absurd rfl (cJ h a)
 |_=>cases n<;>(unfold ofAClassStatement;rfl)
theorem rB{k:List K}{b:Addr}{Q:Bool->Shared->Prop}(hk:IsTupleKey knd s.heap k b)(h:Q false s):wpAny (model prog w) A (ofAClassStatement 8 (.ref b)) Q E s:=by
 have hT:=hk.typeIs;obtain⟨o,items,n,ho,_,hd,hi⟩:=hk;unfold ofAClassStatement;refine qAA (wpAny_typeOf hT ?_);show wpAny _ _ (if("tuple"=="tuple")=true then _ else _) _ _ _;rw[qAC (by decide)];refine qAA (qAE ?_);show wpAny _ _ (if(!true)=true then _ else _) _ _ _;rw[qAB (by decide)];show wpAny _ _ (seqItems? (.ref b) >>= _) _ _ _;refine qAA ?_;show wpAny _ _ (load b >>= _) _ _ _;refine qAA (qB4 ho ?_);rw[hd];refine qAE ?_;dsimp only;refine qAA ?_;show wpAny _ _ (forIn items _ _) _ _ s;rw[<-Array.forIn_toList];refine wpAny_forIn_list _ (λrest r s'=>r.1=none/\s'=s/\∀v∈rest,carriedByValue v=true) _ ?_ ?_ _ _ ⟨rfl,rfl,hi.byValue⟩
 .rintro v rest r s' ⟨hr,rfl,hall⟩;refine qAA (qCM (qi _ (hall v qAf)) ?_);rw[qAB (by decide)];exact qAE ⟨rfl,rfl,λu hu'=>hall u (qAX _ hu')⟩
 .rintro ⟨r1,r2⟩ s' ⟨hr,rfl,_⟩;have hr:r1=none:=hr;subst hr;exact qAE h
theorem tO{k:List K}{b:Addr}{stored:List Value}{Q:Bool->Shared->Prop}(hk:IsTupleKey knd s.heap k b)(hs:∀v∈stored,∃k' b',v= .ref b'/\IsTupleKey knd s.heap k' b')(h:Q false s):wpAny (model prog w) A (searchCouldBeSeen (.ref b) stored) Q E s:=by
 unfold searchCouldBeSeen;refine qAA ?_;refine wpAny_forIn_list _ (λrest r s'=>r.1=none/\s'=s/\∀v∈rest,∃k' b',v= .ref b'/\IsTupleKey knd s.heap k' b') _ ?_ ?_ _ _ ⟨rfl,rfl,hs⟩
 .rintro v rest r s' ⟨hr,rfl,hall⟩;obtain⟨k',b',rfl,hk'⟩:=hall v qAf;have hall':∀u∈rest,∃k' b',u= .ref b'/\IsTupleKey knd s'.heap k' b':=λu hu'=>hall u (qAX _ hu');dsimp only
  by_cases c:((b==b')||(carriedByValue (.ref b)&&carriedByValue (.ref b')))=true
  .rw [qAC c];exact qAE ⟨rfl,rfl,hall'⟩
  .rw [qAB c];refine qAA (wpAny_eqIsQuiet_tuple hk ?_);rw[qAB (by decide)];refine qAA (wpAny_eqIsQuiet_tuple hk' ?_);rw[qAB (by decide)];refine qAA (rB hk ?_);rw[qAB (by decide)];refine qAA (rB hk' ?_);rw[qAB (by decide)];exact qAE ⟨rfl,rfl,hall'⟩
 .rintro ⟨r1,r2⟩ s' ⟨hr,rfl,_⟩;have hr:r1=none:=hr;subst hr;exact qAE h
theorem oX(n:Nat){v:Value}(h:carriedByValue v=true):∃c,hashByValue n v=pure c:=by
 cases v with
 |ref a=>exact absurd rfl (cJ h a)
 |_=>cases n<;>(unfold hashByValue;exact⟨_,rfl⟩)
theorem uq{k:List K}{b:Addr}{Q:Bool->Shared->Prop}(hk:IsTupleKey knd s.heap k b)(h:∀c,Q c s):wpAny (model prog w) A (hashByValue 8 (.ref b)) Q E s:=by
 have hT:=hk.typeIs;obtain⟨o,items,n,ho,_,hd,hi⟩:=hk;unfold hashByValue;refine qAA (qCv hT F.slot_tuple_hash.lookup ?_);show wpAny _ _ (seqItems? (.ref b) >>= _) _ _ _;refine qAA ?_;show wpAny _ _ (load b >>= _) _ _ _;refine qAA (qB4 ho ?_);rw[hd];refine qAE ?_;dsimp only;refine qAA ?_;show wpAny _ _ (forIn items _ _) _ _ s;rw[<-Array.forIn_toList];refine wpAny_forIn_list _ (λrest r s'=>s'=s/\∀v∈rest,carriedByValue v=true) _ ?_ ?_ _ _ ⟨rfl,hi.byValue⟩
 .rintro v rest r s' ⟨rfl,hall⟩;obtain⟨c,ec⟩:=oX 7 (hall v qAf);rw[ec];refine qAA (qAE ?_);split
  .exact qAE (qAE (h _))
  .exact qAE ⟨rfl,λu hu'=>hall u (qAX _ hu')⟩
 .rintro ⟨r1,r2⟩ s' ⟨rfl,_⟩
  cases r1 with
  |none=>exact qAE (h _)
  |some c=>exact qAE (h _)
end
section
variable{prog:Program}{w:World}{K:Type}[DecidableEq K]{knd:KeyKind prog w K}{A:Around}{E:Value->Shared->Prop}{s:Shared}
def en(knd:KeyKind prog w K)(p:List K×Addr):Int×Value:=(tupleKeyHash knd p.1,.ref p.2)
def byt(w:World):Bool:=w.params.followText "set-order"
structure SetX(knd:KeyKind prog w K)(h:Heap)(a:Addr)(xs:List (List K×Addr))(o:Obj)(es:Array (Int×Value))(ep:Nat)(t:SetTable):Prop where
 ho:h.get? a=some o
 ex:o.ExactSet
 hd:o.data= .set es ep t
 el:es.toList=xs.map (en knd)
 ok:TOk t (xs.map λp=>tupleKeyHash knd p.1)
 room:xs.length*5<t.mask*3
 nd:(xs.map (·.1)).Nodup
 ky:∀p∈xs,IsTupleKey knd h p.1 p.2
 ld:t.led= !byt w
section
variable{a:Addr}{xs:List (List K×Addr)}{o:Obj}{es:Array (Int×Value)}{ep:Nat}{t:SetTable}
theorem SetX.at(X:SetX knd s.heap a xs o es ep t)(i:Nat):es[i]?=(xs[i]?).map (en knd):=by
 rw[<-qAo,X.el,qAY]
theorem SetX.size(X:SetX knd s.heap a xs o es ep t):es.size=xs.length:=by
 have:=qAl List.length X.el;simpa using this
theorem SetX.fits(X:SetX knd s.heap a xs o es ep t):t.fits es.size=true:=by
 unfold SetTable.fits;have h1:t.place.size=es.size:=by rw[X.ok.n,X.size];simp
 have h2:t.fill<=t.mask:=by
  unfold fill;rw[X.ok.d];exact X.ok.f
 rw[h1];simp[h2]
theorem SetX.state(X:SetX knd s.heap a xs o es ep t){Q:(Array (Int×Value)×Nat×SetTable)->Shared->Prop}(h:Q (es,ep,t) s):wpAny (model prog w) A (setState a) Q E s:=wpAny_setState_of X.ho X.hd X.fits h
theorem qD{m:Nat}(h:Msk m):(m % 2==0)=false:=by
 rcases h with rfl|rfl|rfl|rfl<;>decide
theorem SetX.has(X:SetX knd s.heap a xs o es ep t)(e:t.place[i]?=some j):∃p,xs[i]?=some p:=by
 have h1:i<t.place.size:=(qBM.mp e).1;have h2:=X.ok.n;rw[qAD]at h2;exact⟨xs[i]'(by lia),by simp⟩
theorem iO{c:Bool}{m:Sem Bool}{u:String}{jp:Unit->Sem α}{Q:α->Shared->Prop}(hm:∀f:Bool->Sem α,wpAny (model prog w) A (f false) Q E s->wpAny (model prog w) A (m >>= f) Q E s)(h:wpAny (model prog w) A (jp ()) Q E s) :
  wpAny (model prog w) A (if c=true then(m >>= λl=>if l=true then(unsupported u >>= jp)else jp ())else jp ()) Q E s:=by
 by_cases z:c=true
 .rw [qAC z];exact hm _ h
 .rw [qAB z];exact h
theorem nv(hu:A.units<cLine)(X:SetX knd s.heap a xs o es ep t){k:List K}{b:Addr}(hk:IsTupleKey knd s.heap k b)(hN:(pr t.mask (tupleKeyHash knd k) N).j∉t.place.toList)(hb:∀m,m<N->(pr t.mask (tupleKeyHash knd k) m).j∈t.place.toList)(hNf:N<10*turns t.mask)
  {Q:SetFound->Shared->Prop} (h1:k∈xs.map (·.1)->Q (.there none) s) (h2:k∉xs.map (·.1)->Q (.free (pr t.mask (tupleKeyHash knd k) N).j false) s) :
  ∀(d n fuel:Nat)(stand:Option Probe),N=n+d->d<fuel->stand.getD (t.probeStart (tupleKeyHash knd k))=pr t.mask (tupleKeyHash knd k) n ->
   (∀m,m<n->∃(i:Nat)(p:List K×Addr),t.place[i]?=some (pr t.mask (tupleKeyHash knd k) m).j/\xs[i]?=some p/\p.1≠k)->wpAny (model prog w) A (setSearchFrom a (.ref b) (tupleKeyHash knd k) true fuel stand) Q E s:=by
 intro d
 induction d using Nat.strongRecOn with
 |_ d ih=>
  intro n fuel stand e hf hst hseen;obtain⟨fuel,rfl⟩:∃f,fuel=f+1:=⟨fuel-1,by lia⟩;unfold setSearchFrom;refine qAA (X.state ?_);show wpAny _ _ (if(t.mask % 2==0)=true then _ else _) _ _ _;rw[qD X.ok.m,qAB (by decide)]
  have oth:∀m,Oth t (λi=>(es[i]?.map (·.1)).getD 0) (tupleKeyHash knd k) m->∃(i:Nat)(p:List K×Addr),t.place[i]?=some (pr t.mask (tupleKeyHash knd k) m).j/\xs[i]?=some p/\p.1≠k:=λm ⟨i,ei,hi⟩=>by
   obtain⟨p,ep'⟩:=X.has ei;refine⟨i,p,ei,ep',λz=>hi ?_⟩;show(es[i]?.map (·.1)).getD 0=_;rw[X.at i,ep',<-z];rfl
  rw[hst];rcases qM X.ok (λi=>(es[i]?.map (·.1)).getD 0) (tupleKeyHash knd k) hN hb d n (10*turns t.mask) e (by lia)with⟨z1,z2⟩|⟨m,i,z1,z2,z3,z4,z5,z6⟩
  .have z1:t.probe (λi=>(es[i]?.map (·.1)).getD 0) (tupleKeyHash knd k) (pr t.mask (tupleKeyHash knd k) n)=some (.empty (pr t.mask (tupleKeyHash knd k) N).j none):=z1
   erw [z1]
   refine qAE (h2 λhm=>?_);obtain⟨p,hp,rfl⟩:=qAe.mp hm;obtain⟨i,hi,ei⟩:=qBL.mp hp;have exi:xs[i]?=some p:=qAL.mpr ⟨hi,ei⟩;have hpl:i<t.place.size:=by rw[X.ok.n,qAD];exact hi
   have epl:t.place[i]?=some t.place[i]:=by simp
   obtain⟨q,q1,q2⟩:=X.ok.reach i t.place[i] (tupleKeyHash knd p.1) epl (by rw[qAY,exi];rfl)
   have hqN:q<N:=by
    apply qBh;intro c
    by_cases cq:q=N
    .subst cq;exact hN (by rw[q1];exact qAJ (i:=i) (by rw[qAo];exact epl))
    .exact hN (q2 N (by lia))
   have:∃(i':Nat)(p':List K×Addr),t.place[i']?=some (pr t.mask (tupleKeyHash knd p.1) q).j/\xs[i']?=some p'/\p'.1≠p.1:=by
    by_cases c:q<n
    .exact hseen q c
    .exact oth q (z2 q (by lia) hqN)
   obtain⟨i',p',w1,w2,w3⟩:=this;rw[q1]at w1
   have:i'=i:=by
    rcases Nat.lt_trichotomy i' i with z|z|z
    .have:=zE3 X.ok.r z w1 epl;lia
    .exact z
    .have:=zE3 X.ok.r z epl w1;lia
   subst this;rw[exi]at w2
   cases w2
   exact w3 rfl
  .have z5:t.probe (λi=>(es[i]?.map (·.1)).getD 0) (tupleKeyHash knd k) (pr t.mask (tupleKeyHash knd k) n)=some (.candidate (pr t.mask (tupleKeyHash knd k) m).j i (pr t.mask (tupleKeyHash knd k) (m+1))):=z5
   erw [z5]
   obtain⟨p,exi⟩:=X.has z3;have hp:=X.ky p (qAJ exi);have eei:es[i]?=some (tupleKeyHash knd p.1,.ref p.2):=by rw[X.at i,exi];rfl
   refine iO (λf hf=>qAA (tO hk ?_ hf)) ?_
   .intro v hv;obtain⟨q,hq,rfl⟩:=qAe.mp hv
    have hq:q∈es.toList:=by
     have:=(Array.mem_filter.mp (qDC.mp hq)).1;exact qDC.mpr this
    rw[X.el]at hq;obtain⟨p',hp',rfl⟩:=qAe.mp hq;exact⟨p'.1,p'.2,rfl,X.ky p' hp'⟩
   dsimp only;rw[eei];dsimp only;refine qAA (qAy (wpAny_eqBool_tuple hu hp hk ?_));refine qAA (X.state ?_);dsimp only
   by_cases c:p.1=k
   .rw [qAC (by simp[c])];exact qAE (h1 (qAe.mpr ⟨p,qAJ exi,c⟩))
   .rw [qAB (by simp[c])];have esm:t.sameMemory t.moves t.mask=some true:=by unfold SetTable.sameMemory;simp
    rw[esm];dsimp only;rw[qAC rfl,dg X.ok z3];dsimp only;rw[eei];dsimp only;refine qAA (wpAny_isSame_ref_self ?_);rw[qAC rfl];refine qAA (qAE ?_);dsimp only;rw[qAB (by simp[c])];refine ih (N-(m+1)) (by lia) (m+1) fuel (some _) (by lia) (by lia) rfl ?_;intro q hq
    by_cases cq:q<n
    .exact hseen q cq
    by_cases cm:q=m
    .subst cm;exact⟨i,p,z3,exi,c⟩
    .exact oth q (z6 q (by lia) (by lia))
end
end
section
variable{prog:Program}{w:World}{K:Type}[DecidableEq K]{knd:KeyKind prog w K}{A:Around}{E:Value->Shared->Prop}{s:Shared}
variable{a:Addr}{xs:List (List K×Addr)}{o:Obj}{es:Array (Int×Value)}{ep:Nat}{t:SetTable}
theorem jb{h h':Heap}{k:List K}{b:Addr}(x:IsTupleKey knd h k b)(ho:h.get? a=some o)(hd:o.data= .set es ep t)(hs:Heap.SameBut a h h'):IsTupleKey knd h' k b:=by
 obtain⟨o1,its,n,p1,p2,p3,p4⟩:=x;refine⟨o1,its,n,(hs.2 b λz=>?_).trans p1,p2,p3,p4⟩;subst z;have:=qAb (p1.symm.trans ho);subst this;rw[hd]at p3;exact nomatch p3
theorem jM{h:Heap}(ho:h.get? a=some o)(hd:o.data= .set es ep t)(es':Array (Int×Value))(t':SetTable):(h.update a (Obj.putSet es' t')).get? a=some {o with data:=.set es' (ep+1) t'}:=by
 have:=qA9 (Obj.putSet es' t') ho (by rw[putSet_of es' t' hd];rfl)
 rwa [putSet_of es' t' hd]at this
theorem rg{h:Heap}(ho:h.get? a=some o)(ex:o.ExactSet)(hd:o.data= .set es ep t){es':Array (Int×Value)}{t':SetTable}{ys:List (List K×Addr)}(e1:es'.toList=ys.map (en knd))(e2:TOk t' (ys.map λp=>tupleKeyHash knd p.1))(e3:ys.length*5<t'.mask*3)(e4:(ys.map (·.1)).Nodup)(e5:∀p∈ys,IsTupleKey knd h p.1 p.2)(e6:t'.led= !byt w) :
  SetX knd (h.update a (Obj.putSet es' t')) a ys {o with data:=.set es' (ep+1) t'} es' (ep+1) t' :=
 ⟨jM ho hd es' t',ex,rfl,e1,e2,e3,e4,λp hp=>jb (e5 p hp) ho hd (qAr h a _),e6⟩
theorem lP(b:Addr)(es:Array (Int×Value)):byScan (.ref b) es=false:=by
 unfold byScan;rfl
theorem li{m n:Nat}(hm:Msk m)(h0:n*5<m*3)(h1:m*3<=(n+1)*5)(hc:n+1<=306):Msk (sizeAbove (grown (n+1))-1)/\n+1<=sizeAbove (grown (n+1))-1/\(n+1)*5<(sizeAbove (grown (n+1))-1)*3/\sizeAbove (grown (n+1))<=512:=by
 rcases hm with rfl|rfl|rfl|rfl
 .obtain rfl:n=4:=by lia
  refine⟨by unfold Msk;decide +kernel,by decide +kernel,by decide +kernel,by decide +kernel⟩
 .obtain rfl:n=18:=by lia
  refine⟨by unfold Msk;decide +kernel,by decide +kernel,by decide +kernel,by decide +kernel⟩
 .obtain rfl:n=76:=by lia
  refine⟨by unfold Msk;decide +kernel,by decide +kernel,by decide +kernel,by decide +kernel⟩
 .lia
theorem lh(ys:List (List K×Addr))(order:List Nat)(hp:order.Perm (List.range ys.length)):(order.filterMap (ys[·]?)).map (λp=>tupleKeyHash knd p.1)=order.map (λk=>(ys.map λp=>tupleKeyHash knd p.1).getD k 0):=by
 have hall:∀k∈order,k<ys.length:=λk hk=>qBH.mp (hp.mem_iff.mp hk);clear hp
 induction order with
 |nil=>rfl
 |cons k ks ih=>
  have hk:=hall k qAf;have e:ys[k]?=some ys[k]:=by simp[hk]
  rw[qBo,e];show tupleKeyHash knd ys[k].1::_=_::_;rw[ih (λq hq=>hall q (qAX _ hq))];congr 1;show _=(List.map (λp=>tupleKeyHash knd p.fst) ys).getD k 0;rw[qBg,qAY,e];rfl
theorem cT(ys:List α):(List.range ys.length).filterMap (ys[·]?)=ys:=by
 induction ys with
 |nil=>rfl
 |cons y ys ih=>
  rw[qAa,List.range_succ_eq_map,qBo];show y::_=_;rw[List.filterMap_map];congr 1
theorem lK(ys:List α){order:List Nat}(hp:order.Perm (List.range ys.length)):(order.filterMap (ys[·]?)).Perm ys:=by
 have:=hp.filterMap (ys[·]?)
 rwa [cT]at this
theorem pR{s:Shared}{m n:Nat}(ho:s.heap.get? a=some o)(ex:o.ExactSet)(hd:o.data= .set es ep t)(e1:es.toList=xs.map (en knd))(e2:TOk t (xs.map λp=>tupleKeyHash knd p.1))(hn:xs.length=n+1)(h0:n*5<t.mask*3)(h1:t.mask*3<=(n+1)*5)(hc:n+1<=306)
  (e4:(xs.map (·.1)).Nodup) (e5:∀p∈xs,IsTupleKey knd s.heap p.1 p.2) (e6:t.led= !byt w) {Q:Unit->Shared->Prop} (h:∀h' ys o' es' ep' t',Heap.SameBut a s.heap h'->ys.Perm xs->SetX knd h' a ys o' es' ep' t'->Q () {s with heap:=h'}) :
  wpAny (model prog w) A (setRelay a (grown (n+1))) Q E s:=by
 obtain⟨g1,g2,g3,g4⟩:=li e2.m h0 h1 hc;have ez:es.size=xs.length:=by have:=qAl List.length e1;simpa using this
 have hfit:t.fits es.size=true:=by
  unfold SetTable.fits;have z1:t.place.size=es.size:=by rw[e2.n,ez];simp
  have z2:t.fill<=t.mask:=by unfold fill;rw[e2.d];exact e2.f
  rw[z1];simp[z2]
 unfold setRelay;refine qAA (wpAny_setState_of ho hd hfit ?_);dsimp only;have hsl:sizeAbove (grown (n+1))<=sizeLine:=qAW g4 (by decide +kernel);rw[qAB (qCN.mpr hsl)];obtain⟨t',order,l1,l2,l3,l4,l5,l6⟩:=qC g1 (xs.map λp=>tupleKeyHash knd p.1) (by rw[qAD];lia) t.finger (t.movedTo (sizeAbove (grown (n+1))-1)) t.led t.plain
 have lr:t.relaid (es.map (·.1)) (grown (n+1))=some (t',order):=by
  unfold relaid
  have:es.map (·.1)=(xs.map λp=>tupleKeyHash knd p.1).toArray:=by
   apply Array.ext';rw[Array.toList_map,e1,qBO];rfl
  rw[this];exact l1
 rw[lr];rw[qAD]at l5;have lp:=lK xs l5
 have el':(order.filterMap (es[·]?)).toList=(order.toList.filterMap (xs[·]?)).map (en knd):=by
  rw[Array.toList_filterMap,List.map_filterMap];congr 1;funext k;rw[<-qAo,e1,qAY]
 have ez':(order.filterMap (es[·]?)).size=es.size:=by
  rw[<-qB2,el',qAD,lp.length_eq,ez]
 refine qAA ?_;show wpAny _ _ (if((order.filterMap (es[·]?)).size != es.size)=true then _ else _) _ _ _;rw[qAB (by rw[ez'];simp)];refine qAE ?_;dsimp only;refine wpAny_storeSet_of ho hd ?_ (by rw[ez',ez,hn];exact qAW hc (by decide +kernel));refine h _ _ _ _ _ _ (qAr _ a _) lp (rg ho ex hd el' ?_ ?_ ?_ (λp hp=>e5 p (lp.mem_iff.mp hp)) (l3.trans e6))
 .rw [lh xs order.toList l5];exact l6
 .rw [lp.length_eq,hn,l2];exact g3
 .exact (lp.map (·.1)).nodup_iff.mpr e4
theorem ins_perm(L:List α)(p:Nat)(x:α):(L.take p++x::L.drop p).Perm (x::L):=by
 have h1:(L.take p++x::L.drop p).Perm (x::(L.take p++L.drop p)):=List.perm_middle
 rwa [qBb]at h1
theorem kC{t:SetTable}(T:TOk t hs)(c:Bool):TOk (if c=true then t else {t with plain:=false}) hs/\(if c=true then t else {t with plain:=false}).mask=t.mask/\(if c=true then t else {t with plain:=false}).tooFull=t.tooFull/\(if c=true then t else {t with plain:=false}).led=t.led:=by
 cases c
 .exact ⟨⟨T.m,T.d,T.r,T.l,T.n,T.f,T.reach⟩,rfl,rfl,rfl⟩
 .exact ⟨T,rfl,rfl,rfl⟩
theorem ub(hu:A.units<cLine)(X:SetX knd s.heap a xs o es ep t){k:List K}{b:Addr}(hk:IsTupleKey knd s.heap k b)(hc:xs.length+1<=306){Q:Bool->Shared->Prop}(h1:k∈xs.map (·.1)->Q false s)
  (h2:k∉xs.map (·.1)->∀h' ys o' es' ep' t',Heap.SameBut a s.heap h'->ys.Perm ((k,b)::xs)->SetX knd h' a ys o' es' ep' t'->Q true {s with heap:=h'}) :
  wpAny (model prog w) A (setAddHashed a (.ref b) (tupleKeyHash knd k)) Q E s:=by
 unfold setAddHashed setAddHashedIn;refine qAy (qAA (X.state ?_));dsimp only;rw[lP,qAB (by decide)]
 have hpl:t.place.toList.length=xs.length:=by
  have:=X.ok.n;rw[qAD]at this;simpa using this
 have hroom:=X.room;obtain⟨N,hNf,hN,hb⟩:=zI1 X.ok.m (tupleKeyHash knd k) (L:=t.place.toList) (by rw[hpl];lia)
 have hT:10*turns t.mask<100000:=by
  rcases X.ok.m with z|z|z|z<;>rw[z]<;>decide +kernel
 unfold setSearch;refine qAA (nv hu X hk hN hb hNf ?_ ?_ N 0 100000 none (by lia) (by lia) rfl (λm hm=>absurd hm (Nat.not_lt_zero m)))
 .intro z;exact qAE (h1 z)
 .intro z;dsimp only;refine qAA (X.state ?_);dsimp only
  have hf1:t.place.size+1<=t.mask:=by
   have:t.place.size=xs.length:=by simpa using hpl
   rcases X.ok.m with z|z|z|z<;>lia
  have T1:=sP X.ok (tupleKeyHash knd k) hN hb hf1;have em:(t.put (pr t.mask (tupleKeyHash knd k) N).j).1.mask=t.mask:=rfl;have ed:(t.put (pr t.mask (tupleKeyHash knd k) N).j).1.led=t.led:=rfl;have B:=(zE7 X.ok.r (pr t.mask (tupleKeyHash knd k) N).j).le;have ep2:(t.put (pr t.mask (tupleKeyHash knd k) N).j).2=below t.place (pr t.mask (tupleKeyHash knd k) N).j:=rfl
  have fin:∀c:Bool,wpAny (model prog w) A (do
    storeSet a (SetTable.insertAt es (t.put (pr t.mask (tupleKeyHash knd k) N).j).2 (tupleKeyHash knd k,.ref b)) (if c=true then(t.put (pr t.mask (tupleKeyHash knd k) N).j).1 else {(t.put (pr t.mask (tupleKeyHash knd k) N).j).1 with plain:=false})
    if(!false&&(if c=true then(t.put (pr t.mask (tupleKeyHash knd k) N).j).1 else {(t.put (pr t.mask (tupleKeyHash knd k) N).j).1 with plain:=false}).tooFull)=true then do
     setRelay a (SetTable.grown (es.size+1))
     pure true
    else pure true) Q E s:=by
   intro c;generalize hp:(t.put (pr t.mask (tupleKeyHash knd k) N).j).2=p at *
   generalize ht:(t.put (pr t.mask (tupleKeyHash knd k) N).j).1=t1 at *
   have hple:p<=es.size:=by
    rw[X.size,ep2];have:t.place.size=xs.length:=by simpa using hpl
    lia
   obtain⟨T2,m2,f2,d2⟩:=kC T1 c;generalize ht2:(if c=true then t1 else {t1 with plain:=false})=t2 at *
   have el:(SetTable.insertAt es p (tupleKeyHash knd k,Value.ref b)).toList=(xs.take p++(k,b)::xs.drop p).map (en knd):=by
    rw[zJt es p _ hple,X.el,qAP,qAt,qBk,qBl];rfl
   have ip:=ins_perm xs p (k,b)
   have eT:(xs.map λp=>tupleKeyHash knd p.1).take p++tupleKeyHash knd k::(xs.map λp=>tupleKeyHash knd p.1).drop p=(xs.take p++(k,b)::xs.drop p).map λp=>tupleKeyHash knd p.1:=by
    rw[qAP,qAt,qBk,qBl]
   rw[eT]at T2;have len:(xs.take p++(k,b)::xs.drop p).length=xs.length+1:=by rw[ip.length_eq];rfl
   have nd:((xs.take p++(k,b)::xs.drop p).map (·.1)).Nodup:=by
    refine(ip.map (·.1)).nodup_iff.mpr ?_;exact qBI.mpr ⟨z,X.nd⟩
   have ky:∀q∈xs.take p++(k,b)::xs.drop p,IsTupleKey knd s.heap q.1 q.2:=λq hq=>by
    rcases qAT.mp (ip.mem_iff.mp hq)with y|y
    .subst y;exact hk
    .exact X.ky q y
   have sz:(SetTable.insertAt es p (tupleKeyHash knd k,Value.ref b)).size=xs.length+1:=by
    have:=qAl List.length el;rw[qAD,len]at this;simpa using this
   refine qAA (wpAny_storeSet_of X.ho X.hd ?_ (by rw[sz];exact qAW hc (by decide +kernel)))
   have fl:t2.tooFull=decide (t.mask*3<=(xs.length+1)*5):=by
    unfold tooFull fill;rw[T2.d,T2.n,qAD,len,m2,em];rfl
   by_cases cf:t.mask*3<=(xs.length+1)*5
   .rw [qAC (by rw[fl];simp[cf])];rw[X.size];refine qAA ?_;refine pR (m:=0) (o:={o with data:=.set (insertAt es p (tupleKeyHash knd k,Value.ref b)) (ep+1) t2}) (jM X.ho X.hd _ _) X.ex rfl el T2 len ?_ ?_ hc nd ?_ (d2.trans (ed.trans X.ld)) ?_
    .rw [m2,em];exact hroom
    .rw [m2,em];exact cf
    .intro q hq;exact jb (ky q hq) X.ho X.hd (qAr _ a _)
    .intro h' ys o' es' ep' t' q1 q2 q3;exact qAE (h2 z h' ys o' es' ep' t' ((qAr _ a _).trans q1) (q2.trans ip) q3)
   .rw [qAB (by rw[fl];simp[cf])];refine qAE (h2 z _ _ _ _ _ _ (qAr _ a _) ip (rg X.ho X.ex X.hd el T2 ?_ nd ky (d2.trans (ed.trans X.ld))));rw[len,m2,em];lia
  by_cases cp:(t.put (pr t.mask (tupleKeyHash knd k) N).j).1.plain=true
  .rw [qAC cp];exact qAA (uq hk fin)
  .rw [qAB cp];exact qAA (qAE (fin true))
end
end ST
namespace ST
open PySem PySem.SetTable PyProof.Rows
variable{h:Heap}{α:Type}
section
variable{prog:Program}{w:World}{K:Type}[DecidableEq K]{knd:KeyKind prog w K}{A:Around}{E:Value->Shared->Prop}{s:Shared}
variable{a:Addr}{xs:List (List K×Addr)}{o:Obj}{es:Array (Int×Value)}{ep:Nat}{t:SetTable}
theorem key_kept{h':Heap}{k:List K}{b:Addr}(x:IsTupleKey knd h k b)(e:∀o,h.get? b=some o->h'.get? b=some o):IsTupleKey knd h' k b :=
 let⟨o,its,n,p1,r⟩:=x;⟨o,its,n,e o p1,r⟩
theorem SetX.kept{h h':Heap}(X:SetX knd h a xs o es ep t)(e:∀b o,(b=a\/∃p∈xs,p.2=b)->h.get? b=some o->h'.get? b=some o):SetX knd h' a xs o es ep t :=
 ⟨e a o (.inl rfl) X.ho,X.ex,X.hd,X.el,X.ok,X.room,X.nd,λp hp=>key_kept (X.ky p hp) λo q=>e _ o (.inr ⟨p,hp,rfl⟩) q,X.ld⟩
def Got(knd:KeyKind prog w K)(h:Heap)(a:Addr)(ks:List (List K×Addr)):Prop :=
 ∃xs o es ep t,SetX knd h a xs o es ep t/\(∀p∈xs,p∈ks)/\(∀p∈ks,p.1∈xs.map (·.1))/\xs.length<=ks.length
theorem Got.kept{h h':Heap}{ks:List (List K×Addr)}(g:Got knd h a ks)(e:∀b o,(b=a\/∃p∈ks,p.2=b)->h.get? b=some o->h'.get? b=some o):Got knd h' a ks:=by
 obtain⟨xs,o,es,ep,t,X,g1,g2,g3⟩:=g;exact⟨xs,o,es,ep,t,X.kept λb o hb=>e b o (hb.imp id λ⟨p,hp,q⟩=>⟨p,g1 p hp,q⟩),g1,g2,g3⟩
theorem Got.fresh{a:Addr}(ho:h.get? a=some {cls:=.type "set",dict:=none,data:=.set #[] 0 (.fresh 0 0 (!byt w))}):Got knd h a [] :=
 ⟨[],_,_,_,_,⟨ho,⟨rfl,rfl,rfl⟩,rfl,rfl,m_ 0 0 _,(show 0*5<7*3 by decide),qBC,(λp hp=>nomatch hp),rfl⟩,(λp hp=>nomatch hp),(λp hp=>nomatch hp),qAG _⟩
theorem sN{ks:List (List K×Addr)}{k:List K}{b:Addr}(hu:A.units<cLine)(g:Got knd s.heap a ks)(hk:IsTupleKey knd s.heap k b)(hc:ks.length+1<=306){Q:Bool->Shared->Prop}
  (h:∀c h',Heap.SameBut a s.heap h'->Got knd h' a (ks++[(k,b)])->Q c {s with heap:=h',toks:=s.toks+(k.length+1)}):wpAny (model prog w) A (setAdd a (.ref b)) Q E s:=by
 obtain⟨xs,o,es,ep,t,X,g1,g2,g3⟩:=g;unfold setAdd;refine qAy (qAA (wpAny_pyHash_tuple hu hk ?_));refine ub (s:={s with toks:=s.toks+(k.length+1)}) hu X hk (by lia) (λz=>?_) λz h' ys o' es' ep' t' q1 q2 q3=>?_
 .refine h false s.heap (Heap.SameBut.refl a s.heap) ⟨xs,o,es,ep,t,X,λp hp=>qAp _ (g1 p hp),λp hp=>?_,by rw[qAN];exact Nat.le_succ_of_le g3⟩;rcases qAR.mp hp with y|y
  .exact g2 p y
  .rw [qAO.mp y];exact z
 .refine h true h' q1 ⟨ys,o',es',ep',t',q3,λp hp=>?_,λp hp=>?_,?_⟩
  .rcases qAT.mp (q2.mem_iff.mp hp)with y|y
   .rw [y];exact qAs _ (qAO.mpr rfl)
   .exact qAp _ (g1 p y)
  .have m:=(q2.map (·.1)).mem_iff (a:=p.1);refine m.mpr ?_;rcases qAR.mp hp with y|y
   .exact qAX _ (g2 p y)
   .rw [qAO.mp y];exact qAf
  .rw [q2.length_eq,qAN];exact Nat.succ_le_succ g3
end
section
variable{prog:Program}{w:World}{K:Type}[DecidableEq K]{knd:KeyKind prog w K}{A:Around}{R:Result->Shared->Prop}{I:Addr}{fp wr:List Addr}{G:Array GenState->Array GenState->Prop}{P:Nat->Value->Prop}{St:Nat->Shared->Prop}
theorem tm{ks:List (List K×Addr)}(hu:A.in1.units<cLine)(W:WalksS prog w A.in1 I fp wr G ks.length P St)(a:Addr)(haf:a∉fp)(hP:∀i v,P i v->∃p,ks[i]?=some p/\v= .ref p.2)(hka:∀p∈ks,p.2≠a/\p.2∉wr)(hc:ks.length<=306) :
  ∀(k i:Nat)(s:Shared),ks.length=i+k->St i s->Got knd s.heap a (ks.take i)->(∀p∈ks,IsTupleKey knd s.heap p.1 p.2) ->
   (∀s',Moved (a::wr) G s s'->Got knd s'.heap a ks->R (.ok (.ret .none)) s')->codeAny (model prog w) A (.builtin "set.update.loop" ⟨[.ref a,.ref I],[]⟩) R s:=by
 have haw:a∉wr:=λz=>haf (W.sub a z);intro k
 induction k with
 |zero=>
  intro i s e st g ky hR;have e:i=ks.length:=by lia
  subst e;rw[qAg]at g;refine qBv PyProof.Rows.F.entry_set_update_loop ?_;rw[qCb qDI _];change wpAny _ A.in1 (pyNext (Value.ref I) >>= _) _ _ s;refine qAA (W.done s _ _ st λs1 mv=>?_);refine qAE (hR s1 (mv.mono λb hb=>qAX a hb) (g.kept λb o hb q=>mv.heap b o ?_ q));rcases hb with rfl|⟨p,hp,rfl⟩
  .exact haw
  .exact (hka p hp).2
 |succ k ih=>
  intro i s e st g ky hR;have hi:i<ks.length:=by lia
  refine qBv PyProof.Rows.F.entry_set_update_loop ?_;rw[qCb qDI _];change wpAny _ A.in1 (pyNext (Value.ref I) >>= _) _ _ s;refine qAA (W.item i s _ _ hi st λv s1 pv st1 mv=>?_);obtain⟨p,ep,rfl⟩:=hP i v pv;have pm:p∈ks:=qAJ ep
  have up:∀b o,(b=a\/∃q∈ks,q.2=b)->s.heap.get? b=some o->s1.heap.get? b=some o:=λb o hb q=>mv.heap b o (by
   rcases hb with rfl|⟨p,hp,rfl⟩
   .exact haw
   .exact (hka p hp).2) q
  have g1:=g.kept (h':=s1.heap) λb o hb=>up b o (hb.imp id λ⟨q,hq,z⟩=>⟨q,qBj hq,z⟩);have ky1:∀q∈ks,IsTupleKey knd s1.heap q.1 q.2:=λq hq=>key_kept (ky q hq) λo=>up _ o (.inr ⟨q,hq,rfl⟩);change wpAny _ A.in1 (holding [Value.ref p.2] (setAdd a (.ref p.2)) >>= _) _ _ s1;refine qAA (qAy (sN (knd:=knd) hu g1 (ky1 p pm) (by rw[qAU];lia) λc h' sb g2=>?_))
  have et:ks.take i++[(p.1,p.2)]=ks.take (i+1):=by
   rw[qC1,ep];rfl
  rw[et]at g2
  have st2:=W.frame (i+1) s1 h' (s1.toks+(p.1.length+1)) st1 (qCy _ _) λb hb o q=>by
   rw[sb.2 b λz=>haf (z▸hb)];exact q
  refine qAE ⟨qC2 qDI _,ih (i+1) _ (by lia) st2 g2 (λq hq=>key_kept (ky1 q hq) λo z=>(sb.2 _ (hka q hq).1).trans z) λs2 mv2 g3=>hR s2 ?_ g3⟩;refine Moved.trans W.gtrans ((mv.mono λb hb=>qAX a hb).then_heap (qCy _ _) λb o hb z=>?_) mv2;exact(sb.2 b λy=>hb (y▸qAf)).trans z
end
section
variable{prog:Program}{w:World}{K:Type}[DecidableEq K]{knd:KeyKind prog w K}{A:Around}{E:Value->Shared->Prop}{s:Shared}
def cE(w:World):Obj:={cls:=.type "set",dict:=none,data:=.set #[] 0 (.fresh 0 0 (!byt w))}
theorem u0(v:Value){Q:Value->Shared->Prop}(h:Q (.ref s.heap.objs.size) {s with heap:=s.heap.push (cE w)}):codeAny (model prog w) A (.call (.builtin "set.__new__") ⟨[.type "set",v],[]⟩) (wants Q E) s:=by
 refine codeAny_of_tree ?_;change wpAny _ A.in1 (checkBuiltinCall "set.__new__" ⟨[.type "set",v],[]⟩ >>= λ_=>again (.builtin "set.__new__" ⟨[.type "set",v],[]⟩)) _ _ s;refine qAA (qCM (F.newCall_set_1 v) (qAE ⟨qC2 F.plain_set_new _,qBv F.entry_set_new ?_⟩));rw[qCb F.plain_set_new _];unfold Builtin.«set.__new__» Builtin.Frozenset.newClass;have q:=sub_set_self;obtain⟨hp,g,d,tk,os⟩:=s;dsimp only
 wp_walk
 refine qBc (qAE ?_);dsimp only;simp only[newObj];refine qAA (wpAny_alloc (qAE (qAE ?_)));exact h
theorem qH{l:Addr}{its:Array Value}{Z:Heap->Prop}{Q:Value->Shared->Prop}(hh:A.handled=none)(hl:s.heap.IsList l its)
  (fill:∀(A1:Around) (R:Result->Shared->Prop) (s3:Shared) (fp:List Addr) (G:Array GenState->Array GenState->Prop) (St:Nat->Shared->Prop),A1.in1.units<=A.units+3->WalksS prog w A1.in1 (s.heap.objs.size+1) fp [s.heap.objs.size+1] G its.size (fun i v=>its[i]?=some v) St->s.heap.objs.size∉fp ->
   s3.heap.get? s.heap.objs.size=some (cE w)->(∀b o,s.heap.get? b=some o->s3.heap.get? b=some o)->St 0 s3->(∀s',Moved [s.heap.objs.size,s.heap.objs.size+1] G s3 s'->Z s'.heap->R (.ok (.ret .none)) s') ->
   codeAny (model prog w) A1 (.builtin "set.update.loop" ⟨[.ref s.heap.objs.size,.ref (s.heap.objs.size+1)],[]⟩) R s3)
  (h:∀(h':Heap)(tk:Nat),s.toks<=tk->Z h'->(∀b o,s.heap.get? b=some o->h'.get? b=some o)->Q (.ref s.heap.objs.size) {s with heap:=h',toks:=tk}) :
  wpAny (model prog w) A (call (.type "set") [.ref l]) Q E s:=by
 obtain⟨c,tl,hmro⟩:=qBw.mro;have k1:=qBw.made;have k2:=qBw.sub;refine qCF (codeAny_of_tree ?_);change wpAny _ _ (callAny (.type "set") _) _ _ _;refine qAE ⟨Code.quiet_builtin _ (by decide +kernel),qBv F.entry_type_call ?_⟩;rw[Around.under_plain (weight_type_call_type "set" [.ref l] []) rfl];have k3:=qBw.notType;have k4:=qBw.canCreate;have k5:=F.typeCall_set_1 (.ref l)
 repeat (any_goals (first|assumption|wp_step))
 have hne:∀b o,s.heap.get? b=some o->b≠s.heap.objs.size:=λb o q=>qAQ (qAI q);refine qBf (u0 (w:=w) (.ref l) (E:=E) (Q:=λob s1=>ob= .ref s.heap.objs.size/\s1={s with heap:=s.heap.push (cE w)}) ⟨rfl,rfl⟩) λr s1 hr=>?_
 cases r with
 |error e=>exact hr
 |ok fl=>
  cases fl with
  |ret ob=>
   obtain⟨rfl,rfl⟩:=hr;have hS:(s.heap.push (cE w)).get? s.heap.objs.size=some (cE w):=qAk _ rfl;have hT:Shared.TypeIs {s with heap:=s.heap.push (cE w)} (.ref s.heap.objs.size) "set":= ⟨_,hS,rfl⟩;have k6:=qBw.init.lookup;have k7:=qBw.init.bind (.ref s.heap.objs.size)
   repeat (any_goals (first|assumption|wp_step))
   refine qBf (qDJ (R:=wants (λr s2=>r= .none/\∃h' tk,s2={s with heap:=h',toks:=tk}/\s.toks<=tk/\Z h'/\(∀b o,s.heap.get? b=some o->h'.get? b=some o)) E) qBw.init.plain F.entry_set_init (check_set_init_1 hT ?_)) λr2 s2 hr2=>?_
   .obtain ⟨ol,hol,hcl,nl,hdl⟩:=hl;obtain⟨o1,o2,o3,o4⟩:=ol;simp only at hcl hdl;subst hcl hdl;have hol1:(s.heap.push (cE w)).get? l=some {cls:=.type "list",dict:=o2,data:=.seq its nl,slots:=o4}:=qAM _ hol;have k8:=F.sub_list_set;have k9:=F.sub_list_frozenset;have k10:(Value.type "list"== Value.type "dict")=false:=by decide
    have hl1:(s.heap.push (cE w)).IsList l its:=⟨_,hol1,rfl,nl,rfl⟩;unfold Builtin.«set.__init__» noKeywords Builtin.Frozenset.updateFrom;generalize hPI:pyIter=PI
    wp_walk
    subst hPI;refine wpAny_pyIter_list hl1 ?_;refine qAA (wpAny_runValue ?_);have esz:(s.heap.push (cE w)).objs.size=s.heap.objs.size+1:=qBR _ _;have hls:l<s.heap.objs.size:=qAI hol;have W:=(Walks.list (prog:=prog) (w:=w) (A:=A.in1.in1.in1) (by simpa using hh) (s.heap.push (cE w)).objs.size l (by rw[esz];exact qAQ (qBs hls)) its).toS;rw[esz]at W;rw[esz];refine fill A.in1.in1 _ _ _ _ _ (by show A.units+1+1+1<=A.units+3;lia) W ?_ (qAM _ hS) (λb o q=>qAM _ (qAM _ q)) ⟨⟨_,by rw[<-esz];exact qAk _ rfl,rfl,rfl⟩,hl1.push _⟩ ?_
    .simp only[qAT,qCa,or_false,not_or];exact⟨qAQ (qCV _),qA4 hls⟩
    .intro s1 mv g;obtain⟨h1,g1,d1,tk1,os1⟩:=s1;have e1:g1=s.gens:=mv.gens;have e2:d1=s.drawn:=mv.drawn;have e3:os1=s.os:=mv.os;subst e1 e2 e3;show wpAny _ _ _ _ _ _;refine qAE (qAE ⟨rfl,h1,tk1,rfl,mv.toks,g,λb o q=>?_⟩);have:=qAI q
     exact mv.heap b o (by
      simp only[qAT,qCa,or_false,not_or];exact⟨qAQ this,qAQ (qBs this)⟩) (qAM _ (qAM _ q))
   .cases r2 with
    |error e=>exact hr2
    |ok f2=>
     cases f2 with
     |ret r=>
      obtain⟨rfl,h',tk,rfl,q1,q2,q3⟩:=hr2
      repeat (any_goals (first|assumption|wp_step))
      exact h _ _ q1 q2 q3
     |_=>exact hr2.elim
  |_=>exact hr.elim
theorem w_mkset{l:Addr}{its:Array Value}{ks:List (List K×Addr)}{Q:Value->Shared->Prop}(hh:A.handled=none)(hu:A.units+8<cLine)(hl:s.heap.IsList l its)(ei:its.toList=ks.map λp=>.ref p.2)(ky:∀p∈ks,IsTupleKey knd s.heap p.1 p.2)(hc:ks.length<=306)
  (h:∀(h':Heap)(tk:Nat),s.toks<=tk->Got knd h' s.heap.objs.size ks->(∀b o,s.heap.get? b=some o->h'.get? b=some o)->Q (.ref s.heap.objs.size) {s with heap:=h',toks:=tk}) :
  wpAny (model prog w) A (call (.type "set") [.ref l]) Q E s:=by
 refine qH hh hl (λA1 R s3 fp G St hv W hf hS kp st hR=>?_) h
 have ez:its.size=ks.length:=by
  have:=qAl List.length ei;simpa using this
 rw[ez]at W;refine tm (knd:=knd) (by lia) W s.heap.objs.size hf (λi v hv=>?_) (λp hp=>?_) hc ks.length 0 _ (by lia) st (Got.fresh hS) (λp hp=>key_kept (ky p hp) λo q=>kp _ o q) hR
 .have:its.toList[i]?=some v:=by rw[qAo];exact hv
  rw[ei,qAY]at this
  cases hk:ks[i]? with
  |none=>rw[hk]at this;exact nomatch this
  |some p=>rw[hk]at this;exact⟨p,rfl,(qAb this).symm⟩
 .obtain ⟨o,_,_,ho,_⟩:=ky p hp;have:=qAI ho;simp only[qAT,qCa,or_false];exact⟨qAQ this,qAQ (qBs this)⟩
end
theorem zFc:Slot "set_iterator" "__next__" "set_iterator.__next__":=
 .of (owner:="set_iterator") (n:="__next__") (by rw[typeLookup_type,qDK];kernel_rfl) (by decide +kernel) (by decide +kernel) (by decide +kernel) (by first|exact .inl (by decide +kernel)|exact .inr (by decide +kernel)) (by rw[isSubtype_type];kernel_rfl)
theorem jD:Slot "set_iterator" "__iter__" "set_iterator.__iter__":=
 .of (owner:="set_iterator") (n:="__iter__") (by rw[typeLookup_type,qDK];kernel_rfl) (by decide +kernel) (by decide +kernel) (by decide +kernel) (by first|exact .inl (by decide +kernel)|exact .inr (by decide +kernel)) (by rw[isSubtype_type];kernel_rfl)
theorem jN:entryFor table "set_iterator.__next__"=some Builtin.«set_iterator.__next__»:=entryFor_of_fast (by kernel_rfl)
theorem oQ:entryFor table "set_iterator.__iter__"=some Builtin.«dict_keyiterator.__iter__»:=entryFor_alias (id':="dict_keyiterator.__iter__") (by kernel_rfl) rfl (by decide +kernel) (by kernel_rfl)
theorem qG:entryFor table "set.__iter__"=some Builtin.«frozenset.__iter__»:=entryFor_alias (id':="frozenset.__iter__") (by kernel_rfl) rfl (by decide +kernel) (by kernel_rfl)
theorem i8(a:Value):argsOk "set_iterator.__next__" ⟨[a],[]⟩:=by unfold argsOk;kernel_rfl
theorem pZ(a:Value):argsOk "set_iterator.__iter__" ⟨[a],[]⟩:=by unfold argsOk;kernel_rfl
theorem zDm{M:Model}{A:Around}{E:Value->Shared->Prop}{s:Shared}{c:Prop}[Decidable c]{x y:Sem α}{Q:α->Shared->Prop}(hc:¬c)(h:wpAny M A y Q E s):wpAny M A (if c then x else y) Q E s:=by rw[qAB hc];exact h
theorem zFl{M:Model}{A:Around}{E:Value->Shared->Prop}{s:Shared}{c:Prop}[Decidable c]{x y:Sem α}{Q:α->Shared->Prop}(hc:c)(h:wpAny M A x Q E s):wpAny M A (if c then x else y) Q E s:=by rw[qAC hc];exact h
theorem zGn :∀{L:List α}{i:Nat}{x:α},L[i]?=some x->(x::L.eraseIdx i).Perm L
 |[],i,x,h=>by simp at h
 |y::r,0,x,h=>by
  have:y=x:=qAb h;subst this;exact List.Perm.refl _
 |y::r,i+1,x,h=>by
  rw[qCZ]at h;exact(List.Perm.swap y x _).trans (List.Perm.cons y (zGn h))
theorem jo(next:Nat->Nat):∀(fuel k:Nat)(left:List α)(out:Array α),left.length<=fuel->(pickOrder.go next fuel k left out).toList.Perm (out.toList++left)
 |0,k,left,out,h=>by
  have:left=[]:=qBx.mp (Nat.le_zero.mp h);subst this;unfold pickOrder.go;rw[qAm]
 |fuel+1,k,left,out,h=>by
  unfold pickOrder.go
  cases e:left[next k % left.length]? with
  |none=>
   have:left=[]:=by
    cases left with
    |nil=>rfl
    |cons x r=>
     have:=qDL.mp e;have h2:=Nat.mod_lt (next k) (show 0<(x::r).length from Nat.succ_pos _);exact absurd h2 (qCN.mpr this)
   subst this;dsimp only;rw[qAm]
  |some x=>
   dsimp only;have p:=zGn e;have hl:=p.length_eq;rw[qAa]at hl;refine(jo next fuel (k+1) _ _ (by lia)).trans ?_;rw[qCK,qBK];exact List.Perm.append_left _ p
theorem kS(next:Nat->Nat)(xs:Array α):(pickOrder next xs).toList.Perm xs.toList:=by
 have:=jo next xs.size 0 xs.toList #[] (by simp);show(pickOrder.go next xs.size 0 xs.toList #[]).toList.Perm _;simpa using this
section
variable{prog:Program}{w:World}{K:Type}[DecidableEq K]{knd:KeyKind prog w K}{A:Around}{E:Value->Shared->Prop}
theorem oj{s:Shared}{src:Source}{n:Nat}(hn:n≠0){Q:Nat->Shared->Prop}(h:∀i d,i<n->Q i {s with drawn:=d}):wpAny (model prog w) A (choose src n) Q E s:=λ_ _ _=>⟨hn,h _ _ (Nat.mod_lt _ (Nat.pos_of_ne_zero hn))⟩
theorem nU :∀(n:Nat)(L:List α)(s:Shared)(Q:List α->Shared->Prop),L.length=n->(∀M d,M.Perm L->Q M {s with drawn:=d})->wpAny (model prog w) A (drawOrder n L) Q E s
 |0,L,s,Q,hl,h=>by
  have:L=[]:=qBx.mp hl;subst this;unfold drawOrder;exact qAE (h [] s.drawn (List.Perm.refl _))
 |n+1,[],s,Q,hl,h=>nomatch hl
 |n+1,x::r,s,Q,hl,h=>by
  unfold drawOrder;refine qAA (oj (by rw[hl];exact Nat.succ_ne_zero n) λi d hi=>?_);obtain⟨y,ey⟩:∃y,(x::r)[i]?=some y:=⟨(x::r)[i],qAq hi⟩;rw[ey];dsimp only;have p:=zGn ey;have hl2:=p.length_eq;rw[qAa]at hl2;refine qAA (nU n _ _ _ (by lia) λM d' hM=>qAE ?_);exact h (y::M) d' ((List.Perm.cons y hM).trans p)
end
def dr(es:Array (Int×Value))(t:SetTable):Bool:=!t.plain&&decide (es.size>1)
def ItM(w:World)(h:Heap)(a:Addr)(es:Array (Int×Value))(ep:Nat)(t:SetTable)(ord:List Value)(i:Nat)(first:Value):Prop :=
 (byt w=true/\(∃j:Nat,first= .int j 0)/\ord=(pickOrder (w.params.setOrder a ep) es).toList.map (·.2)) \/
 (byt w=false/\∃(T:Addr)(oT:Obj)(c:Nat)(pl:List Nat),first= .ref T/\h.get? T=some oT/\oT.data= .seq (pl.map λ(p:Nat)=>Value.int p 0).toArray c/\pl.Perm (List.range es.size)/\ord=pl.filterMap λp=>(es[p]?).map (·.2)) \/
 (byt w=false/\dr es t=false/\∃slot:Nat,first= .int slot 0/\below t.place slot=i/\ord=es.toList.map (·.2))
structure ItS(w:World)(h:Heap)(I a:Addr)(es:Array (Int×Value))(ep:Nat)(t:SetTable)(ord:List Value)(i:Nat)(o:Obj)(first:Value):Prop where
 ho:h.get? I=some o
 hc:o.cls= .type "set_iterator"
 hd:o.data= .fields #[first,.int i 0,.ref a,.int es.size 0,.int ep 0]
 hm:ItM w h a es ep t ord i first
section
variable{prog:Program}{w:World}{K:Type}[DecidableEq K]{knd:KeyKind prog w K}{A:Around}{E:Value->Shared->Prop}{s:Shared}
variable{a I:Addr}{xs:List (List K×Addr)}{o oI:Obj}{es:Array (Int×Value)}{ep i:Nat}{t:SetTable}{ord:List Value}{first:Value}
theorem g6(hr:cB t.place.toList):below t.place 0=0:=by
 have B:=zE7 hr 0;rcases Nat.eq_zero_or_pos (below t.place 0)with z|z
 .exact z
 .have hs:0<t.place.size:=qAj z B.le;have e:t.place[0]?=some t.place[0]:=by simp[hs]
  exact absurd (B.lo 0 _ z e) (Nat.not_lt_zero _)
theorem g8(hr:cB t.place.toList){i j:Nat}(e:t.place[i]?=some j):below t.place (j+1)=i+1:=by
 have B:=zE7 hr (j+1);have hi:i<t.place.size:=(qBM.mp e).1;have h1:i<below t.place (j+1):=Nat.lt_of_not_le λz=>by have:=B.hi i j z e;lia
 rcases Nat.lt_or_ge (i+1) (below t.place (j+1))with z|z
 .have hs:i+1<t.place.size:=qAj z B.le;have e2:t.place[i+1]?=some t.place[i+1]:=by simp[hs]
  have q1:=B.lo (i+1) _ z e2;have q2:=zE3 hr (qCV i) e e2;lia
 .lia
theorem ItM.perm(m:ItM w h a es ep t ord i first):ord.Perm (es.toList.map (·.2)):=by
 rcases m with⟨_,_,rfl⟩|⟨_,T,oT,c,pl,_,_,_,hp,rfl⟩|⟨_,_,slot,_,_,rfl⟩
 .exact (kS _ es).map _
 .have:=hp.filterMap λp=>(es[p]?).map (·.2);refine this.trans (List.Perm.of_eq ?_);rw[<-List.map_filterMap];congr 1;have:=cT es.toList;rw[qB2]at this;simpa using this
 .exact List.Perm.refl _
theorem ItM.len(m:ItM w h a es ep t ord i first):ord.length=es.size:=by
 rw[m.perm.length_eq];simp
theorem ItS.typeIs(it:ItS w s.heap I a es ep t ord i oI first):s.TypeIs (.ref I) "set_iterator":= ⟨_,it.ho,it.hc⟩
theorem uc{pl:List Nat}(hp:pl.Perm (List.range es.size))(i:Nat):(pl.filterMap λp=>(es[p]?).map (·.2))[i]?=(pl[i]?).bind λp=>(es[p]?).map (·.2):=by
 have hall:∀k∈pl,k<es.size:=λk hk=>qBH.mp (hp.mem_iff.mp hk);clear hp
 induction pl generalizing i with
 |nil=>simp
 |cons k ks ih=>
  have hk:=hall k qAf;have e:es[k]?=some es[k]:=by simp[hk]
  have ih':=λi=>ih i λq hq=>hall q (qAX _ hq);rw[qBo,e]
  cases i with
  |zero=>simp[e]
  |succ i=>
   show(_::_)[i+1]?=_;rw[qCZ,ih' i,qCZ]
theorem sM(X:SetX knd s.heap a xs o es ep t)(it:ItS w s.heap I a es ep t ord i oI first)(hne:I≠a){v:Value}(hv:ord[i]?=some v){Q:Option Value->Shared->Prop}
  (h:∀h' o' f',Heap.SameBut I s.heap h'->ItS w h' I a es ep t ord (i+1) o' f'->(∀T,f'= .ref T->first= .ref T)->Q (some v) {s with heap:=h'}):wpAny (model prog w) A (pyNext (.ref I)) Q E s:=by
 unfold pyNext;refine qAA (qB9 (qCc (name:=Str.ofString "__next__") it.typeIs zFc (qBy zFc it.typeIs jN ?_ (i8 _))));unfold Builtin.«set_iterator.__next__»;refine qAA (m:=slotArgs "__next__" 0 _) (qAE ?_);refine qAA (wpAny_fieldsOf it.ho it.hd ?_);dsimp only;refine qAA (wpAny_setEntries_of X.ho X.hd X.fits ?_);refine zDm (by simp) ?_;rcases it.hm with⟨m1,⟨j,rfl⟩,m3⟩|⟨m1,T,oT,c,pl,rfl,m3,m4,m5,m6⟩|⟨m1,m2,slot,rfl,m4,m5⟩
 .dsimp only;refine qAA ?_;unfold setNext;refine qAA (X.state ?_);dsimp only;refine qAA (qAA (qBc (qAE ?_)));refine zFl m1 ?_;refine zDm (by simp) ?_;refine qAA ?_;unfold setWalk;refine qAA (X.state ?_);dsimp only;refine qAA (qAA (qBc (qAE ?_)));refine zFl m1 ?_;refine qAA (qBc (qAE (qAE ?_)))
  have e1:(pickOrder (w.params.setOrder a ep) es)[i]?.map (·.2)=some v:=by
   rw[m3,qAY]at hv;rw[<-qAo];exact hv
  obtain⟨q,q1,q2⟩:=qBU.mp e1;subst q2;have e2:(pickOrder ((model prog w).w.params.setOrder a ep) es)[(i:Int).toNat]?=some q:=q1
  erw [e2]
  show wpAny _ _ (setField (.ref I) 0 (rawInt _) >>= _) _ _ _;refine qAA (qA6 it.ho it.hd (by simp) ?_);have g1:=qA9 (Obj.mapFields (·.setIfInBounds 0 (rawInt (j:Int).toNat))) it.ho (qBd (qAu it.hd _));refine qAA (qA6 g1 (qAu it.hd _) (by simp) ?_);refine qAE ⟨_,rfl,qAE (h _ _ _ ((qAr ..).trans (qAr ..)) ⟨qA9 _ g1 (qBd (qAu (qAu it.hd _) _)),?_,?_,.inl ⟨m1,⟨j,rfl⟩,m3⟩⟩ (λT z=>nomatch z))⟩
  .rw [qCA,qCA];exact it.hc
  .rw [qAu (qAu it.hd _)];simp[rawInt]
 .dsimp only
  have hTI:T≠I:=λz=>by
   subst z;have:=qAb (m3.symm.trans it.ho);subst this;rw[it.hd]at m4;exact nomatch m4
  refine qAA (m:=seqItems? (.ref T)) (qCO m3 m4 ?_);dsimp only;rw[m6,uc m5]at hv;obtain⟨p,p1,p2⟩:=Option.bind_eq_some_iff.mp hv;obtain⟨q,q1,q2⟩:=qBU.mp p2;subst q2
  have e1:(pl.map λ(p:Nat)=>Value.int p 0).toArray[(i:Int).toNat]?=some (.int p 0):=by
   simp[p1]
  rw[e1];dsimp only;refine qAA ?_;unfold setNextDrawn;refine qAA (X.state ?_);dsimp only;refine zDm (by simp) ?_;have e2:es[(p:Int).toNat]?=some q:=q1;rw[e2];refine qAE ?_;refine qAA (qA6 it.ho it.hd (by simp) ?_);refine qAE ⟨_,rfl,qAE (h _ _ _ (qAr ..) ⟨qA9 _ it.ho (qBd (qAu it.hd _)),(qCA ..).trans it.hc,?_,.inr (.inl ⟨m1,T,oT,c,pl,rfl,?_,m4,m5,m6⟩)⟩ (λT z=>z))⟩
  .rw [qAu it.hd];simp[rawInt]
  .exact ((qAr s.heap I _).2 T hTI).trans m3
 .dsimp only;refine qAA ?_;unfold setNext;refine qAA (X.state ?_);dsimp only;refine qAA (qAA (qBc (qAE ?_)));refine zDm (by show¬(byt w=true);rw[m1];decide) ?_;refine zDm (show¬(dr es t=true) by rw[m2];decide) ?_;refine qAA (zDm (show¬((!t.led&& !es.isEmpty)=true) by rw[X.ld,m1];simp) (qAE ?_))
  have hl:i<es.size:=by
   rw[<-it.hm.len];exact(qAL.mp hv).1
  have hl2:i<t.place.size:=by
   rw[X.ok.n,qAD,<-X.size];exact hl
  have e1:es[i]?=some es[i]:=by simp[hl]
  have e2:t.place[i]?=some t.place[i]:=by simp[hl2]
  have e3:es[i].2=v:=by
   rw[m5,qAY,qAo,e1]at hv;exact qAb hv
  have e4:below t.place (slot:Int).toNat=i:=m4;rw[e4,e1,e2];refine qAE ?_;show wpAny _ _ (setField (.ref I) 0 (rawInt _) >>= _) _ _ _;refine qAA (qA6 it.ho it.hd (by simp) ?_);have g1:=qA9 (Obj.mapFields (·.setIfInBounds 0 (rawInt ((t.place[i]+1:Nat):Int)))) it.ho (qBd (qAu it.hd _));refine qAA (qA6 g1 (qAu it.hd _) (by simp) ?_);subst e3;refine qAE ⟨_,rfl,qAE (h _ _ _ ((qAr ..).trans (qAr ..)) ⟨qA9 _ g1 (qBd (qAu (qAu it.hd _) _)),?_,?_,.inr (.inr ⟨m1,m2,t.place[i]+1,rfl,g8 X.ok.r e2,m5⟩)⟩ (λT z=>nomatch z))⟩
  .rw [qCA,qCA];exact it.hc
  .rw [qAu (qAu it.hd _)];simp[rawInt]
theorem ir{s:Shared}{Q:Option Value->Shared->Prop}(hh:A.handled=none)(h:∀h',(∀b o,s.heap.get? b=some o->h'.get? b=some o)->Q none {s with heap:=h'}) :
  wpAny (model prog w) A.in1 (newExc (.type "StopIteration") [] >>= λe=>(raiseNew e:Sem Fin)) (λfin s'=>∃r,fin= .done (.ret r)/\wpAny (model prog w) A (pure (some r)) Q E s')
   (λe s'=>wpAny (model prog w) A (isInstance e (.type "StopIteration") >>= λb=>if b=true then pure none else throw e) Q E s') s:=by
 refine qAA ?_;simp only[newExc,newTuple];refine qAA (qBa ?_ (by size_fits));refine qAA (m:=firstArgMember _ _) (qCM (a:=Value.none) (by first|rfl|(simp only[firstArgMember];rfl)) ?_);refine qBa ?_ (by size_fits);simp only[raiseNew];refine qAA (wpAny_handled ?_);rw[show A.in1.handled=none from hh];refine qAA (qAE (wpAny_throw ?_));refine qAA (qCP (T:="StopIteration") (b:=true) ⟨_,qAk _ rfl,rfl⟩ isSubtype_stop ?_);exact qAE (h _ λb o q=>qAM _ (qAM _ q))
theorem rJ(hh:A.handled=none)(X:SetX knd s.heap a xs o es ep t)(it:ItS w s.heap I a es ep t ord i oI first)(hv:ord[i]?=none){Q:Option Value->Shared->Prop}
  (h:∀h',(∀b o,b≠I->s.heap.get? b=some o->h'.get? b=some o)->Q none {s with heap:=h'}):wpAny (model prog w) A (pyNext (.ref I)) Q E s:=by
 unfold pyNext;refine qAA (qB9 (qCc (name:=Str.ofString "__next__") it.typeIs zFc (qBy zFc it.typeIs jN ?_ (i8 _))));unfold Builtin.«set_iterator.__next__»;refine qAA (m:=slotArgs "__next__" 0 _) (qAE ?_);refine qAA (wpAny_fieldsOf it.ho it.hd ?_);dsimp only;refine qAA (wpAny_setEntries_of X.ho X.hd X.fits ?_);refine zDm (by simp) ?_;have up:∀h1,Heap.SameBut I s.heap h1->∀h',(∀b o,h1.get? b=some o->h'.get? b=some o)->Q none {s with heap:=h'}:=λh1 sb h' q=>h h' λb o hb z=>q b o ((sb.2 b hb).trans z);rcases it.hm with⟨m1,⟨j,rfl⟩,m3⟩|⟨m1,T,oT,c,pl,rfl,m3,m4,m5,m6⟩|⟨m1,m2,slot,rfl,m4,m5⟩
 .dsimp only;refine qAA ?_;unfold setNext;refine qAA (X.state ?_);dsimp only;refine qAA (qAA (qBc (qAE ?_)));refine zFl m1 ?_;refine zDm (by simp) ?_;refine qAA ?_;unfold setWalk;refine qAA (X.state ?_);dsimp only;refine qAA (qAA (qBc (qAE ?_)));refine zFl m1 ?_;refine qAA (qBc (qAE (qAE ?_)))
  have e1:(pickOrder (w.params.setOrder a ep) es)[i]?.map (·.2)=none:=by
   rw[m3,qAY]at hv;rw[<-qAo];exact hv
  have e2:(pickOrder ((model prog w).w.params.setOrder a ep) es)[(i:Int).toNat]?=none:=qDM.mp e1
  erw [e2]
  show wpAny _ _ (setField (.ref I) 2 Value.none >>= _) _ _ _;refine qAA (qA6 it.ho it.hd (by simp) ?_);refine ir hh ?_;exact up _ (qAr ..)
 .dsimp only;refine qAA (m:=seqItems? (.ref T)) (qCO m3 m4 ?_);dsimp only
  have e1:(pl.map λ(p:Nat)=>Value.int p 0).toArray[(i:Int).toNat]?=none:=by
   have h1:ord.length<=i:=qDL.mp hv;rw[it.hm.len]at h1;have h2:=m5.length_eq;rw[List.length_range]at h2;simp only[qCp,List.getElem?_toArray,qAY,qDM,qDL];lia
  rw[e1];dsimp only;refine qAA (qA6 it.ho it.hd (by simp) ?_);have g1:=qA9 (Obj.mapFields (·.setIfInBounds 0 (rawInt 0))) it.ho (qBd (qAu it.hd _));refine qAA (qA6 g1 (qAu it.hd _) (by simp) ?_);refine ir hh ?_;exact up _ ((qAr ..).trans (qAr ..))
 .dsimp only;refine qAA ?_;unfold setNext;refine qAA (X.state ?_);dsimp only;refine qAA (qAA (qBc (qAE ?_)));refine zDm (by show¬(byt w=true);rw[m1];decide) ?_;refine zDm (show¬(dr es t=true) by rw[m2];decide) ?_;refine qAA (zDm (show¬((!t.led&& !es.isEmpty)=true) by rw[X.ld,m1];simp) (qAE ?_))
  have e1:es[i]?=none:=by
   rw[m5,qAY,qAo]at hv;exact qDM.mp hv
  have e4:below t.place (slot:Int).toNat=i:=m4;rw[e4,e1];refine qAE ?_;show wpAny _ _ (setField (.ref I) 2 Value.none >>= _) _ _ _;refine qAA (qA6 it.ho it.hd (by simp) ?_);refine ir hh ?_;exact up _ (qAr ..)
theorem tR(it:ItS w s.heap I a es ep t ord i oI first){Q:Value->Shared->Prop}(h:Q (.ref I) s):wpAny (model prog w) A (pyIter (.ref I)) Q E s:=by
 refine wpAny_pyIter_slot it.typeIs jD (qBy jD it.typeIs oQ ?_ (pZ _));show wpAny _ _ (ret (.ref I)) _ _ s;exact qAE ⟨_,rfl,"set_iterator",_,it.typeIs,zFc.lookup,h⟩
theorem SetX.typeIs(X:SetX knd s.heap a xs o es ep t):s.TypeIs (.ref a) "set":= ⟨_,X.ho,X.ex.1⟩
theorem tK(X:SetX knd s.heap a xs o es ep t)(hn:xs.length<=306){Q:Value->Shared->Prop}
  (h:∀I h' d ord oI first,(∀b o,s.heap.get? b=some o->h'.get? b=some o)->s.heap.objs.size<=I->ItS w h' I a es ep t ord 0 oI first->(∀T,first= .ref T->s.heap.objs.size<=T)->Q (.ref I) {s with heap:=h',drawn:=d}):wpAny (model prog w) A (pyIter (.ref a)) Q E s:=by
 refine wpAny_pyIter_slot X.typeIs F.slot_set_iter (qBy F.slot_set_iter X.typeIs qG ?_ (F.args_set_iter_1 _));unfold Builtin.«frozenset.__iter__» Builtin.Frozenset.slot0;refine qAA (qAA (m:=slotArgs "__iter__" 0 _) (qAE (qAE ?_)));dsimp only;unfold Builtin.Frozenset.sizeOf;refine qAA (qAA (wpAny_setEntries_of X.ho X.hd X.fits (qAE ?_)));unfold setDrawn;refine qAA (qAA (X.state (qAA (qAA (qBc (qAE (qAE ?_)))))));have hsz:es.size<=306:=by rw[X.size];exact hn
 by_cases c:(!byt w&&dr es t)=true
 .refine zFl c ?_;have c1:byt w=false:=by cases z:byt w<;>simp[z]at c ⊢
  refine qAA (nU es.size (List.range es.size) s _ (by simp) λpl d hp=>?_);have hpl:pl.length=es.size:=by rw[hp.length_eq];simp
  refine qAA (wpAny_newTuple ?_ (by rw[qAD,hpl];exact qAW hsz (by decide +kernel)));refine qAA (wpAny_setEpoch_of (qAM _ X.ho) X.hd X.fits ?_);refine qAA (qBa (qAE ⟨_,rfl,"set_iterator",_,⟨_,qAk _ rfl,rfl⟩,zFc.lookup,?_⟩));refine h _ _ d (pl.filterMap λp=>(es[p]?).map (·.2)) _ (.ref s.heap.objs.size) (λb o q=>qAM _ (qAM _ q)) ?_ ⟨qAk _ rfl,rfl,rfl,.inr (.inl ⟨c1,_,_,_,pl,rfl,qAM _ (qAk _ rfl),rfl,hp,rfl⟩)⟩ (λT z=>by cases z;exact qAG _);show s.heap.objs.size<=(s.heap.push _).objs.size;rw[qBR];exact qB6 _
 .refine zDm c ?_;refine qAA (qAE ?_);refine qAA (wpAny_setEpoch_of X.ho X.hd X.fits ?_);refine qAA (qBa (qAE ⟨_,rfl,"set_iterator",_,⟨_,qAk _ rfl,rfl⟩,zFc.lookup,?_⟩))
  cases z:byt w with
  |true=>
   exact h _ _ s.drawn ((pickOrder (w.params.setOrder a ep) es).toList.map (·.2)) _ (.int 0 0) (λb o q=>qAM _ q) (qAG _) ⟨qAk _ rfl,rfl,rfl,.inl ⟨z,⟨0,rfl⟩,rfl⟩⟩ (λT z=>nomatch z)
  |false=>
   have c2:dr es t=false:=by rw[z]at c;simpa using c
   exact h _ _ s.drawn (es.toList.map (·.2)) _ (.int 0 0) (λb o q=>qAM _ q) (qAG _) ⟨qAk _ rfl,rfl,rfl,.inr (.inr ⟨z,c2,0,rfl,g6 X.ok.r,rfl⟩)⟩ (λT z=>nomatch z)
end
theorem pP:typeLookup (.type "set") "__len__"=pure (some (.builtin "set.__len__")):=by rw[typeLookup_type,qDK];kernel_rfl
section
variable{prog:Program}{w:World}{K:Type}[DecidableEq K]{knd:KeyKind prog w K}{A:Around}{E:Value->Shared->Prop}{s:Shared}
variable{a I:Addr}{xs:List (List K×Addr)}{o oI:Obj}{es:Array (Int×Value)}{ep i:Nat}{t:SetTable}{ord:List Value}{first:Value}
def WSt(knd:KeyKind prog w K)(a I:Addr)(xs:List (List K×Addr))(o:Obj)(es:Array (Int×Value))(ep:Nat)(t:SetTable)(ord:List Value)(Ts:List Addr)(i:Nat)(s:Shared):Prop :=
 ∃oI first,SetX knd s.heap a xs o es ep t/\ItS w s.heap I a es ep t ord i oI first/\∀T,first= .ref T->T∈Ts
theorem oY(hh:A.handled=none)(a I:Addr)(hne:I≠a)(xs:List (List K×Addr))(hx:∀p∈xs,p.2≠I)(o:Obj)(es:Array (Int×Value))(ep:Nat)(t:SetTable)(ord:List Value)(Ts:List Addr)(hT:I∉Ts) :
  WalksS prog w A I (I::a::(xs.map (·.2)++Ts)) [I] (λa b=>b=a) ord.length (λi v=>ord[i]?=some v) (WSt knd a I xs o es ep t ord Ts) where
 sub:=λb hb=>by rw[qAO.mp hb];exact qAf
 grefl:=λ_=>rfl
 gtrans:=λ_ _ _ x y=>y.trans x
 frame:=λi s h' tk ⟨oI,first,X,it,hf⟩ _ hk=>by
  refine⟨oI,first,X.kept λb o hb q=>hk b ?_ o q,⟨hk I qAf _ it.ho,it.hc,it.hd,?_⟩,hf⟩
  .rcases hb with rfl|⟨p,hp,rfl⟩
   .exact qAX _ qAf
   .exact qAX _ (qAX _ (qAp _ (qAe.mpr ⟨p,hp,rfl⟩)))
  .rcases it.hm with m|⟨m1,T,oT,c,pl,m2,m3,m4⟩|m
   .exact .inl m
   .exact .inr (.inl ⟨m1,T,oT,c,pl,m2,hk T (qAX _ (qAX _ (qAs _ (hf T m2)))) _ m3,m4⟩)
   .exact .inr (.inr m)
 item:=λi s Q E hi ⟨oI,first,X,it,hf⟩ hQ=>by
  refine sM X it hne (v:=ord[i]) (by simp[hi]) λh' o' f' sb it' hf'=>hQ _ _ (by simp[hi]) ⟨o',f',X.kept λb o hb q=>?_,it',λT z=>hf T (hf' T z)⟩ ⟨λb o hb q=>(sb.2 b λz=>hb (z▸qAf)).trans q,rfl,rfl,rfl,qAG _⟩;rcases hb with rfl|⟨p,hp,rfl⟩
  .exact (sb.2 _ (qAh hne)).trans q
  .exact (sb.2 _ (hx p hp)).trans q
 done:=λs Q E ⟨oI,first,X,it,hf⟩ hQ=>rJ hh X it (by simp) λh' q=>hQ _ ⟨λb o hb=>q b o λz=>hb (z▸qAf),rfl,rfl,rfl,qAG _⟩
 self:=λi s Q E ⟨oI,first,X,it,hf⟩ hQ=>tR it hQ
theorem lj{acc:Array Value}(h:ItemsOf (λi v=>ord[i]?=some v) acc ord.length):acc.toList=ord:=by
 refine List.ext_getElem? λi=>?_;rw[qAo]
 cases e:acc[i]? with
 |some v=>exact(h.2 i v e).symm
 |none=>
  have:=Array.getElem?_eq_none_iff.mp e;rw[h.1]at this;exact(qC0 this).symm
theorem w_collect(hh:A.handled=none)(X:SetX knd s.heap a xs o es ep t)(hn:xs.length<=306){Q:List Value->Shared->Prop}
  (h:∀s' vs,vs.Perm (xs.map λp=>.ref p.2)->(∀b o,s.heap.get? b=some o->s'.heap.get? b=some o)->s'.gens=s.gens->s'.os=s.os->s.toks<=s'.toks->Q vs s'):wpAny (model prog w) A (collect (.ref a)) Q E s:=by
 unfold collect;refine qAA (wpAny_runValue (qBv F.entry_proto_collect ?_));rw[qCb F.plain_proto_collect _];change wpAny _ A.in1 (newList [] >>= λl=>again (.builtin "list.__iadd__" ⟨[l,Value.ref a],[]⟩)) _ _ s;refine qAA (qBa ?_);refine qAE ⟨qC2 F.plain_list_iadd _,qBv F.entry_list_iadd ?_⟩;rw[qCb F.plain_list_iadd _];generalize hL:s.heap.objs.size=L;have hS1:(s.heap.push {cls:=.type "list",data:=.seq ([]:List Value).toArray}).get? L=some {cls:=.type "list",data:=.seq ([]:List Value).toArray}:=by rw[<-hL];exact qAk _ rfl
 generalize hH1:s.heap.push {cls:=.type "list",data:=.seq ([]:List Value).toArray}=H1 at hS1 ⊢;have up1:∀b o,s.heap.get? b=some o->H1.get? b=some o:=λb o q=>by rw[<-hH1];exact qAM _ q
 have sz1:H1.objs.size=L+1:=by rw[<-hH1,qBR,hL]
 have below:∀b o,s.heap.get? b=some o->b<L:=λb o q=>by rw[<-hL];exact qAI q
 have X1:SetX knd H1 a xs o es ep t:=X.kept λb o _ q=>up1 b o q;have haL:a≠L:=qAQ (below a _ X.ho);change wpAny _ A.in1 (Builtin.List.listExtendWith (Value.ref L) (.ref a) (.ref L)) _ _ _;unfold Builtin.List.listExtendWith;refine qAA (wpAny_typeOf (T:="set") ⟨_,X1.ho,X1.ex.1⟩ ?_);have n1:Builtin.List.listSameRef (.ref L) (.ref a)=false:=by simp[Builtin.List.listSameRef,qAh haL]
 refine zDm (by rw[n1];decide) ?_;refine qAA (tK (s:={s with heap:=H1}) X1 hn λI h2 d ord oI first up2 hI it hf=>?_);have hI:L+1<=I:=by rw[<-sz1];exact hI
 have X2:SetX knd h2 a xs o es ep t:=X1.kept λb o _ q=>up2 b o q;refine qAA (qAy ?_);unfold Builtin.List.listLengthHint;have T2:Shared.TypeIs {s with heap:=h2,drawn:=d} (.ref a) "set":= ⟨_,X2.ho,X2.ex.1⟩;refine qAA (qCv T2 pP ?_);generalize hid:("set.__len__": String)=id0;dsimp only;rw[show splitId id0=some ("set","__len__")from by subst hid;decide +kernel];subst hid;dsimp only;refine qAA (qCP (b:=true) T2 sub_set_self ?_);refine zDm (by decide) ?_;refine zFl (by decide +kernel) ?_;refine qAA (wpAny_typeOf T2 ?_);refine qAE ?_;refine zFl (by decide +kernel) ?_;refine qAA (qBD ?_);have hS2:=up2 L _ hS1;refine qAA ?_;change wpAny _ A.in1 (updateSeq L (·.push Value.none) >>= λ_=>updateSeq L (·.pop)) _ _ _;refine qAA (wpAny_updateSeq hS2 rfl ?_);have hS3:=qA9 (Obj.mapSeq (·.push Value.none)) hS2 rfl;refine wpAny_updateSeq hS3 rfl ?_;have hS4:=qA9 (Obj.mapSeq (·.pop)) hS3 rfl;dsimp only;have sb:Heap.SameBut L h2 ((h2.update L (Obj.mapSeq (·.push Value.none))).update L (Obj.mapSeq (·.pop))):=(qAr ..).trans (qAr ..);generalize hH4:(h2.update L (Obj.mapSeq (·.push Value.none))).update L (Obj.mapSeq (·.pop))=H4 at hS4 sb ⊢
 have hIa:I≠a:=λz=>by
  have:=below a _ X.ho;rw[<-z]at this;exact absurd this (qCN.mpr (Nat.le_of_succ_le hI))
 have hxI:∀p∈xs,p.2≠I:=λp hp z=>by
  obtain⟨ob,_,_,q,_⟩:=X.ky p hp;have:=below _ _ q;rw[z]at this;exact absurd this (qCN.mpr (Nat.le_of_succ_le hI))
 obtain⟨Ts,hTs,hT1⟩:∃Ts:List Addr,(∀T,first= .ref T->T∈Ts)/\∀T∈Ts,first= .ref T:=by
  cases first with
  |ref T=>exact⟨[T],λT' z=>by cases z;exact qAO.mpr rfl,λT' z=>by rw[qAO.mp z]⟩
  |_=>exact⟨[],(λT z=>nomatch z),(λT z=>nomatch z)⟩
 have hTge:∀T∈Ts,L+1<=T:=λT hT=>by rw[<-sz1];exact hf T (hT1 T hT)
 have hTI:I∉Ts:=λz=>by
  rcases it.hm with⟨_,⟨j,e⟩,_⟩|⟨_,T,oT,c,pl,e,m3,m4,_⟩|⟨_,_,j,e,_⟩
  .have:=(hT1 _ z).symm.trans e;exact nomatch this
  .have:=(hT1 _ z).symm.trans e
   cases this
   have:=qAb (m3.symm.trans it.ho);subst this;rw[it.hd]at m4;exact nomatch m4
  .have:=(hT1 _ z).symm.trans e;exact nomatch this
 have W:=oY (prog:=prog) (w:=w) (knd:=knd) (A:=A.in1) hh a I hIa xs hxI o es ep t ord Ts hTI
 have hLf:L∉I::a::(xs.map (·.2)++Ts):=λz=>by
  rcases qAT.mp z with z|z
  .rw [<-z]at hI;exact absurd hI (Nat.not_succ_le_self L)
  rcases qAT.mp z with z|z
  .exact haL z.symm
  rcases qAR.mp z with z|z
  .obtain ⟨p,hp,e⟩:=qAe.mp z;obtain⟨ob,_,_,q,_⟩:=X.ky p hp;have:=below _ _ q;rw[e]at this;exact qA2 _ this
  .exact absurd (hTge _ z) (Nat.not_succ_le_self L)
 have hol:ord.length<=sizeLine:=by
  rw[it.hm.len,X.size];exact qAW hn (by decide +kernel)
 have st2:WSt knd a I xs o es ep t ord Ts 0 {s with heap:=h2,drawn:=d}:=⟨oI,first,X2,it,hTs⟩;have st4:=W.frame 0 _ H4 s.toks st2 (qAG _) λb hb ob q=>(sb.2 b λz=>hLf (z▸hb)).trans q;refine qAE ⟨qC2 F.plain_extend_loop _,codeAny_extend_loopS W hol L hLf _ ord.length 0 _ _ _ rfl (qAi _) st4 hS4 (ItemsOf.nil _) λs' acc c' mv hS' hacc=>?_⟩;change wpAny _ A (load L >>= _) _ _ s';refine qAA (qB4 hS' ?_);refine qAE (h s' acc.toList ?_ (λb ob q=>?_) mv.gens mv.os mv.toks)
 .rw [lj hacc];refine it.hm.perm.trans (List.Perm.of_eq ?_);rw[X.el,qBO];rfl
 .have hb:=below b ob q;refine mv.heap b ob ?_ ((sb.2 b (qAQ hb)).trans (up2 b ob (up1 b ob q)));intro z;rcases qAT.mp z with z|z
  .exact qAQ hb z
  .rw [qAO.mp z]at hb;exact absurd hb (qCN.mpr (Nat.le_of_succ_le hI))
end
end ST
namespace ST
open PySem PyProof.Rows PySem.W
abbrev sg(x:Str):List Nat:=x.cps.toList
theorem tG{x y:Str}(h:sg x=sg y):x=y:=by
 cases x;cases y
 exact qAl Str.mk (Array.toList_inj.mp h)
def tlt:List Str->List Str->Bool
 |[],[]=>false
 |[],_::_=>true
 |_::_,[]=>false
 |x::r,y::q=>if x=y then tlt r q else decide (sg x<sg y)
theorem sx(x y:Str):sg x<sg y\/x=y\/sg y<sg x:=by
 by_cases h1:sg x<sg y
 .exact .inl h1
 by_cases h2:sg y<sg x
 .exact .inr (.inr h2)
 .exact .inr (.inl (tG (List.le_antisymm (List.not_lt.mp h2) (List.not_lt.mp h1))))
theorem iY:∀a,tlt a a=false
 |[]=>rfl
 |x::r=>by unfold tlt;rw[qAC rfl];exact iY r
theorem zHd:∀a b c,tlt a b=true->tlt b c=true->tlt a c=true
 |[],[],c,h1,h2=>h2
 |[],_::_,[],h1,h2=>by simp[tlt]at h2
 |[],_::_,_::_,h1,h2=>rfl
 |_::_,[],c,h1,h2=>by simp[tlt]at h1
 |x::r,y::q,[],h1,h2=>by simp[tlt]at h2
 |x::r,y::q,z::p,h1,h2=>by
  unfold tlt at h1 h2 ⊢
  by_cases e1:x=y
  .subst e1;rw[qAC rfl]at h1
   by_cases e2:x=z
   .subst e2;rw[qAC rfl]at h2 ⊢;exact zHd r q p h1 h2
   .rw [qAB e2]at h2 ⊢;exact h2
  .rw [qAB e1]at h1
   by_cases e2:y=z
   .subst e2;rw[qAB e1];exact h1
   .rw [qAB e2]at h2;have q1:=qBm h1;have q2:=qBm h2;have q3:=List.lt_trans q1 q2;rw[qAB λe=>by subst e;exact List.lt_irrefl _ q3];exact qAV q3
theorem eP:∀a b,tlt a b=false->tlt b a=false->a=b
 |[],[],_,_=>rfl
 |[],_::_,h,_=>by simp[tlt]at h
 |_::_,[],_,h=>by simp[tlt]at h
 |x::r,y::q,h1,h2=>by
  unfold tlt at h1 h2
  by_cases e:x=y
  .subst e;rw[qAC rfl]at h1 h2;rw[eP r q h1 h2]
  .rw [qAB e]at h1;rw[qAB (qAh e)]at h2;rcases sx x y with z|z|z
   .exact absurd z (of_decide_eq_false h1)
   .exact absurd z e
   .exact absurd z (of_decide_eq_false h2)
theorem p_(a b c:List Str)(h:tlt a c=true):tlt a b=true\/tlt b c=true:=by
 cases h1:tlt a b with
 |true=>exact .inl rfl
 |false=>
  right
  cases h2:tlt b a with
  |true=>exact zHd b a c h2 h
  |false=>rw[<-eP a b h1 h2];exact h
@[reducible] def tupK(f:Addr->Option (List Str)):PyProof.Rows.KeyKind where
 α:=List Str
 blt:=tlt
 irrefl:=iY
 trans:=zHd
 negTrans:=p_
 total:=eP
 keyOf v:=match v with| .ref b=>f b|_=>none
 dflt:=[]
section
variable{prog:Program}{w:World}{A:Around}{E:Value->Shared->Prop}{s:Shared}
theorem zGk{ks:List Str}{vs:List Value}(h:ItemsAre (PySem.strKind prog w) ks vs):StrsAre vs ks:=by
 induction h with
 |nil=>exact .nil
 |@cons k v ks vs h1 _ ih=>
  obtain⟨t,rfl⟩:=Value.isStrOf_shape h1;exact .cons k t ih
theorem fN{b fin:Bool}{Q:Bool->Shared->Prop}:∀{xs ys:List Value}{ax ay:List Str},StrsAre xs ax->StrsAre ys ay->∀i,fin=decide (xs.length<ys.length)->Q (tlt ax ay) s->KatLex prog w A b fin Q (xs.zip ys) i s
 |_,_,_,_,.nil,.nil,i,e,h=>by subst e;exact kat_nil h
 |_,_,_,_,.nil,.cons y t hy,i,e,h=>by subst e;exact kat_nil h
 |_,_,_,_,.cons x t hx,.nil,i,e,h=>by subst e;exact kat_nil h
 |_,_,_,_,.cons x t hx,.cons y u hy,i,e,h=>by
  rw[List.zip_cons_cons];refine kat_cons (wpAny_eqBool_str ?_);unfold tlt at h
  by_cases c:x=y
  .rw [qAC c]at h;rw[qAV c];refine kat_yes (fN hx hy (i+1) ?_ h);rw[e];simp
  .rw [qAB c]at h;rw[qAZ c];refine kat_no ?_
   cases z:(b&&i==0)with
   |true=>exact oneLt_str h
   |false=>exact kat_one _ _ (lt_str h)
theorem ph(f:Addr->Option (List Str))(hf:∀b k,f b=some k->IsTupleKey (PySem.strKind prog w) s.heap k b)(b:Bool):Tim.CmpOk prog w A s (tuples' b) (tupK f):=by
 intro E x y a c Q hx hy h
 cases x<;>simp only[reduceCtorEq]at hx
 cases y<;>simp only[reduceCtorEq]at hy
 obtain⟨ox,ix,nx,x1,_,x2,x3⟩:=hf _ _ hx;obtain⟨oy,iy,ny,y1,_,y2,y3⟩:=hf _ _ hy;exact kat_lt x1 x2 y1 y2 (fN (zGk x3) (zGk y3) 0 (by simp) h)
end
theorem zI7{vs:List Value}{xs:Array Keyed}(hp:xs.Perm (pairsOf vs)):(xs.map (·.2)).toList.Perm vs:=by
 have hl:xs.toList.Perm (vs.zip vs):=by rw[<-pairsOf_toList];exact qC3.mp hp
 have:=hl.map (·.2);rw[List.map_snd_zip (qAG _)]at this
 rwa [Array.toList_map]
section
variable{prog:Program}{w:World}{A:Around}{E:Value->Shared->Prop}{s:Shared}
structure bM(prog:Program)(w:World)(A:Around)(κ:PyProof.Rows.KeyKind)(kd:SortKind)(vs:List Value)(s:Shared):Prop where
 cmp:Tim.CmpOk prog w A s kd κ
 kind:2<=vs.length->∀(E:Value->Shared->Prop)(Q:SortKind->Shared->Prop),Q kd s->wpAny (model prog w) A (keyKind' vs.toArray) Q E s
 has:∀v∈vs,∃k,κ.keyOf v=some k
theorem nk{h:Heap}{a:Addr}{vs:List Value}{n:Nat}{out:Array Value}(ho:h.get? a=some (seqObj "list" vs.toArray n)):(∃c,(sortedHeap h a vs out).get? a=some (seqObj "list" out c))/\∀b o,b≠a->h.get? b=some o->(sortedHeap h a vs out).get? b=some o:=by
 have ha:a<h.objs.size:=qAI ho;have h1:(h.update a (Obj.mapSeq λ_=>#[])).get? a=some (seqObj "list" #[] _):=get?_update_seq ho λ_=>#[];have h2:=qAM (seqObj "list" #[] 0) (qAM (seqObj "tuple" vs.toArray 0) h1);refine⟨⟨_,get?_update_seq h2 λ_=>out⟩,λb o hb q=>?_⟩;unfold sortedHeap;rw[qBq _ _ (qAh hb)];refine qAM _ (qAM _ ?_);rw[qBq _ _ (qAh hb)];exact q
end
section
variable{prog:Program}{w:World}{A:Around}{E:Value->Shared->Prop}{s:Shared}
abbrev Up(h h':Heap):Prop:=∀b o,h.get? b=some o->h'.get? b=some o
end
section
variable{prog:Program}{w:World}{A:Around}{E:Value->Shared->Prop}{s:Shared}
theorem tups_sortable{ks:List (List Str×Addr)}{vs:List Value}(hv:vs.Perm (ks.map λp=>.ref p.2))(ky:∀p∈ks,IsTupleKey (PySem.strKind prog w) s.heap p.1 p.2)(hne:∀p∈ks,p.1≠[]) :
  bM prog w A (tupK λb=>(ks.find? λp=>p.2==b).map (·.1)) (tuples' true) vs s:=by
 have look:∀p∈ks,∃q∈ks,(ks.find? λp'=>p'.2==p.2)=some q/\q.2=p.2:=λp hp=>by
  cases e:ks.find? λp'=>p'.2==p.2 with
  |none=>exact absurd (List.find?_eq_none.mp e p hp) (by simp)
  |some q=>exact⟨q,qDE e,rfl,by simpa using List.find?_some e⟩
 refine⟨ph _ (λb k e=>?_) true,λh2 E Q h=>?_,λv hvm=>?_⟩
 .obtain ⟨p,p1,p2⟩:=qBU.mp e;have p3:p.2=b:=by simpa using List.find?_some p1
  rw[<-p2,<-p3];exact ky p (qDE p1)
 .have go:∀(us:List Value),(∀u∈us,∃p∈ks,u= .ref p.2)->∃fs:List Value,KatTups s.heap us fs/\fs.length=us.length/\∀f∈fs,∃x t,f= .str x t:=by
   intro us
   induction us with
   |nil=>intro _;exact⟨[],.nil,rfl,(λf hf=>nomatch hf)⟩
   |cons u us ih=>
    intro hu;obtain⟨fs,t1,t2,t3⟩:=ih λu hu'=>hu u (qAX _ hu');obtain⟨p,hp,rfl⟩:=hu u qAf;obtain⟨ob,its,n,q1,q2,q3,q4⟩:=ky p hp;have q5:=zGk q4;have q6:=hne p hp;generalize hk:p.1=k at q5 q6;generalize hl:its.toList=l at q5
    cases q5 with
    |nil=>exact absurd rfl q6
    |cons x t r=>
     refine⟨.str x t::fs,.cons q1 q2 q3 ?_ t1,by simp[t2],λf hf=>?_⟩
     .rw [<-qAo,hl];rfl
     .rcases qAT.mp hf with z|z
      .exact ⟨x,t,z⟩
      .exact t3 f z
  obtain⟨fs,t1,t2,t3⟩:=go vs λu hu=>by
   obtain⟨p,hp,e⟩:=qAe.mp (hv.mem_iff.mp hu);exact⟨p,hp,e.symm⟩
  refine kat_kind (T:=.type "str") t1 (by lia) (λf hf=>?_) (by decide) h;obtain⟨x,t,rfl⟩:=t3 f hf;exact .now
 .obtain ⟨p,hp,rfl⟩:=qAe.mp (hv.mem_iff.mp hvm);obtain⟨q,hq,e,_⟩:=look p hp;exact⟨q.1,by show Option.map _ _=_;rw[e];rfl⟩
end
end ST
namespace L2
open PySem PySem.Spec PyProof.Rows
def TSt(P:Program)(w:World)(a:Addr)(xs:List (List Str×Addr)):HO :=
 .ext λh=>∃o es ep t,h.get? a=some o/\o.ExactSet/\o.data= .set es ep t/\es.toList=xs.map (ST.en (PySem.strKind P w))/\ST.TOk t (xs.map λp=>tupleKeyHash (PySem.strKind P w) p.1)/\xs.length*5<t.mask*3/\(xs.map (·.1)).Nodup/\t.led= !ST.byt w
def oq(K:PySem.W.Frag)(H:Hp)(p:List Str×Addr):Prop:=SqT K H p.2 (p.1.map V.str)
section
variable{X:Cx}{pins:List (Addr×Obj)}{σ:St}{H:Hp}{s:Shared}
theorem zIq{prog:Program}{w:World}:∀{ks:List Str}{its:List Value},aj (ks.map V.str) its->ItemsAre (PySem.strKind prog w) ks its
 |[],_,.nil=>.nil
 |k::ks,_,.cons ⟨t,e⟩ r=>by
  subst e;exact .cons (by show Value.isStrOf k (.str k t)=true;simp[Value.isStrOf]) (zIq r)
theorem Inv.rowT(I:Inv X pins σ H s){p:List Str×Addr}(h:oq X.K H p):IsTupleKey (PySem.strKind X.prog X.w) s.heap p.1 p.2:=by
 obtain⟨its,r,⟨o,ho,hc,n,hd⟩,_⟩:=I.tuple h;exact⟨o,its.toArray,n,ho,hc,hd,by simpa using zIq r⟩
theorem df:∀{ks:List (List Str×Addr)} {its:List Value},aj (ks.map λp=>V.ref p.2) its->its=ks.map λp=>Value.ref p.2
 |[],_,.nil=>rfl
 |k::ks,_,.cons e r=>by
  have e:_=Value.ref k.2:=e;subst e;rw[df r];rfl
theorem de:∀(ks:List (List Str×Addr)),aj (ks.map λp=>V.ref p.2) (ks.map λp=>Value.ref p.2)
 |[]=>.nil
 |k::ks=>.cons rfl (de ks)
theorem rX{h:Heap}{H:Hp}{a:Addr}{xs:List (List Str×Addr)}{o:Obj}{es:Array (Int×Value)}{ep:Nat}{t:SetTable}(Z:ST.SetX (PySem.strKind X.prog X.w) h a xs o es ep t):zBq X.prog X.w H h a (TSt X.prog X.w a xs) :=
 ⟨⟨o,es,ep,t,Z.ho,Z.ex,Z.hd,Z.el,Z.ok,Z.room,Z.nd,Z.ld⟩,⟨o,Z.ho⟩,λh1 h2 ⟨o,es,ep,t,q,r⟩ k=>⟨o,es,ep,t,k o q,r⟩⟩
theorem jX{k:Nat}(hr:aB k X.A):zCz X (.type "set") (λxs H Q=>∃(l:Addr) (ks:List (List Str×Addr)),xs=[.ref l]/\SqL X.K H l (ks.map λp=>V.ref p.2)/\(∀p∈ks,oq X.K H p)/\ks.length<=306 /\ ∀a ys,H a=none->(∀p∈ys,p∈ks)->(∀p∈ks,p.1∈ys.map (·.1))->(ys.map (·.1)).Nodup->ys.length<=ks.length->Q (.ref a) (upd H a (TSt X.prog X.w a ys))):=by
 intro pins s σ H xs us Q I r h;obtain⟨l,ks,rfl,hl,hk,hc,q⟩:=h;obtain⟨u,rfl,rx⟩:=zI5 r
 cases rx
 obtain⟨its,r',pl,hz⟩:=I.list hl;have ei:=df r';refine ST.w_mkset (knd:=PySem.strKind X.prog X.w) (ks:=ks) hr.hd (by have:=hr.un;lia) pl.isList (by rw[ei]) (λp hp=>I.rowT (hk p hp)) hc λh' tk _ g kp=>?_;obtain⟨ys,o,es,ep,t,Z,g1,g2,g3⟩:=g;exact⟨.ref s.heap.objs.size,_,I.laid (t':=tk) kp (qAG _) (rX Z),rfl,q _ ys (I.hok.fresh (qAG _)) g1 g2 Z.nd g3⟩
theorem kQ{α β:Type}(f:α->β):∀{vs:List β}{ks:List α},vs.Perm (ks.map f)->∃zs:List α,zs.Perm ks/\vs=zs.map f:=by
 intro vs ks h;generalize hm:ks.map f=ms at h
 induction h generalizing ks with
 |nil=>exact⟨[],by rw[qCd.mp hm],rfl⟩
 |@cons x l₁ l₂ _ ih=>
  cases ks with
  |nil=>exact nomatch hm
  |cons k ks=>
   rw[qAt]at hm;obtain⟨e1,e2⟩:=List.cons.inj hm;obtain⟨zs,p,e⟩:=ih e2;exact⟨k::zs,.cons k p,by rw[qAt,<-e,e1]⟩
 |swap x y l=>
  match ks,hm with
  |a::b::ks,hm=>
   simp only[qAt,List.cons.injEq]at hm;obtain⟨e1,e2,e3⟩:=hm;exact⟨b::a::ks,.swap a b ks,by simp[e1,e2,e3]⟩
 |trans _ _ ih1 ih2=>
  obtain⟨zs,p,e⟩:=ih2 hm;obtain⟨zs',p',e'⟩:=ih1 e.symm;exact⟨zs',p'.trans p,e'⟩
end
end L2
namespace ST
section
open PySem PyProof.Rows
variable{prog:Program}{w:World}{A:Around}{s:Shared}
end
end ST
namespace L2
open PySem PySem.Spec PyProof.Rows
variable{H:Hp}{h h':Heap}{a e C:Addr}{o:HO}{oe:Obj}{x:Str}{pos:Pos}
section
variable{X:Cx}
inductive jO(x:V)(vs:List V)(H:Hp)(Q:VK):Prop
 |mk:∀l xs i y,x= .ref l->vs=[.int i,y]->H l=some (.lst xs)->xs.length<sizeLine->0<=i->i<=xs.length->Q .non (upd H l (.lst (xs.take i.toNat++y::xs.drop i.toNat)))->jO x vs H Q
theorem zHv:MtM X "list.insert" jO:=by
 intro pins s σ H x vs v us Q I rx rv h;obtain⟨l,xs,i,y,rfl,rfl,hH,hz,h0,h1,q⟩:=h
 cases rx
 obtain⟨u1,u,rfl,r1,ru⟩:=rv.two;obtain⟨t,rfl⟩:=r1;obtain⟨z,its,n,r,hl,e⟩:=I.lstM hH;have hsl:sizeLine<2^62:=by decide +kernel
 have hfit:¬(!Builtin.List.listFitsIndex i)=true:=by
  unfold Builtin.List.listFitsIndex;have a1:-(2^63:Int)<=i:=by lia
  have a2:i<2^63:=by lia
  rw[qAV a1,qAV a2];decide
 refine qBT F.slot_list_insert ⟨_,e,rfl⟩ F.entry_list_insert (F.args_list_insert_3 _ _ _) (PySem.AutoListH.list_insert_list_int_val_1 l its.toArray n i t u hfit (by rw[qAS];lia)) ⟨e,?_⟩;refine⟨.non,_,I.lset (its':=its.take i.toNat++u::its.drop i.toNat) hH e ?_ ((r.take _).append (.cons ru (r.drop _))) ?_,rfl,q⟩
 .have hk:(if i<0 then(i+((its.toArray.size:Nat):Int)).toNat else min i.toNat its.toArray.size)=i.toNat:=by
   rw[qAB (by lia),qAS];lia
  show(its.toArray.extract 0 _).push u++its.toArray.extract _=_;rw[hk];apply Array.ext';rw[qCY,qCK,qBi,qBi,qBK];simp[List.extract_eq_drop_take,qBN]
 .rw [qAN,qAa,qAU,qAz];lia
def mrg(kvs more:List (Key×V)):List (Key×V):=more.foldl (λacc p=>aT acc p.1 p.2) kvs
theorem KV.mrg{kvs:List (Key×V)}{vs:List (Key×Value)}(r:KV kvs vs):∀{more:List (Key×V)} {ms:List (Key×Value)},KV more ms->KV (mrg kvs more) (merged vs ms):=by
 intro more ms r2;unfold L2.mrg merged;unfold KV at r2
 induction r2 generalizing kvs vs with
 |nil=>exact r
 |@cons p q l₁ l₂ h _ ih=>
  rw[qBr,qBr,h.1];exact ih (r.put q.1 h.2)
theorem qx(kvs more:List (Key×V)):(mrg kvs more).length<=kvs.length+more.length:=by
 unfold mrg
 induction more generalizing kvs with
 |nil=>exact qAG _
 |cons p r ih=>
  rw[qBr,qAa];have h1:=ih (aT kvs p.1 p.2);have h2:=zFi kvs p.1 p.2;lia
inductive rq(x:V)(vs:List V)(H:Hp)(Q:VK):Prop
 |mk:∀a b kvs more,x= .ref a->vs=[.ref b]->H a=some (.dK kvs)->H b=some (.dK more)->a≠b->kvs.length+more.length<=sizeLine->Q .non (upd H a (.dK (mrg kvs more)))->rq x vs H Q
theorem qt:MtR X "dict.update" rq:=by
 intro pins s σ H x vs v us Q I rx rv h;obtain⟨a,b,kvs,more,rfl,rfl,hA,hB,hne,hz,q⟩:=h
 cases rx
 obtain⟨u,rfl,ru⟩:=rv.one
 cases ru
 obtain⟨_,a2,vs1,a3,a4⟩:=I.hok a _ hA;obtain⟨_,b2,vs2,b3,b4⟩:=I.hok b _ hB;have l1:kvs.length=vs1.length:=qCD a3;have l2:more.length=vs2.length:=qCD b3;refine call_meetsIn F.slot_dict_update a4.typeIs F.entry_dict_update (F.args_dict_update_2 _ _) (meets_dict_update (zB5 X.prog X.w) a b hne b2) ⟨vs1,vs2,a4,b4,by lia,λh' d1 d2 sb=>?_⟩;have new:zBq X.prog X.w (upd H a (.dK (mrg kvs more))) h' a (.dK (mrg kvs more)):=⟨qAW (qx kvs more) hz,a2,_,a3.mrg b3,d1⟩;refine⟨.non,_,I.write (x:=a) (e:=a) (t':=s.toks) (by rw[hA];exact trivial) (.inl rfl) (λc o hc z=>(sb.2 c hc).trans z) ?_ new,rfl,q⟩;obtain⟨o,_,_,e,_⟩:=d1;exact⟨o,e⟩
end
section
variable{X:Cx}
theorem rR(hu:X.A.units<cLine):OpR X (compareOp .NotEq) (aP X.K true):=by
 intro pins s σ H x y v u Q I rx ry h;obtain⟨a,c,xs,ys,rfl,rfl,hx,hy,hl,q⟩:=h
 cases rx
 cases ry
 obtain⟨its,r,pl,hz⟩:=I.list hx;obtain⟨its2,r2,pl2,hz2⟩:=I.list hy;have e1:=r.length;have e2:=r2.length;exact SeqAt.RcNeAt.lists_lengths pl.isList pl2.isList (by rw[qAS,qAS];simp;lia) hu X.prog X.w X.xe _ ⟨.bl true,H,I,rfl,q⟩
end
theorem zEt{X:Cx}{k:Nat}(hr:aB k X.A):OpR X (compareOp .NotEq) (λx y H Q=>aO X.K 8 false x y H Q\/aP X.K true x y H Q):=(sQ (hu2 hr)).either (rR (hu0 hr))
theorem qB{ns:List Int}:∀{its:List Value},aj (ns.map V.int) its->∃xs:List (Int×Tok),its=(xs.map λp=>Value.int p.1 p.2)/\xs.map (·.1)=ns:=by
 induction ns with
 |nil=>
  intro its r
  cases r
  exact⟨[],rfl,rfl⟩
 |cons n ns ih=>
  intro its r
  cases r with
  |cons r1 r2=>
   obtain⟨t,rfl⟩:=r1;obtain⟨xs,rfl,e⟩:=ih r2;exact⟨(n,t)::xs,rfl,by rw[qAt,e]⟩
theorem jm{fs ex:List Addr}(k:∀b u,b∉ex->h.get? b=some u->h'.get? b=some u)(hp:h.objs.size<=a)(hn:H a=none):Un fs ex H (upd H a o) h h' where
 keep:=λb u q _ _ hx=>k b u hx q
 slot:=λb u q _ _ hx=>⟨u.slots,k b u hx q⟩
 free:=λb u q n _=>by rw[ad (qAQ (qAj (qAI q) hp))];exact n
 there:=λb u q hx=>⟨u,k b u hx q⟩
 tups:=λb xs q=>by rw[ad (zAm q hn)];exact q
 frzs:=λb u xs q=>by rw[ad (zAm q hn)];exact q
 tbls:=λb ps q=>⟨#[],by rw[ad (zAm q hn),q];simp⟩
theorem gI{P:Program}{w:World}{ex:List Addr}(x:HOk P w H h)(k:∀b u,b∉ex->h.get? b=some u->h'.get? b=some u)(hex:∀b∈ex,H b=none)(hp:h.objs.size<=a)(new:zBq P w (upd H a o) h' a o):HOk P w (upd H a o) h':=λb u e=>by
 have hn:=x.fresh hp
 by_cases hb:b=a
 .subst hb;rw[ac]at e;cases e;exact new
 .rw [ad hb]at e;refine(x b u e).stay (λc v hc q=>k c v (λz=>?_) q) (λc q=>by rw[ad (zAm q hn)];exact q) λc xs q=>by rw[ad (zAm q hn)];exact q
  have hz:=hex c z;rcases hc with y|y
  .rw [y,e]at hz;cases hz
  .rw [y]at hz;cases hz
open AutoSeq1 (wpAny_loadPart')
def TrD(h B:Heap)(e:Addr)(c:Value)(dd:Option Addr)(fl:Value):Prop :=
 ∃oe vs T oT ts,h.get? e=some oe/\oe.cls=c/\oe.dict=dd/\oe.data= .fields vs/\vs[1]?=some (.ref T)/\B.get? T=none/\T≠e/\h.get? T=some oT/\oT.data= .fields ts/\ts[3]?=some fl/\vs[2]?=some .none
def FlD(B:Heap)(l:List Env)(e:Addr)(c:Value)(dd:Option Addr)(h:Heap):Prop:=B.StaysIn h/\B.get? e=none/\h.FunFrames B l/\∃fl,TrD h B e c dd fl
theorem FlD.there{B:Heap}{l:List Env}{c:Value}{dd:Option Addr}(x:FlD B l e c dd h):∃o,h.get? e=some o/\o.cls=c/\o.dict=dd/\∃vs,o.data= .fields vs/\vs[2]?=some .none :=
 let⟨_,_,_,_,oe,vs,_,_,_,q1,q2,q3,q4,_,_,_,_,_,_,q5⟩:=x
 ⟨oe,q1,q2,q3,vs,q4,q5⟩
theorem FlD.less{B:Heap}{env:Env}{l:List Env}{c:Value}{dd:Option Addr}(x:FlD B (env::l) e c dd h):FlD B l e c dd h :=
 let⟨x1,x2,⟨_,_,x3⟩,x4⟩:=x
 ⟨x1,x2,x3,x4⟩
theorem o_(o:Obj)(f:Array Value->Array Value):(Obj.mapFields f o).dict=o.dict:=by
 unfold Obj.mapFields;split<;>rfl
section
variable{M:Model}{A:Around}{E:Value->Shared->Prop}{s:Shared}{B:Heap}{env:Env}{l:List Env}{L e:Addr}{c:Value}{dd:Option Addr}{Q:Unit->Shared->Prop}
theorem cF{T:Addr}{oT:Obj}{ts:Array Value}{f:Array Value->Array Value}(st:B.StaysIn s.heap)(hl:s.heap.FunFrames B l)(nT:B.get? T=none)(hT:s.heap.get? T=some oT)(dT:oT.data= .fields ts) :
  (∀b,b≠T->(s.heap.update T (Obj.mapFields f)).get? b=s.heap.get? b)/\B.StaysIn (s.heap.update T (Obj.mapFields f))/\(s.heap.update T (Obj.mapFields f)).FunFrames B l/\s.heap.UpToSlots (s.heap.update T (Obj.mapFields f)) /\
   (s.heap.update T (Obj.mapFields f)).get? T=some (oT.mapFields f):=by
 have other:∀b,b≠T->(s.heap.update T (Obj.mapFields f)).get? b=s.heap.get? b:=λb hb=>qBq _ _ (qAh hb);have nrec:∀b o,s.heap.get? b=some o->(∀vs,o.data≠.fields vs)->b≠T:=λb o q nf z=>by rw[z,hT]at q;cases q;exact nf ts dT
 refine⟨other,λb o q=>(other b λz=>by rw[z,nT]at q;cases q).trans (st b o q),hl.of_keeps λb o q nf=>⟨o,(other b (nrec b o q nf)).trans q,rfl⟩,λb o q nf=>⟨o.slots,(other b (nrec b o q nf)).trans q⟩,qA9 _ hT (qBd (qAu dT _))⟩
theorem zG9{m:Option Addr}(x:FlD B l e c dd s.heap)(h:∀h',FlD B l e c dd h'->s.heap.UpToSlots h'->(∀b o,s.heap.get? b=some o->(∀vs,o.data≠.fields vs)->h'.get? b=some o)->Q () {s with heap:=h'}):wpAny M A (setFlight (.ref e) m) Q E s:=by
 obtain⟨x1,x2,x3,fl,oe,vs,T,oT,ts,q1,q2,q2',q3,q4,q5,q6,q7,q8,q9,q10⟩:=x;unfold setFlight;refine qAA (qBE q1 q3 q4 ?_);rw[qAC (by simp)];have sz:3<ts.size:=(qBM.mp q9).1;refine qA6 q7 q8 sz ?_;obtain⟨o,y1,y2,y3,y4⟩:=cF (f:=(·.setIfInBounds 3 (m.elim Value.none λf=>rawInt f))) x1 x3 q5 q7 q8;exact h _ ⟨y1,x2,y2,_,oe,vs,T,_,_,(o e (qAh q6)).trans q1,q2,q2',q3,q4,q5,q6,y4,qAu q8 _,qDH sz,q10⟩ y3 λb ob z nf=>(o b λz2=>by rw[z2,q7]at z;cases z;exact nf ts q8).trans z
theorem cY{vs:Array Value}{hd:Value}{hn:Bool}(hfr:A.frames=some (env::l))(hl:s.heap.FunFrames B (env::l))(hf:env.frame=some L)(he:s.heap.get? e=some oe)(st:B.StaysIn s.heap)(ne:B.get? e=none)(dv:oe.data= .fields vs)(sz:1<vs.size)(v2:vs[2]?=some .none)
  (h:∀h',FlD B (env::l) e oe.cls oe.dict h'->s.heap.UpToSlots h'->Q () {s with heap:=h'}) :
  wpAny M A (do setField (.ref e) 1 (<-EntryCells.newEntry hd (<-frameOf env) .none (rawInt L) .none (<-entryPlaceOf L hn))) Q E s:=by
 have enf:e∉(env::l).filterMap (·.frame):=λz=>by
  obtain⟨_,o,ho,nf⟩:=hl.mem z;rw[he]at ho;cases ho;exact nf vs dv
 refine qAA (wpAny_frameOf_fun hfr hl hf λh1 k1=>qAA (wpAny_entryPlaceOf λpl hpl=>?_));unfold EntryCells.newEntry newFields;refine qAA (qBa ?_ (hpl.sizeOk5 _ _ _ _ _));generalize hob:({cls:=.type "traceback",dict:=none,data:=.fields ([hd,.ref L,.none,rawInt L,.none]++(if pl.isEmpty then List.replicate 6 Value.none else pl)).toArray}:Obj)=ob;have obd:ob.data= .fields ([hd,.ref L,.none,rawInt L,.none]++(if pl.isEmpty then List.replicate 6 Value.none else pl)).toArray:=by rw[<-hob]
 have e1:h1.get? e=some oe:=(k1.2.1 e enf).trans he;have st1:B.StaysIn h1:=λb o z=>(k1.2.1 b λhm=>by rw[(hl.mem hm).1]at z;cases z).trans (st b o z);have Te:h1.objs.size≠e:=qA4 (qAI e1);have e2:(h1.push ob).get? e=some oe:=qAM _ e1;have t2:(h1.push ob).get? h1.objs.size=some ob:=qAk h1 (qBd obd);refine qA6 e2 dv sz (h _ ?_ ?_)
 .have other:∀b,b≠e->((h1.push ob).update e (Obj.mapFields (·.setIfInBounds 1 (Value.ref h1.objs.size)))).get? b=(h1.push ob).get? b:=λb hb=>qBq _ _ (qAh hb);refine⟨λb o z=>(other b λz2=>by rw[z2,ne]at z;cases z).trans (qAM _ (st1 b o z)),ne,hl.of_keeps λb o z nf=>?_,rawInt L,_,_,h1.objs.size,_,_,qA9 _ e2 (qBd (qAu dv _)),qCA _ _,o_ _ _,qAu dv _,qDH sz,st1.fresh,Te,(other _ Te).trans t2,obd,rfl,by rw[qDG (by decide)];exact v2⟩;obtain⟨sl,z1⟩:=k1.2.2 b o z;exact⟨_,(other b λz2=>by rw[z2,he]at z;cases z;exact nf vs dv).trans (qAM _ z1),rfl⟩
 .intro b o z nf;obtain⟨sl,z1⟩:=k1.2.2 b o z;exact⟨sl,(qBq _ _ λz2=>by rw[<-z2,he]at z;cases z;exact nf vs dv).trans (qAM _ z1)⟩
theorem c_(hfr:A.frames=some (env::l))(hf:env.frame=some L)(x:FlD B (env::l) e c dd s.heap)(h:∀h',FlD B (env::l) e c dd h'->s.heap.UpToSlots h'->Q () {s with heap:=h'}):wpAny M A (noteFrame (.ref e) env) Q E s:=by
 obtain⟨x1,x2,x3,fl,oe,vs,T,oT,ts,q1,q2,q2',q3,q4,q5,q6,q7,q8,q9,q10⟩:=id x;unfold noteFrame;simp only[hf];refine qAA (qBE q1 q3 q4 ?_);rw[qAC (by simp)];refine qAA (qBE q7 q8 q9 ?_)
 by_cases hm:fl=rawInt L
 .rw [qAC (by simpa using hm)];exact qAE (h _ x (Heap.UpToSlots.refl _))
 .rw [qAB (by simpa using hm)];refine qAA (qA6 q7 q8 (qBM.mp q9).1 ?_);obtain⟨o,y1,y2,y3,y4⟩:=cF (f:=(·.setIfInBounds 3 Value.none)) x1 x3 q5 q7 q8;subst q2 q2';exact cY hfr y2 hf ((o e (qAh q6)).trans q1) y1 x2 q3 (qBM.mp q4).1 q10 λh' z u=>h h' z (y3.trans u)
theorem iK(hfr:A.frames=some (env::l))(hf:env.frame=some L)(x:FlD B (env::l) e c dd s.heap)(h:∀h',FlD B l e c dd h'->s.heap.UpToSlots h'->Q () {s with heap:=h'}):wpAny M A (leaving env (.ref e)) Q E s:=by
 unfold leaving;exact qAA (c_ hfr hf x λh1 y u=>zG9 y λh2 z v _=>h h2 z.less (u.trans v))
theorem kZ{vs:Array Value}(hfr:A.frames=some (env::l))(hl:s.heap.FunFrames B (env::l))(hf:env.frame=some L)(he:s.heap.get? e=some oe)(st:B.StaysIn s.heap)(ne:B.get? e=none)(dv:oe.data= .fields vs)(h1:vs[1]?=some .none)(h2:vs[2]?=some .none)
  (h:∀h',FlD B l e oe.cls oe.dict h'->s.heap.UpToSlots h'->Q () {s with heap:=h'}):wpAny M A (leaving env (.ref e)) Q E s:=by
 unfold leaving noteFrame;simp only[hf];refine qAA (qAA (qBE he dv h1 ?_));rw[qAB (by decide)];exact cY hfr hl hf he st ne dv (qBM.mp h1).1 h2 λh1 y u=>zG9 y λh2 z v _=>h h2 z.less (u.trans v)
end
theorem zFx{P:Program}{w:World}(x:zBq P w H h a o):∃u,h.get? a=some u:=by
 cases o with
 |lst xs=>obtain⟨_,_,_,_,e⟩:=x;exact⟨_,e⟩
 |tup xs=>obtain⟨_,_,_,_,e,_⟩:=x;exact⟨_,e⟩
 |dK kvs=>obtain⟨_,_,_,_,o,_,_,e,_⟩:=x;exact⟨_,e⟩
 |dT kvs=>obtain⟨_,_,_,_,o,_,_,e,_⟩:=x;exact⟨_,e⟩
 |set S n=>obtain⟨o,_,_,_,e,_⟩:=x;exact⟨_,e⟩
 |ins C dx fs=>obtain⟨_,_,_,e,_⟩:=x;exact⟨_,e⟩
 |own y=>exact x
 |xd fs=>obtain⟨_,⟨_,_,_,e,_⟩,_⟩:=x;exact⟨_,e⟩
 |rng lo hi=>obtain⟨_,_,_,e⟩:=x;exact⟨_,e⟩
 |frz ob u=>obtain⟨e,_⟩:=x;exact⟨_,e⟩
 |tbl ps=>exact⟨_,show h.get? a=some _ from x⟩
 |met f y=>exact⟨_,show h.get? a=some _ from x⟩
 |ext φ=>exact x.2.1
def part(h:Heap)(p:Addr->Bool):Heap:=⟨h.objs.mapIdx λi o=>if p i then o else {o with data:=.freed},h.life⟩
theorem zJh(h:Heap)(p:Addr->Bool)(b:Addr):(part h p).get? b=if p b then h.get? b else none:=by
 unfold part Heap.get?;simp only[Array.getElem?_mapIdx]
 cases h.objs[b]? with
 |none=>simp
 |some o=>
  cases hp:p b with
  |true=>simp[hp]
  |false=>simp[hp]
def nfr(h:Heap)(l:List Env):Heap:=part h λb=>decide (b∉frs l)
theorem dl(h:Heap)(l:List Env):(nfr h l).StaysIn h:=λb o e=>by
 unfold nfr at e;rw[zJh]at e;split at e
 .exact e
 .cases e
theorem pA{l:List Env}{b:Addr}(hb:b∉frs l):(nfr h l).get? b=h.get? b:=by
 unfold nfr;rw[zJh,qAC (by simpa using hb)]
theorem sv{l:List Env}{b:Addr}(hb:b∈frs l):(nfr h l).get? b=none:=by
 unfold nfr;rw[zJh,qAB (by simpa using hb)]
theorem fJ{base B:Heap}:∀{l:List Env},h.FunFrames base l->(∀b∈frs l,B.get? b=none)->h.FunFrames B l
 |[],_,_=>trivial
 |env::rest,⟨m,⟨L,o,e1,e2,e3,e4⟩,r⟩,n=>⟨m,⟨L,o,e1,n L (by unfold frs;rw[qBo,e1];exact qAf),e3,e4⟩,fJ r λb hb=>n b (by
   unfold frs at hb ⊢;rw[qBo,e1];exact qAX _ hb)⟩
def CX1(P:Program)(w:World):CXT:=λouter H s E e s'=>∃(a C:Addr)(dd:Option Addr)(H':Hp)(B:Heap),e= .ref a/\FlD B outer a (.ref C) dd s'.heap/\s'.os=s.os/\AllBare s'.gens/\Un (frs outer) [] H H' s.heap s'.heap/\HOk P w H' s'.heap /\
 H' a=none/\s.heap.get? a=none/\(∀b o,(H' b≠none\/(s.heap.get? b≠none/\b∉frs outer))->s'.heap.get? b=some o->B.get? b=some o)/\E (.ref C) dd H'
section
variable{X:Cx}{pins:List (Addr×Obj)}{σ:St}{H:Hp}{s:Shared}
theorem gk{H':Hp}{B:Heap}{fs:List Addr}{H₀:Hp}{h₀:Heap}(u:Un fs [] H₀ H' h₀ h)(st:B.StaysIn h')(us:h.UpToSlots h')(hB:∀b o,(H' b≠none\/(h₀.get? b≠none/\b∉fs))->h.get? b=some o->B.get? b=some o)
  (hf:∀b∈fs,∀o,h₀.get? b=some o->∀vs,o.data≠.fields vs) (hfn:∀b∈fs,H₀ b=none):Un fs [] H₀ H' h₀ h' where
 keep:=λb o e n nf nx=>st b o (hB b o (.inr ⟨by rw[e];simp,nf⟩) (u.keep b o e n nf nx))
 slot:=λb o e n hb nx=>by
  obtain⟨sl,q⟩:=u.slot b o e n hb nx;obtain⟨sl',q'⟩:=us b _ q (hf b hb o e);exact⟨sl',q'⟩
 free:=u.free
 there:=λb o e nx=>by
  by_cases hb:b∈fs
  .obtain ⟨sl,q⟩:=u.slot b o e (hfn b hb) hb nx;obtain⟨sl',q'⟩:=us b _ q (hf b hb o e);exact⟨_,q'⟩
  .obtain ⟨o',q⟩:=u.there b o e nx;exact⟨o',st b o' (hB b o' (.inr ⟨by rw[e];simp,hb⟩) q)⟩
 tups:=u.tups
 frzs:=u.frzs
 tbls:=u.tbls
theorem zH7{P:Program}{w:World}{H':Hp}{B:Heap}(k:HOk P w H' h)(st:B.StaysIn h')(hB:∀b o,H' b≠none->h.get? b=some o->B.get? b=some o):HOk P w H' h':=λb u e=>
 (k b u e).stay (λc v hc q=>st c v (hB c v (by
  rcases hc with z|z
  .rw [z,e];simp
  .rw [z];simp) q)) (λ_ q=>q) λ_ _ q=>q
end
section
variable{P:Program}{w:World}{K:PySem.W.Frag}{mg:Str->Option Value}{base:Heap}{N:List Str}{qual:Str}{scope:Scope}{f:Addr}{cd:Value}{A:Around}{outer:List Env}{s:Shared}{H:Hp}{E E':XK}
theorem ua{pins:List (Addr×Obj)}{σ:St}{H1:Hp}{s1:Shared}{args:List Value}(I:Inv (aM (CX1 P w) P w K mg base N qual scope f cd A outer s H E) pins σ H1 s1)(hx:Heap.MadeExcOf s1.heap h' e (.ref C) args)(q:E (.ref C) none H1) :
  (aM (CX1 P w) P w K mg base N qual scope f cd A outer s H E).xe (.ref e) {s1 with heap:=h'}:=by
 have hfs:∀b∈frs (aM (CX1 P w) P w K mg base N qual scope f cd A outer s H E).stack,(nfr s1.heap (aM (CX1 P w) P w K mg base N qual scope f cd A outer s H E).stack).get? b=none:=λb hb=>sv hb;obtain⟨t,he,htn,ht⟩:=hx.there
 have old0:∀b,s1.heap.get? b=none->(nfr s1.heap (aM (CX1 P w) P w K mg base N qual scope f cd A outer s H E).stack).get? b=none:=λb z=>by
  cases q0:(nfr s1.heap (aM (CX1 P w) P w K mg base N qual scope f cd A outer s H E).stack).get? b with
  |none=>rfl
  |some o=>rw[dl _ _ b o q0]at z;cases z
 refine kZ (B:=nfr s1.heap (aM (CX1 P w) P w K mg base N qual scope f cd A outer s H E).stack) I.ok.frames ((fJ I.stack hfs).of_keeps λb o z _=>⟨o,hx.keeps b o z,rfl⟩) rfl he (λb o z=>hx.keeps b o (dl _ _ b o z)) (old0 e hx.new) rfl rfl rfl λh2 fl us=>?_;have st:=fl.1;have I2:Inv (aM (CX1 P w) P w K mg base N qual scope f cd A outer s H E) pins σ H1 {s1 with heap:=h',toks:=s1.toks}:=I.kept hx.keeps
 have old:∀b o,(H1 b≠none\/(s.heap.get? b≠none/\b∉frs outer))->h'.get? b=some o->(nfr s1.heap (aM (CX1 P w) P w K mg base N qual scope f cd A outer s H E).stack).get? b=some o:=λb o hc eo=>by
  have nst:b∉frs (aM (CX1 P w) P w K mg base N qual scope f cd A outer s H E).stack:=λz=>by
   rcases hc with y|⟨y1,y2⟩
   .exact y (I.stkFree b z)
   .rcases qAT.mp (I.stkSub b z)with y|y
    .cases q0:s.heap.get? b with
     |none=>exact y1 q0
     |some o0=>exact absurd (qAj (qAI q0) (by rw[y];exact I.ok.above)) (qA2 _)
    .exact y2 y
  rw[pA nst]
  have:∃o2,s1.heap.get? b=some o2:=by
   rcases hc with z|⟨z1,z2⟩
   .cases q0:H1 b with
    |none=>exact absurd q0 z
    |some u=>exact zFx (I.hok b u q0)
   .cases q0:s.heap.get? b with
    |none=>exact absurd q0 z1
    |some o0=>exact I.base.there b o0 q0 (by exact λz=>nomatch z)
  obtain⟨o2,e2⟩:=this;have e3:=hx.keeps b o2 e2;rw[eo]at e3;cases e3;exact e2
 refine⟨e,C,none,H1,_,rfl,fl,I.os,I.bare,gk I2.base st us old (λb hb o eo=>?_) (λb hb=>I.ok.frf b hb),zH7 I2.hok st λb o z=>old b o (.inl z),?_,?_,λb o hc eo=>?_,q⟩
 .obtain ⟨_,o',e',d⟩:=I.ok.funs.mem hb;have e':s.heap.get? b=some o':=e';rw[eo]at e';cases e';exact d
 .cases q0:H1 e with
  |none=>rfl
  |some u=>
   obtain⟨o2,e2⟩:=zFx (I.hok e u q0);rw[hx.new]at e2;cases e2
 .cases q0:s.heap.get? e with
  |none=>rfl
  |some o0=>
   obtain⟨o1,e1⟩:=I.base.there e o0 q0 (by exact λz=>nomatch z);rw[hx.new]at e1;cases e1
 .have eo:h2.get? b=some o:=eo
  have:∃o2,h'.get? b=some o2:=by
   rcases hc with z|⟨z1,z2⟩
   .cases q0:H1 b with
    |none=>exact absurd q0 z
    |some u=>exact zFx (I2.hok b u q0)
   .cases q0:s.heap.get? b with
    |none=>exact absurd q0 z1
    |some o0=>exact I2.base.there b o0 q0 (by exact λz=>nomatch z)
  obtain⟨o2,e2⟩:=this;have e3:=old b o2 hc e2;rw[st b o2 e3]at eo
  cases eo
  exact e3
end
theorem oS{K:PySem.W.Frag}{bmB:List Value}{newId:String}(X:K.In h)(q:PySem.W.excIn K C bmB newId=true) :
  ∃(bm:List Value)(N:Addr)(nm qn:Str)(bs:List Value)(hdct:Bool)(sn:List Str)(sub:List Value)(ab:Bool)(col:Option Bool)(dd:Option Addr)(k0 k1 k2 k3 k5:Option Value)(mN:Str->Option Value),
   h.get? C=some (excClassObj nm qn C N bs bm hdct sn sub ab col dd k0 k1 k2 k3 k5 newId)/\h.Ns N mN/\mN "__init__"=none/\OwnTail h bmB bm:=by
 unfold PySem.W.excIn at q;split at q
 case h_2=>cases q
 case h_1 dd cd sl ho=>
  split at q
  case h_2=>cases q
  case h_1 C1 bm k0 k1 k2 k3 n k5 hm hs=>
   simp only[qBS,qBQ,Bool.not_eq_true']at q;obtain⟨⟨⟨⟨⟨rfl,rfl⟩,nd⟩,tl⟩,ok⟩,ni⟩:=q
   cases cd
   dsimp only at hm nd ok ni;subst hm nd
   cases sl
   dsimp only at hs;subst hs;exact⟨_,_,_,_,_,_,_,_,_,_,_,_,_,_,_,_,_,X _ _ ho,.of_isNs (PySem.W.isNs_of_in X ok),PySem.W.nsMap_none_of_in X ok ni,PySem.W.tail_of_in X tl⟩
section
variable{X:Cx}{E:XK}{C:Addr}
def i6(X:Cx)(C:Addr)(E:XK):Prop:=∀(pins:List (Addr×Obj)) (σ:St) (H:Hp) (s:Shared) (h':Heap) (e:Addr) (us:List Value),Inv X pins σ H s->Heap.MadeExcOf s.heap h' e (.ref C) us->E (.ref C) none H->X.xe (.ref e) {s with heap:=h'}
def rO(E:XK)(C:Addr)(t:TA):TS:=λ_ σ H=>t σ H λvs H1=>vs.length<=sizeLine/\E (.ref C) none H1
abbrev iH:List Value:=[.type "ValueError",.type "Exception",.type "BaseException",.type "object"]
theorem zDk{np cpos pos:Pos}{a:Expr}{es:List Expr}{t:TA}(hx:i6 X C E)(hc:X.calm=true)(hg:Gl X x)(hm:X.mg x=some (.ref C))(q:PySem.W.excIn X.K C iH "ValueError.__new__"=true)(ha:PA X (a::es) t)
  (hd:(x==("__debug__": Str))=false:=by decide) (he:starEach (a::es) X.env=(false,eval a X.env)::starEach es X.env:=by rfl) (hpl:(backTo cpos (starEach es X.env)).any (·.1)=false:=by rfl) :
  PS X (.Raise (some (.Call (.Name x np) (a::es) [] cpos)) none pos) (rO E C t):=by
 intro pins s σ H D I h;obtain⟨bm,N,nm,qn,bs,hdct,sn,sub,ab,col,dd,k0,k1,k2,k3,k5,mN,hC,hN,hni,T⟩:=oS I.ok.mod.kin q;refine wpAny_Raise_call_subU F.excBase_ValueError (B:="ValueError") (C:=C) (nm:=nm) (q:=qn) (N:=N) (bs:=bs) (bm:=bm) (hdct:=hdct) (sn:=sn) (sub:=sub) (ab:=ab) (col:=col) (dd:=dd) (k0:=k0) (k1:=k1) (k2:=k2) (k3:=k3) (k5:=k5) (mN:=mN) (by decide +kernel) F.excBase_ValueError (T.hasType (by decide +kernel)) (I.ok.hd hc) ?_ hni (zFj I hg hm ?_ hd)
 .rw [he];show(false||(backTo cpos (starEach es X.env)).any (·.1))=false;rw[hpl];rfl
 refine⟨rfl,?_⟩;have ha':=ha cpos pins s σ H _ I h;rw[he]at ha' ⊢;refine Calls.evalArgs_plain (thn ha' λus s1 ⟨vs,H1,I1,r1,z,q1⟩=>?_);exact⟨rfl,by rw[<-r1.length];exact z,I1.bk _ _ hC,hN.keeps I1.bk,T.keeps I1.bk,λh' e mk=>hx pins σ H1 s1 h' e us I1 mk q1⟩
end
def gi(K:PySem.W.Frag)(C:Addr):List Value:=match K.lookup C with
 |some ⟨_,_,.cls cd,_⟩=>cd.mro
 |_=>[]
open PySem.W in
def cD(K:Frag)(C:Addr):Bool:=match K.lookup C with
 |none=>false
 |some o=>match o.cls,o.data,o.slots.toList with
  | .type y,.cls c,[_,_,_,_,some (.builtin n),_]=>y=="type" && c.mro.head?==some (.ref C)&&n=="ValueError.__new__" && !c.hasDel&&tailIn K iH c.mro.tail&&nsOkIn K c.ns
  |_,_,_=>false
open PySem.W in
theorem je{K:Frag}(q:excIn K C iH "ValueError.__new__"=true):cD K C=true:=by
 unfold excIn at q;split at q
 case h_2=>cases q
 case h_1 dd cd sl ho=>
  split at q
  case h_2=>cases q
  case h_1 C1 bm k0 k1 k2 k3 n k5 hm hs=>
   simp only[qBS,qBQ,Bool.not_eq_true']at q;obtain⟨⟨⟨⟨⟨rfl,rfl⟩,nd⟩,tl⟩,ok⟩,ni⟩:=q;unfold cD;rw[ho];simp only[hs,hm,nd,ok,List.head?_cons,List.tail_cons];rw[tl];simp
open PySem.W in
theorem lM{K:Frag}(X:K.In h)(q:cD K C=true) :
  ∃(bm:List Value)(N:Addr)(nm qn:Str)(bs:List Value)(hdct:Bool)(sn:List Str)(sub:List Value)(ab:Bool)(col:Option Bool)(dd:Option Addr)(k0 k1 k2 k3 k5:Option Value),
   h.get? C=some (excClassObj nm qn C N bs bm hdct sn sub ab col dd k0 k1 k2 k3 k5 "ValueError.__new__")/\OwnTail h iH bm/\gi K C= .ref C::bm:=by
 unfold cD at q;split at q
 case h_1=>cases q
 case h_2 o ho=>
  split at q
  case h_2=>cases q
  case h_1 y c k0 k1 k2 k3 n k5 hc hd hs=>
   simp only[qBS,qBQ,Bool.not_eq_true']at q;obtain⟨⟨⟨⟨⟨rfl,hm⟩,rfl⟩,nd⟩,tl⟩,ok⟩:=q
   have mk:gi K C=c.mro:=by
    unfold gi;rw[ho];obtain⟨o1,o2,o3,o4⟩:=o;have hd:o3= .cls c:=hd;subst hd;rfl
   obtain⟨o1,o2,o3,o4⟩:=o
   cases hc
   cases hd
   obtain⟨sl⟩:=o4;have hs:sl=_:=hs;subst hs;have at_:=X _ _ ho;have T:=tail_of_in X tl;obtain⟨c1,c2,c3,c4,c5,c6,c7,c8,c9,c10,c11⟩:=c;have hm:c3.head?=some (.ref C):=hm;have nd:c11=false:=nd;subst nd
   cases c3 with
   |nil=>cases hm
   |cons v bm=>
    cases hm
    exact⟨bm,c4,c1,c5,c2,c6,c7,c8,c9,c10,o2,k0,k1,k2,k3,k5,at_,T,mk⟩
section
variable{M:Model}{A:Around}{E:Value->Shared->Prop}{h:Heap}{g:Array GenState}{d:Drawn}{t:Nat}{os:OsState}
theorem kU{B NC NB:Addr}{nm qn nm' qn':Str}{bs bm bs' bm':List Value}{hdct hdct':Bool}{sn sn':List Str}{sub sub':List Value}{ab ab':Bool}{col col':Option Bool}{dd dd':Option Addr}{k0 k1 k2 k3 k5 j0 j1 j2 j3 j5:Option Value}{newId newId':String}{Q:Bool->Shared->Prop}{r:Bool}
  (hC:h.get? C=some (excClassObj nm qn C NC bs bm hdct sn sub ab col dd k0 k1 k2 k3 k5 newId)) (hB:h.get? B=some (excClassObj nm' qn' B NB bs' bm' hdct' sn' sub' ab' col' dd' j0 j1 j2 j3 j5 newId')) (he:h.get? e=some oe) (hcls:oe.cls= .ref C)
  (base:(Value.ref B::bm').contains (.type "BaseException")=true) (hr:(Value.ref C::bm).contains (.ref B)=r) (q:Q r ⟨h,g,d,t,os⟩):wpAny M A (excMatches (.ref e) (.ref B)) Q E ⟨h,g,d,t,os⟩:=by
 have f:=tc_notTuple;unfold excMatches
 repeat (first|(with_reducible refine wpAny_loadPart_at he ?_;rw[hcls])|with_reducible refine wpAny_loadPart_at hB ?_|(with_reducible refine wpAny_isSubtype_exc hB ?_;rw[base])|(with_reducible refine wpAny_isSubtype_exc hC ?_;rw[hr])|wp_step)
 cases r<;>(wp_walk;exact q)
end
abbrev Cx.tb(X:Cx)(pl:List (Addr×Obj))(ξ:Value->Shared->Prop):Cx:={X with pn:=X.pn++pl,xe:=ξ}
abbrev Cx.hnd(X:Cx)(a:Addr):Cx:={X with A:=X.A.mark (some (.ref a)),calm:=false,xe:=λ_ _=>False}
section
variable{X:Cx}{pins:List (Addr×Obj)}{σ:St}{H:Hp}{s:Shared}
theorem Inv.to_tb{ξ:Value->Shared->Prop}(I:Inv X pins σ H s):Inv (X.tb pins ξ) [] σ H s :=
 ⟨⟨I.ok.mod,I.ok.kind,I.ok.glob,I.ok.blt,I.ok.above,I.ok.inj,I.ok.has,I.ok.cab,I.ok.hd,I.ok.frames,I.ok.stk,I.ok.exf,I.ok.bs,I.ok.bsz,I.ok.noex,I.ok.exfs,I.ok.funs,I.ok.frf⟩,I.os,I.bare,I.base,I.loc,I.cell,I.free,I.freeC,λp hp=>I.pin p (by simpa using hp),I.hok,I.len⟩
theorem Inv.of_tb{ξ:Value->Shared->Prop}{pl:List (Addr×Obj)}(I:Inv (X.tb pl ξ) pins σ H s):Inv X pl σ H s :=
 ⟨⟨I.ok.mod,I.ok.kind,I.ok.glob,I.ok.blt,I.ok.above,I.ok.inj,I.ok.has,I.ok.cab,I.ok.hd,I.ok.frames,I.ok.stk,I.ok.exf,I.ok.bs,I.ok.bsz,I.ok.noex,I.ok.exfs,I.ok.funs,I.ok.frf⟩,I.os,I.bare,I.base,I.loc,I.cell,I.free,I.freeC,λp hp=>I.pin p (qAp _ hp),I.hok,I.len⟩
theorem Inv.to_hnd{a:Addr}(I:Inv X pins σ H s):Inv (X.hnd a) pins σ H s :=
 ⟨⟨I.ok.mod,I.ok.kind,I.ok.glob,I.ok.blt,I.ok.above,I.ok.inj,I.ok.has,I.ok.cab,(λz=>nomatch z),I.ok.frames,I.ok.stk,I.ok.exf,I.ok.bs,I.ok.bsz,I.ok.noex,I.ok.exfs,I.ok.funs,I.ok.frf⟩,I.os,I.bare,I.base,I.loc,I.cell,I.free,I.freeC,I.pin,I.hok,I.len⟩
theorem Inv.of_hnd(I:Inv (X.hnd a) pins σ H s)(hd:X.calm=true->X.A.handled=none):Inv X pins σ H s :=
 ⟨⟨I.ok.mod,I.ok.kind,I.ok.glob,I.ok.blt,I.ok.above,I.ok.inj,I.ok.has,I.ok.cab,hd,I.ok.frames,I.ok.stk,I.ok.exf,I.ok.bs,I.ok.bsz,I.ok.noex,I.ok.exfs,I.ok.funs,I.ok.frf⟩,I.os,I.bare,I.base,I.loc,I.cell,I.free,I.freeC,I.pin,I.hok,I.len⟩
theorem Inv.track(I:Inv X pins σ H s)(n:H a=none)(n0:X.s₀.heap.get? a=none)(hL:a≠X.env.locals)(hc:∀x c,X.env.cells.lookup x=some c->c≠a)(hp:∀p∈X.pn++pins,p.1≠a)(ob:zBq X.prog X.w (upd H a o) s.heap a o):Inv X pins σ (upd H a o) s:=by
 refine⟨I.ok,I.os,I.bare,⟨I.base.keep,I.base.slot,λb u e m hx=>?_,I.base.there,λb xs e=>?_,λb u v e=>?_,λb ps e=>?_⟩,I.loc,I.cell,?_,λx c e=>?_,λp q=>?_,λb u e=>?_,I.len⟩
 .have:b≠a:=λz=>by rw[z,n0]at e;cases e
  rw[ad this];exact I.base.free b u e m hx
 .have h1:=I.base.tups b xs e;rw[ad (zAm h1 n)];exact h1
 .have h1:=I.base.frzs b u v e;rw[ad (zAm h1 n)];exact h1
 .obtain ⟨more,h1⟩:=I.base.tbls b ps e;exact⟨more,by rw[ad (zAm h1 n)];exact h1⟩
 .rw [ad (qAh hL)];exact I.free
 .rw [ad (hc x c e)];exact I.freeC x c e
 .obtain ⟨p1,p2,p3⟩:=I.pin p q;exact⟨p1,by rw[ad (hp p q)];exact p2,p3⟩
 .by_cases hb:b=a
  .subst hb;rw[ac]at e;cases e;exact ob
  .rw [ad hb]at e;refine(I.hok b u e).stay (λ_ _ _ q=>q) (λc q=>?_) λc xs q=>?_
   .rw [ad (zAm q n)];exact q
   .rw [ad (zAm q n)];exact q
end
section
variable{X:Cx}{pins:List (Addr×Obj)}{σ:St}{H:Hp}{s:Shared}
theorem Inv.gone{i:Nat}{m:Str->Option Value}{u:Option Value}{tk:Nat}(I:Inv X pins σ H s)(hN:X.N.Nodup)(hi:X.N[i]?=some x)
  (hm:s.heap.Ns X.env.locals m/\∀(j:Nat)(y:Str)(v:V),X.N[j]?=some y->σ[j]?=some (some v)->Vis X.env.scope y->∃w,am v w/\uk X.env s.heap m y w) (hn:h'.Ns X.env.locals (λy=>if y=x then u else m y)) (hs:Heap.SameBut X.env.locals s.heap h') :
  Inv X pins (σ.set i none) H {s with heap:=h',toks:=tk}:=by
 obtain⟨_,hl⟩:=hm;have old:∀b o,X.s₀.heap.get? b=some o->b≠X.env.locals:=λb o e=>qAQ (qAj (qAI e) I.ok.above);have iσ:i<σ.length:=by rw[I.len];exact(qAL.mp hi).1
 refine⟨I.ok,I.os,I.bare,⟨λb o e n hb hx=>(hs.2 b (old b o e)).trans (I.base.keep b o e n hb hx),λb o e n hb hx=>?_,I.base.free,λb o e hx=>?_,I.base.tups,I.base.frzs,I.base.tbls⟩,⟨_,hn,λj y v e1 e2 e3=>?_⟩,λy c e=>?_,I.free,I.freeC,λp hp=>?_,λb ob e=>?_,by simpa using I.len⟩
 .obtain ⟨sl,q⟩:=I.base.slot b o e n hb hx;exact⟨sl,(hs.2 b (old b o e)).trans q⟩
 .obtain ⟨o2,q⟩:=I.base.there b o e hx;exact⟨o2,(hs.2 b (old b o e)).trans q⟩
 .have ji:j≠i:=λz=>by
   subst z;rw[qCE iσ]at e2
   cases e2
  rw[qCl (qAh ji)]at e2;obtain⟨w,r,q⟩:=hl j y v e1 e2 e3;have yx:y≠x:=λz=>ji (zJn hN e1 (z▸hi));refine⟨w,r,?_⟩;rcases q with⟨k,e⟩|⟨k,c,e,z⟩
  .exact .inl ⟨k,by simp[yx,e]⟩
  .exact .inr ⟨k,c,e,z.sameBut hs (I.cne y c e)⟩
 .obtain ⟨w,z⟩:=I.cell y c e;exact⟨w,z.sameBut hs (I.cne y c e)⟩
 .obtain ⟨p1,p2,p3,p4,p5⟩:=I.pin p hp;exact⟨(hs.2 p.1 p3).trans p1,p2,p3,p4,p5⟩
 .refine (I.hok b ob e).stay (λc w hc q=>(hs.2 c ?_).trans q) (λ_ q=>q) λ_ _ q=>q;rintro rfl;rcases hc with rfl|hc
  .rw [I.free]at e;cases e
  .rw [I.free]at hc;cases hc
theorem zFz{M:Model}{A:Around}{E:Value->Shared->Prop}{i:Nat}{Q:Unit->Shared->Prop}(I:Inv X pins σ H s)(hN:X.N.Nodup)(hi:X.N[i]?=some x)(hk:X.env.kindOf x=some .local)(h:∀s',Inv X pins (σ.set i none) H s'->Q () s') :
  wpAny M A (do bindName X.env x .none;unbindBehindTheSuite X.env x pos) Q E s:=by
 have hcls:(X.env.scope.kind== .class||(X.env.scope.kind== .module&&X.env.locals != X.env.globals))=false:=by rw[I.ok.kind];rfl
 refine qAA (wpAny_bindName (zG1 (v:=.non) (u:=.none) I hN hi (.inl hk) rfl (λs1 I1=>?_) (.inr hk)));unfold unbindBehindTheSuite;refine wpAny_onRaise ?_;obtain⟨m,hn,hl⟩:=id I1.loc;have iσ:i<σ.length:=by rw[I.len];exact(qAL.mp hi).1
 obtain⟨w,r,q⟩:=hl i x .non hi (by rw[qCE iσ]) (.inl hk)
 have hv:m x=some w:=by
  rcases q with⟨_,e⟩|⟨z,_⟩
  .exact e
  .rw [hk]at z;rcases z with z|z<;>cases z
 refine wpAny_unbindName_local hk hn hv hcls λh' u hn' hs=>?_;have:=Inv.gone (tk:=s1.toks) I1 hN hi ⟨hn,hl⟩ hn' hs;rw[List.set_set]at this;exact h _ this
def bC(a C:Addr)(dd:Option Addr):HO:=.ext λh=>∃o,h.get? a=some o/\o.cls= .ref C/\o.dict=dd/\∃vs,o.data= .fields vs/\vs[2]?=some .none
theorem qA{P:Program}{w:World}{dd:Option Addr}(x:∃o,h.get? a=some o/\o.cls= .ref C/\o.dict=dd/\∃vs,o.data= .fields vs/\vs[2]?=some .none):zBq P w H h a (bC a C dd):=by
 obtain⟨o,e,c⟩:=x;exact⟨⟨o,e,c⟩,⟨o,e⟩,λh1 h2 ⟨o1,e1,c1⟩ k=>⟨o1,k o1 e1,c1⟩⟩
end
def gq(CX:CXT)(X:Cx)(E:St->XK):Prop:=∀(pins:List (Addr×Obj)) (σ:St) (H:Hp) (s:Shared) (e:Value) (s':Shared),Inv X pins σ H s->CX X.stack H s (E σ) e s'->X.xe e s'
def uJ(i:Nat)(D:a_):a_:={nx:=λσ H=>D.nx (σ.set i none) H,rt:=D.rt,bk:=λσ H=>D.bk (σ.set i none) H,ct:=λσ H=>D.ct (σ.set i none) H}
def vw(K:PySem.W.Frag)(Cb:Addr)(i:Nat)(tb:(St->XK)->TS)(th:Addr->TS):TS:=λD σ H=>
 tb (λσ' c dd H'=>∃C,c= .ref C/\cD K C=true/\(gi K C).contains (.ref Cb)=true/\∀a,H' a=none->th a (uJ i D) (σ'.set i (some (.ref a))) (upd H' a (bC a C dd))) D σ H
section
variable{X:Cx}
theorem uo{pl:List (Addr×Obj)}{ξ:Value->Shared->Prop}{D:a_}{f:Flow}{s':Shared}{pins:List (Addr×Obj)}(h:SP (X.tb pl ξ) pins D f s'):SP X pl D f s':=by
 cases f with
 |next=>obtain⟨σ',H',I,q⟩:=h;exact⟨σ',H',I.of_tb,q⟩
 |brk=>obtain⟨σ',H',I,q⟩:=h;exact⟨σ',H',I.of_tb,q⟩
 |cont=>obtain⟨σ',H',I,q⟩:=h;exact⟨σ',H',I.of_tb,q⟩
 |ret u=>obtain⟨v,σ',H',I,r,q⟩:=h;exact⟨v,σ',H',I.of_tb,r,q⟩
theorem oi{CX:CXT}{k:Nat}{f:Addr}{fd:FuncData}{ps:List Str}{sp:Sp}{E:St->XK}{p pos:Pos}{e:Expr}{es:List Expr}{t:TA}(F:ak X.prog X.w X.K X.mg X.base CX k f fd ps sp)(hr:aB k X.A)(hg:Gl X x)(hm:X.mg x=some (.ref f))(hk:PySem.W.keepIn X.K (.ref f)=true)(hb:zDe X.K fd ps [])(hx:gq CX X E)
  (ha:PA X (e::es) t) (hdb:(x==("__debug__": Str))=false:=by decide) (he:starEach (e::es) X.env=(false,eval e X.env)::starEach es X.env:=by rfl) (hpl:(backTo pos (starEach es X.env)).any (·.1)=false:=by rfl) :
  PE X (.Call (.Name x p) (e::es) [] pos) (λσ H Q=>t σ H λvs H1=>sp vs H1 Q (E σ)):=by
 intro pins s σ H Q I h;refine qCG (zFj I hg hm ?_ hdb);refine qCW (h₀:=X.base) I.ok.mod.kin hk (thn (ha pos pins s σ H _ I h) λus s1 ⟨vs,H1,I1,r,q⟩=>⟨I1.kIn,?_⟩) he hpl;have hl:us.length=ps.length:=by rw[<-r.length];exact F.len _ _ _ _ q
 have bd:=hb s1 us I1.kIn (by rw[qAm];exact hl);rw[qAm]at bd;refine qCF (qBf (F.run X.A X.stack s1 H1 ⟨us,[]⟩ us vs Q (E σ) hr I1.env0 bd r q) λrr s' hq=>?_)
 cases rr with
 |error x=>exact hx pins σ H1 s1 x s' I1 hq
 |ok fl=>
  cases fl with
  |ret u=>exact I1.after hq
  |next=>exact hq.elim
  |brk=>exact hq.elim
  |cont=>exact hq.elim
end
section
variable{P:Program}{w:World}{K:PySem.W.Frag}{mg:Str->Option Value}{base:Heap}
theorem Fun.okX{qual:Str}{st:Stmt}{f:Addr}{fd:FuncData}{N ps:List Str}{k:Nat}{sp:Sp}(F:Fun K x qual st f fd)(S:ag N ps (zAg st))(len:∀vs H Q E,sp vs H Q E->vs.length=ps.length)
  (hbody:∀(cdv:Value) (A:Around) (outer:List Env) (s:Shared) (H:Hp) (vs:List V) (Q:VK) (E:XK),aB k (A.deeper (envOfC qual (zAg st) s.heap.objs.size f cdv))->sp vs H Q E ->
   ∃t,PSs (aM (CX1 P w) P w K mg base N qual (zAg st) f cdv A outer s H E) (zCt st) t/\t {nx:=λ_ H'=>Q .non H',rt:=Q} (start N vs) H):ak P w K mg base (CX1 P w) (k+1) f fd ps sp:=by
 obtain⟨oc,od,kV,doc,pm,an,cdv,ct,osl,rfl,lk,hcd⟩:=F.ex;exact qN lk hcd S len λA outer s H vs Q E hr hsp=>hbody cdv A outer s H vs Q E hr hsp
theorem zGq{N:List Str}{qual:Str}{scope:Scope}{f:Addr}{cd:Value}{A:Around}{outer:List Env}{s:Shared}{E:XK}:i6 (aM (CX1 P w) P w K mg base N qual scope f cd A outer s H E) C E:=λ_ _ _ _ _ _ _ I hx q=>ua I hx q
end
end L2
namespace L2
open PySem PySem.Spec PyProof.Rows PySem.W PySem.Builtin PySem.Builtin.ObjectAttr PySem.Builtin.Getset_descriptor
section
variable{prog:Program}{w:World}{A:Around}{E:Value->Shared->Prop}{s:Shared}{K:PySem.W.Frag}{x C:Addr}{R:Result->Shared->Prop}
theorem pM{tp:Value}(X:K.In s.heap)(L0:Looks (model prog w) s.heap (typeOf (.ref x)) (.ref C))(hm:mroIn K C (.type "object")=some true)(h:R (.ok (.ret (.ref C))) s) :
  codeAny (model prog w) A (.call (.builtin "getset_descriptor.__get__") ⟨[.builtin "object.__class__",.ref x,tp],[]⟩) R s:=by
 obtain⟨h0,g,d,t,os⟩:=s;have L1:=looks_mroIn (M:=model prog w) X hm;refine qDJ KF.slot_gs.plain KF.entry_gs (KF.slot_gs.check _ _ _ _ _ _ _ _ KF.type_class (KF.args_gs _ _ _) ?_);unfold Builtin.«getset_descriptor.__get__» descrGet;rw[dga_obj];refine qAA (qAE ?_);unfold descrGetter descrCheckInstance descrNameAndClass isInstance;simp only[KF.owner_class]
 repeat lk
 refine⟨Code.quiet_builtin _ (by decide +kernel),qBv KF.entry_class ?_⟩;unfold Builtin.«object.__class__» shownTypeOf
 repeat lk
 exact h
theorem r_{tk:Tok}(X:K.In s.heap)(L0:Looks (model prog w) s.heap (typeOf (.ref x)) (.ref C))(hm:mroIn K C (.type "object")=some true)(hb:mroIn K C (.type "BaseException")=some true)
  (gc:findIn K (.ref C) "__class__"=some (some (.builtin "object.__class__"))) (hn:specialIn K (.builtin "object.__class__") "__get__"=some (some (.builtin "getset_descriptor.__get__"))) (htk:takesIn K (.builtin "object.__class__")=some true) (h:R (.ok (.ret (.ref C))) s) :
  codeAny (model prog w) A (.call (.builtin "BaseException.__getattribute__") ⟨[.ref x,.str "__class__" tk],[]⟩) R s:=by
 obtain⟨h0,g,d,t,os⟩:=s;have L1:=looks_mroIn (M:=model prog w) X hb;have L2:=looks_findIn (M:=model prog w) X gc;have L3:=looks_specialIn (M:=model prog w) X hn;have L4:=looks_takesIn (M:=model prog w) X htk;have hk:builtinKind "BaseException.__getattribute__"=some .slot:=by decide +kernel
 have hsplit:splitId "BaseException.__getattribute__"=some ("BaseException","__getattribute__"):=by decide +kernel
 have ha:=F.args_bexc_ga (.ref x) (.str "__class__" tk);refine qDJ (by decide +kernel) F.entry_bexc_ga ?_;simp only[checkBuiltinCall,hk,hsplit];refine qAA ?_;unfold isInstance;refine(L0.andThen L1).at ?_;simp only[Bool.not_true,qCe,qB7]
 have go:wpAny (model prog w) A.in1 (Builtin.«object.__getattribute__» ⟨[.ref x,.str "__class__" tk],[]⟩) (λfin s'=>match fin with
   | .done f=>R (.ok f) s'
   | .again c'=>c'.quiet=true/\codeAny (model prog w) A c' R s') (λe s'=>R (.error e) s') ⟨h0,g,d,t,os⟩:=by
  unfold Builtin.«object.__getattribute__»
  repeat lk
  show wpAny _ _ (run (.call (.builtin "getset_descriptor.__get__") ⟨[.builtin "object.__class__",.ref x,.ref C],[]⟩)) _ _ _;exact wpAny_run (pM X L0 hm (qAE (qAE h)))
 unfold argsOk at ha
 cases hs:Manifest.signature? "BaseException.__getattribute__" with
 |none=>exact qAE go
 |some sig=>
  rw[hs]at ha;simp only at ha ⊢;rw[ha];exact qAE go
theorem k_{Q:Option Value->Shared->Prop}(X:K.In s.heap)(L0:Looks (model prog w) s.heap (typeOf (.ref x)) (.ref C))(hm:mroIn K C (.type "object")=some true)(hb:mroIn K C (.type "BaseException")=some true)(ga:findIn K (.ref C) "__getattribute__"=some (some (.builtin "BaseException.__getattribute__")))(gn:findIn K (.ref C) "__getattr__"=some none)
  (gc:findIn K (.ref C) "__class__"=some (some (.builtin "object.__class__"))) (hn:specialIn K (.builtin "object.__class__") "__get__"=some (some (.builtin "getset_descriptor.__get__"))) (htk:takesIn K (.builtin "object.__class__")=some true) (h:Q (some (.ref C)) {s with toks:=s.toks+1}) :
  wpAny (model prog w) A (getAttr? (.ref x) "__class__") Q E s:=by
 obtain⟨h0,g,d,t,os⟩:=s;have L1:=looks_findIn (M:=model prog w) X ga;have L2:=looks_findIn (M:=model prog w) X gn;have f3:=F.excAttr_ValueError.ga.bind (.ref x);unfold getAttr? getAttrBy? getAttrBy;refine qAA (wpAny_mkText (qAA (qB9 (qAy (qAA (L0.at (qAA (L1.at ?_))))))));show wpAny _ _ (getAttrByItsOwn _ _ _ _ _ _) _ _ _;unfold getAttrByItsOwn;unfold hookBefore;refine qAA ?_;rw[qAC (show onTheHeap (Value.ref C)=true from rfl)];refine L2.at ?_;refine qAA (qB9 (qAy ?_));unfold callGetattribute;rw[qAB (by simp)];unfold boundAndCalled;rw[f3];refine qAA (qAE ?_);refine qCF (r_ (s:=⟨h0,g,d,t+1,os⟩) X L0 hm hb gc hn htk ?_);exact qAE (qAE h)
def zFb(K:PySem.W.Frag)(C:Addr):Bool:=(mroIn K C (.type "object")==some true)&&(mroIn K C (.type "BaseException")==some true)&&(findIn K (.ref C) "__getattribute__"== some (some (.builtin "BaseException.__getattribute__")))&&(findIn K (.ref C) "__getattr__"== some none) &&
 (findIn K (.ref C) "__class__"== some (some (.builtin "object.__class__")))&&(specialIn K (.builtin "object.__class__") "__get__"== some (some (.builtin "getset_descriptor.__get__")))&&(takesIn K (.builtin "object.__class__")==some true)&&(clsIn K C).isSome
theorem zJs(q:zFb K C=true):KitX K (.ref x) (.ref C) (λh=>∃o,h.get? x=some o/\o.cls= .ref C):=by
 unfold zFb at q;simp only[qBS,qBQ]at q;obtain⟨⟨⟨⟨⟨⟨⟨hm,hb⟩,ga⟩,gn⟩,gc⟩,hn⟩,htk⟩,hc⟩:=q;have ty:∀(M:Model)(h:Heap),(∃o,h.get? x=some o/\o.cls= .ref C)->Looks M h (typeOf (.ref x)) (.ref C):=λM h ⟨o,e1,e2⟩=>e2▸(Looks.ld e1).andThen .now;refine⟨λM h _ p=>ty M h p,λM h X _=>?_,λh tp dd its n sl X htp=>?_,λX p k=>k_ X (ty _ _ p) hm hb ga gn gc hn htk k⟩
 .unfold clsIn at hc;split at hc
  case h_1 c1 d1 cd1 sl1 ho=>
   intro A1 Q1 E1 s1 k q;unfold isType loadHead;exact qAA (wpAny_loadPart (k _ _ (X _ _ ho)) (qAE q))
  case h_2=>cases hc
 .refine Bool.eq_false_iff.mpr λz=>?_;have e:C=tp:=Value.ref.inj (qBQ.mp z);subst e;unfold clsIn at hc;split at hc
  case h_1 c1 d1 cd1 sl1 ho=>
   have z:=(X _ _ ho).symm.trans htp
   cases z
  case h_2=>cases hc
end
section
variable{X:Cx}
theorem dW{pins:List (Addr×Obj)}{σ:St}{H:Hp}{s:Shared}{a C:Addr}{dd:Option Addr}(I:Inv X pins σ H s)(e:H a=some (bC a C dd)):∃o,s.heap.get? a=some o/\o.cls= .ref C :=
 let⟨o,e1,e2,_⟩:=(I.hok a _ e).1
 ⟨o,e1,e2⟩
theorem lT:zCz X (.builtin "isinstance") (λxs H Q=>∃a C dd D b,xs=[.ref a,.ref D]/\H a=some (bC a C dd)/\zFb X.K C=true/\PySem.W.kitOne X.K (.ref C) (.ref D)=some b/\Q (.bl b) H):=by
 intro pins s σ H xs us Q I rv h;obtain⟨a,C,dd,D,b,rfl,e,k,kb,q⟩:=h;obtain⟨u,v,rfl,ru,rw1⟩:=rv.two
 cases ru
 cases rw1
 exact qA8 (zJs k) I.kIn (dW I e) kb (λz=>nomatch z) λtk=>⟨.bl b,H,I.tok tk,rfl,q⟩
theorem kG:zCz X (.builtin "isinstance") (λxs H Q=>∃a C dd n b,xs=[.ref a,.ty n]/\H a=some (bC a C dd)/\zFb X.K C=true/\PySem.W.kitOne X.K (.ref C) (.type n)=some b/\Q (.bl b) H):=by
 intro pins s σ H xs us Q I rv h;obtain⟨a,C,dd,D,b,rfl,e,k,kb,q⟩:=h;obtain⟨u,v,rfl,ru,rw1⟩:=rv.two
 cases ru
 cases rw1
 exact qA8 (zJs k) I.kIn (dW I e) kb (λz=>nomatch z) λtk=>⟨.bl b,H,I.tok tk,rfl,q⟩
theorem pI:∀{Ds:List Addr}{its:List Value},aj (Ds.map V.ref) its->its=Ds.map Value.ref:=by
 intro Ds
 induction Ds with
 |nil=>intro its r;cases r;rfl
 |cons D Ds ih=>
  intro its r
  cases r with
  |cons r1 r2=>
   cases r1
   rw[ih r2];rfl
theorem kK:zCz X (.builtin "isinstance") (λxs H Q=>∃a C dd t b,∃Ds:List Addr,xs=[.ref a,.ref t]/\H a=some (bC a C dd)/\H t=some (.tup (Ds.map V.ref))/\zFb X.K C=true/\PySem.W.kitAny X.K (.ref C) (Ds.map Value.ref)=some b/\Q (.bl b) H):=by
 intro pins s σ H xs us Q I rv h;obtain⟨a,C,dd,t,b,Ds,rfl,e,et,k,kb,q⟩:=h;obtain⟨u,v,rfl,ru,rw1⟩:=rv.two
 cases ru
 cases rw1
 obtain⟨_,its,r,o,ho,hc,n,hd⟩:=(show zBq X.prog X.w H s.heap t (.tup (Ds.map V.ref))from I.hok t _ et);obtain⟨c1,d1,dt,sl⟩:=o;have hc:c1= .type "tuple":= hc;have hd:dt= .seq its.toArray n:=hd;subst hc hd;have ei:=pI r;subst ei;exact PySem.W.kia_tup (zJs k) I.kIn (dW I e) ho kb (λz=>nomatch z) λtk=>⟨.bl b,H,I.tok tk,rfl,q⟩
end
end L2
namespace L2
open PySem PySem.Spec PyProof.Rows
variable{X:Cx}
structure Flt(P:Program)(w:World)(stack:List Env)(ch:List Addr)(H:Hp)(s:Shared)(a C:Addr)(dd:Option Addr)(H':Hp)(s':Shared):Prop where
 ex:∃B:Heap,FlD B stack a (.ref C) dd s'.heap/\∀b o,(H' b≠none\/(s.heap.get? b≠none/\b∉frs stack/\b∉ch))->s'.heap.get? b=some o->B.get? b=some o
 os:s'.os=s.os
 bare:AllBare s'.gens
 un:Un (frs stack) ch H H' s.heap s'.heap
 hok:HOk P w H' s'.heap
 na:H' a=none
 ng:s.heap.get? a=none\/a∈ch
def uy(X:Cx)(pins:List (Addr×Obj))(ch:List Addr):Prop:=∀b∈ch,(b∈X.ex\/X.s₀.heap.objs.size<=b)/\b≠X.env.locals/\(∀x c,X.env.cells.lookup x=some c->c≠b)/\∀p∈X.pn++pins,p.1≠b
def zGb(X:Cx)(E:St->XK):Prop:=∀(pins:List (Addr×Obj)) (σ:St) (H:Hp) (s:Shared) (ch:List Addr) (a C:Addr) (dd:Option Addr) (H':Hp) (s':Shared),Inv X pins σ H s->uy X pins ch->Flt X.prog X.w X.stack ch H s a C dd H' s'->E σ (.ref C) dd H'->X.xe (.ref a) s'
theorem Inv.landC{pins:List (Addr×Obj)}{σ:St}{H H':Hp}{s s':Shared}{h' B:Heap}{ch:List Addr}(I:Inv X pins σ H s)(hch:uy X pins ch)(os:s'.os=s.os)(bare:AllBare s'.gens)(un:Un (frs X.stack) ch H H' s.heap s'.heap)(hok:HOk X.prog X.w H' s'.heap)
  (hB:∀b o,(H' b≠none\/(s.heap.get? b≠none/\b∉frs X.stack/\b∉ch))->s'.heap.get? b=some o->B.get? b=some o) (st:B.StaysIn h') (us:s'.heap.UpToSlots h'):Inv X pins σ H' {s' with heap:=h'}:=by
 have fr:∀b∈frs X.stack,b∉ch->∀o,s.heap.get? b=some o->∃sl,h'.get? b=some {o with slots:=sl}:=λb hb nc o e=>by
  obtain⟨sl,q⟩:=un.slot b o e (I.stkFree b hb) hb nc;obtain⟨_,o1,e1,d1⟩:=I.stack.mem hb;rw[e]at e1;cases e1;obtain⟨sl2,q2⟩:=us b _ q d1;exact⟨sl2,q2⟩
 have out:∀b o,b∉frs X.stack->b∉ch->s.heap.get? b=some o->H b=none->h'.get? b=some o:=λb o nb nc e n=>st b o (hB b o (.inr ⟨by rw[e];simp,nb,nc⟩) (un.keep b o e n nb nc))
 have J:Inv X pins σ H' {s with heap:=h',gens:=s'.gens,drawn:=s'.drawn,toks:=s'.toks}:=by
  refine I.step (g':=s'.gens) (d':=s'.drawn) (t':=s'.toks) (ch:=ch) hch (λb o nL nf nc e n=>?_) (λb o nL bf nc e n=>?_) (λb o nc e n=>un.free b o e n nc) (λb o nc e=>?_) un.tups un.frzs un.tbls (λm hm=>?_)
   (zH7 hok st λb o z=>hB b o (.inl z)) bare
  .exact out b o (λz=>(qAT.mp (I.stkSub b z)).elim nL nf) nc e n
  .by_cases hb:b∈frs X.stack
   .exact fr b hb nc o e
   .exact ⟨o.slots,out b o hb nc e n⟩
  .by_cases hb:b∈frs X.stack
   .obtain ⟨sl,q⟩:=fr b hb nc o e;exact⟨_,q⟩
   .obtain ⟨o1,q⟩:=un.there b o e nc;exact⟨o1,st b o1 (hB b o1 (.inr ⟨by rw[e];simp,hb,nc⟩) q)⟩
  .have nc:X.env.locals∉ch:=λz=>(hch _ z).2.1 rfl;obtain⟨o,es,ep,ho,r⟩:=hm
   by_cases hb:X.env.locals∈frs X.stack
   .obtain ⟨sl,q⟩:=fr _ hb nc o ho;exact⟨_,es,ep,q,r⟩
   .exact ⟨o,es,ep,out _ o hb nc ho I.free,r⟩
 have e:({s' with heap:=h'}:Shared)={s with heap:=h',gens:=s'.gens,drawn:=s'.drawn,toks:=s'.toks}:=by
  cases s'
  simp only at os;subst os;rfl
 rw[e];exact J
theorem zGb.at{E:St->XK}(p:zGb X E):gq (CX1 X.prog X.w) X E:=by
 intro pins σ H s e s' I h;obtain⟨a,C,dd,H',B,rfl,fl,os,bare,un,hok,na,ng,hB,q⟩:=h;exact p pins σ H s [] a C dd H' s' I (λb z=>nomatch z) ⟨⟨B,fl,λb o z=>hB b o (z.imp id λy=>⟨y.1,y.2.1⟩)⟩,os,bare,un,hok,na,.inl ng⟩ q
section
variable{P:Program}{w:World}{K:PySem.W.Frag}{mg:Str->Option Value}{base:Heap}{N:List Str}{qual:Str}{scope:Scope}{f:Addr}{cd:Value}{A:Around}{outer:List Env}{s:Shared}{H:Hp}{E:XK}{E':St->XK}
theorem jj(hE:∀σ c d H',E' σ c d H'->E c d H'):zGb (aM (CX1 P w) P w K mg base N qual scope f cd A outer s H E) E':=by
 intro pins σ H1 s1 ch a C dd H' s2 I hch h q;obtain⟨⟨B,fl,hB⟩,os,bare,un,hok,na,ng⟩:=h;have I2:Inv (aM (CX1 P w) P w K mg base N qual scope f cd A outer s H E) pins σ H' s2:=I.call' os un hok bare hch;refine iK I.ok.frames rfl fl λh' fl' us=>?_;have st:=fl'.1;have none0:∀b:Addr,b∉(aM (CX1 P w) P w K mg base N qual scope f cd A outer s H E).ex:=λb z=>nomatch z
 have oldB:∀b o,(H' b≠none\/(s.heap.get? b≠none/\b∉frs outer))->s2.heap.get? b=some o->B.get? b=some o:=λb o hc e=>by
  refine hB b o ?_ e;rcases hc with z|⟨z1,z2⟩
  .exact .inl z
  .cases q0:s.heap.get? b with
   |none=>exact absurd q0 z1
   |some o0=>
    obtain⟨o1,e1⟩:=I.base.there b o0 q0 (none0 b);refine .inr ⟨by rw[e1];simp,λz=>?_,λz=>?_⟩
    .rcases qAT.mp (I.stkSub b z)with y|y
     .exact absurd (qAj (qAI q0) (by rw[y];exact I.ok.above)) (qA2 _)
     .exact z2 y
    .rcases (hch b z).1 with y|y
     .exact none0 b y
     .exact absurd (qAj (qAI q0) y) (qA2 _)
 refine⟨a,C,dd,H',B,rfl,fl',I2.os,bare,gk I2.base st us oldB (λb hb o e=>?_) (λb hb=>I.ok.frf b hb),zH7 hok st λb o z=>oldB b o (.inl z),na,?_,λb o hc e=>?_,hE _ _ _ _ q⟩
 .obtain ⟨_,o',e',d⟩:=I.ok.funs.mem hb;have e':s.heap.get? b=some o':=e';rw[e]at e';cases e';exact d
 .cases q0:s.heap.get? a with
  |none=>rfl
  |some o0=>
   obtain⟨o1,e1⟩:=I.base.there a o0 q0 (none0 a);rcases ng with ng|ng
   .rw [ng]at e1;cases e1
   .rcases (hch a ng).1 with y|y
    .exact absurd y (none0 a)
    .exact absurd (qAj (qAI q0) y) (qA2 _)
 .have e:h'.get? b=some o:=e
  have:∃o2,s2.heap.get? b=some o2:=by
   rcases hc with z|⟨z1,z2⟩
   .cases q0:H' b with
    |none=>exact absurd q0 z
    |some u=>exact zFx (hok b u q0)
   .cases q0:s.heap.get? b with
    |none=>exact absurd q0 z1
    |some o0=>exact I2.base.there b o0 q0 (none0 b)
  obtain⟨o2,e2⟩:=this;have e3:=oldB b o2 hc e2;rw[st b o2 e3]at e
  cases e
  exact e3
end
section
variable{X:Cx}
theorem pz{body:List Stmt}{b₀:Stmt}{suite:List Stmt}{cx n:Str}{np hpos pos:Pos}{i:Nat}{Cb:Addr}{tb:(St->XK)->TS}{th:Addr->TS}(hex:X.ex=[])(hstk:X.stack=X.env::X.outer)(hfr:X.env.frame=some X.env.locals)(hc:X.calm=true)(hN:X.N.Nodup)(hi:X.N[i]?=some n)(hl:X.env.kindOf n=some .local)
  (hg:Gl X cx) (hm:X.mg cx=some (.ref Cb)) (qb:cD X.K Cb=true) (hb:∀pl ξ E,zGb (X.tb pl ξ) E->PassesOwn (model X.prog X.w) X.A X.env ξ->PSs (X.tb pl ξ) body (tb E)) (hh:∀a,PSs (X.hnd a) (b₀::suite) (th a))
  (hd:(cx==("__debug__": Str))=false:=by decide):PS X (.Try body [.ExceptHandler (some (.Name cx np)) (some n) (b₀::suite) hpos] [] [] pos) (vw X.K Cb i tb th):=by
 intro pins s σ H D I h;have hk:X.calm=true->X.A.handled=none:=I.ok.hd;refine wpAny_Try_except ?_;refine qAv (hb pins _ _ ?_ ?_ [] s σ H D I.to_tb h) (λf s1 q=>?_) λe s1 q=>q
 rotate_left
 .exact PassesOwn.looking
 .have q:=uo q
  cases f with
  |next=>exact qCS q
  |brk=>exact q
  |cont=>exact q
  |ret u=>exact q
 intro pins' σ1 H1 s1 ch a C dd H' s2 I1 hch hx hE;obtain⟨⟨B,fl,hB⟩,os,bare,un,hok,na,ng⟩:=hx;obtain⟨C1,ec,qc,sub,th1⟩:=hE
 cases ec
 have fl:FlD B (X.env::X.outer) a (.ref C) dd s2.heap:=by rw[<-hstk];exact fl
 have frm:X.A.frames=some (X.env::X.outer):=by rw[<-hstk];exact I.ok.frames
 refine c_ frm hfr fl λh4 held us4=>?_;refine zG9 held λh5 fl5 us5 _=>?_;have J5:Inv X pins σ1 H' {s2 with heap:=h5}:=(I1.landC hch os bare un hok hB fl5.1 (us4.trans us5)).of_tb;obtain⟨ob,hob,hobc,_⟩:=fl5.there;refine wpAny_handleBy_cons (codeAny_handlers_test (zFj (X:=X.hnd a) J5.to_hnd hg hm ?_ hd)) (by intro z;cases z);obtain⟨bm,N,nm,qn,bs,hdct,sn,sub0,ab,col,dj,k0,k1,k2,k3,k5,hC,T,e1⟩:=lM J5.kIn qc;obtain⟨bm2,N2,nm2,qn2,bs2,hdct2,sn2,sub2,ab2,col2,dd2,j0,j1,j2,j3,j5,hC2,T2,_⟩:=lM J5.kIn qb;refine kU hC hC2 hob hobc (by rw[List.contains_cons,T2.hasType (X:="BaseException") (b:=true) (by decide +kernel),Bool.or_true]) (r:=true) (by rw[<-e1];exact sub) ?_;refine codeAny_handlers_suite_as (zG9 fl5 λh6 fl6 us6 _=>?_);have J6:Inv X pins σ1 H' {s2 with heap:=h6}:=(I1.landC hch os bare un hok hB fl6.1 ((us4.trans us5).trans us6)).of_tb
 have new:∀b o,s1.heap.get? b=some o->b∉ch->b≠a:=λb o e nc z=>by
  subst z;rcases ng with ng|ng
  .rw [ng]at e;cases e
  .exact nc ng
 have J7:Inv X pins σ1 (upd H' a (bC a C dd)) {s2 with heap:=h6}:=J6.track na (by
   cases q0:X.s₀.heap.get? a with
   |none=>rfl
   |some o0=>
    obtain⟨o1,e2⟩:=I1.base.there a o0 q0 (by show a∉X.ex;rw[hex];simp);rcases ng with ng|ng
    .rw [ng]at e2;cases e2
    .rcases (hch a ng).1 with y|y
     .have y:a∈X.ex:=y;rw[hex]at y;cases y
     .exact absurd (qAj (qAI q0) y) (qA2 _))
  (by obtain⟨m,⟨o,_,_,ho,_⟩,_⟩:=I1.loc;exact qAh (new _ o ho λz=>(hch _ z).2.1 rfl))
  (λx c e=>by obtain⟨v,o,ho,_⟩:=I1.cell x c e;exact new _ o ho λz=>(hch _ z).2.2.1 x c e rfl)
  (λp hp=>new _ _ (I1.pin p (qAp _ hp)).1 λz=>(hch _ z).2.2.2 p (qAp _ hp) rfl) (qA fl6.there)
 refine zG1 (v:=.ref a) (u:=.ref a) J7 hN hi (.inl hl) rfl (λs7 I7=>?_) (.inr hl);refine qAv (hh a pins s7 _ _ _ I7.to_hnd (th1 a na)) (λf s8 q8=>?_) λ_ _ z=>z.elim
 cases f with
 |next=>obtain⟨σ8,H8,I8,q⟩:=q8;exact zFz (I8.of_hnd hk) hN hi hl λs9 I9=>⟨_,H8,I9,q⟩
 |brk=>obtain⟨σ8,H8,I8,q⟩:=q8;exact zFz (I8.of_hnd hk) hN hi hl λs9 I9=>⟨_,H8,I9,q⟩
 |cont=>obtain⟨σ8,H8,I8,q⟩:=q8;exact zFz (I8.of_hnd hk) hN hi hl λs9 I9=>⟨_,H8,I9,q⟩
 |ret u=>obtain⟨v,σ8,H8,I8,r,q⟩:=q8;exact zFz (I8.of_hnd hk) hN hi hl λs9 I9=>⟨v,_,H8,I9,r,q⟩
end
def tJ(sp:Sp)(E:St->XK)(t:TA):TE:=λσ H Q=>t σ H λvs H1=>sp vs H1 Q (E σ)
structure gj(P:Program)(w:World)(K:PySem.W.Frag)(mg:Str->Option Value)(base:Heap)(x:Str)(k:Nat)(ps:List Str)(sp:Sp):Prop where
 to:∃(f:Addr)(fd:FuncData),mg x=some (.ref f)/\PySem.W.keepIn K (.ref f)=true/\zDe K fd ps []/\ak P w K mg base (CX1 P w) k f fd ps sp
theorem zFt{x:Str}{k:Nat}{ps:List Str}{sp:Sp}{E:St->XK}{e:Expr}{es:List Expr}{p pos:Pos}{t:TA}(C:gj X.prog X.w X.K X.mg X.base x k ps sp)(hr:aB k X.A)(hg:Gl X x)(hp:zGb X E)(ha:PA X (e::es) t)
  (hdb:(x==("__debug__": Str))=false:=by decide) (he:starEach (e::es) X.env=(false,eval e X.env)::starEach es X.env:=by rfl) (hpl:(backTo pos (starEach es X.env)).any (·.1)=false:=by rfl) :
  PE X (.Call (.Name x p) (e::es) [] pos) (tJ sp E t):=by
 obtain⟨f,fd,h1,h2,h3,h4⟩:=C.to;exact oi h4 hr hg h1 h2 h3 hp.at ha hdb he hpl
theorem zF9{K:PySem.W.Frag}(hK:X.K=K:=by rfl):zCz X (.builtin "isinstance") (λxs H Q=>∃a C dd D b,xs=[.ref a,.ref D]/\H a=some (bC a C dd)/\zFb K C=true/\PySem.W.kitOne K (.ref C) (.ref D)=some b/\Q (.bl b) H):=by subst hK;exact lT
theorem g9{K:PySem.W.Frag}(hK:X.K=K:=by rfl):zCz X (.builtin "isinstance") (λxs H Q=>∃a C dd n b,xs=[.ref a,.ty n]/\H a=some (bC a C dd)/\zFb K C=true/\PySem.W.kitOne K (.ref C) (.type n)=some b/\Q (.bl b) H):=by subst hK;exact kG
theorem zI2{K:PySem.W.Frag}(hK:X.K=K:=by rfl):zCz X (.builtin "isinstance") (λxs H Q=>∃a C dd t b,∃Ds:List Addr,xs=[.ref a,.ref t]/\H a=some (bC a C dd)/\H t=some (.tup (Ds.map V.ref))/\zFb K C=true/\PySem.W.kitAny K (.ref C) (Ds.map Value.ref)=some b/\Q (.bl b) H):=by subst hK;exact kK
theorem eU(xs:List V){b:Int}(h:0<=b):bH xs none (some b)=xs.take b.toNat:=by
 obtain⟨k,rfl⟩:∃k:Nat,b=k:=⟨b.toNat,by lia⟩;unfold bH;rw[HT.sIx_nat,HT.sIx_none,List.drop_zero,Nat.sub_zero];show xs.take (min k xs.length)=xs.take k;rw[List.take_eq_take_min (i:=k)]
theorem zF3(xs:List V){b:Int}(h:0<=b):bH xs (some b) none=xs.drop b.toNat:=by
 obtain⟨k,rfl⟩:∃k:Nat,b=k:=⟨b.toNat,by lia⟩;unfold bH;rw[HT.sIx_nat,HT.sIx_none];show(xs.drop (min k xs.length)).take (xs.length-min k xs.length)=xs.drop k;rw[qBN (by rw[qAz];lia)]
 by_cases z:k<=xs.length
 .rw [Nat.min_eq_left z]
 .rw [Nat.min_eq_right (by lia),qCf (by lia),qCf (by lia)]
open AutoSeq1 (wpAny_loadPart')
theorem fR(a:Addr)(oa:Obj)(ca:oa.cls= .type "dict")(b:Str)(u:Tok) :
  Meets (Builtin.«dict.__eq__» ⟨[.ref a,.str b u],[]⟩) (λ_ R s=>s.heap.get? a=some oa/\R (.ok (.ret .notImplemented)) s) :=
 .of_wp λP w A R s ⟨ha,q⟩=>by
  have ta:s.TypeIs (.ref a) "dict":= ⟨_,ha,ca⟩;unfold Builtin.«dict.__eq__»;show wpAny _ _ (Builtin.Dict.dictSlotArgs "__eq__" ⟨[.ref a,.str b u],[]⟩ >>= _) _ _ s;unfold Builtin.Dict.dictSlotArgs;refine qAA (qAA (wpAny_notOrdered_dict ta ?_));show wpAny _ _ (pure ((Value.ref a,[Value.str b u]):Value×List Value) >>= _) _ _ s;refine qAA (qAE (qAE ?_));refine qAA (qCP (qBp s b u) qC4 ?_);rw[qAC (by simp)];exact qAA (qBD (qAE ⟨_,rfl,q⟩))
theorem gF(b:Str)(u:Tok)(l:Addr)(oa:Obj)(es:Array DictEntry)(ep:Nat)(da:oa.data= .dict es ep) :
  Meets (Builtin.«str.__eq__» ⟨[.str b u,.ref l],[]⟩) (λ_ R s=>s.heap.get? l=some oa/\R (.ok (.ret .notImplemented)) s):=by
 obtain⟨c,dd,data,sl⟩:=oa;simp only at da;subst da;exact .of_wp λprog w A R s h=>by obtain⟨hp,g,d,tk,os⟩:=s;obtain⟨hl,h⟩:=h;wp_walk using wpAny_loadPart' hl,qB4 hl;exact⟨_,rfl,h⟩
theorem fH{A:Around}{s:Shared}{l:Addr}{oa:Obj}{es:Array DictEntry}{ep:Nat}(b:Str)(u:Tok)(hl:s.heap.get? l=some oa)(ca:oa.cls= .type "dict")(da:oa.data= .dict es ep)(hu:A.units<cLine):SeqAt.RcAt A s (.ref l) (.str b u) false:=λprog w E Q h=>
 SeqAt.rc_eq_decline_or (k:=false) ⟨_,hl,ca⟩ (qBp s b u) (by decide) qC4 F.slot_dict_eq F.slot_str_eq_refl
  (λ_ hq=>qBT F.slot_dict_eq ⟨_,hl,ca⟩ F.entry_dict_eq (F.args_dict_eq_2 _ _) (fR l oa ca b u) ⟨hl,hq⟩)
  (λ_ hq=>qBT F.slot_str_eq_refl (qBp s b u) F.entry_str_eq (F.args_str_eq_2 _ _) (gF b u l oa es ep da) ⟨hl,hq⟩)
  (λ_ hq=>qCM (rfl:isSame (.ref l) (.str b u)=pure false) hq) (.inr hu) h
def af(H:Hp)(v:V):Prop:=(∃x,v= .str x)\/v= .non\/(∃b,v= .bl b)\/(∃i,v= .int i)\/∃a,v= .ref a/\((∃xs,H a=some (.lst xs))\/(∃xs,H a=some (.tup xs))\/∃kvs,H a=some (.dK kvs))
section
variable{X:Cx}
theorem mR(hu:X.A.units<cLine):OpR X (compareOp .Eq) (λx y H Q=>∃z,y= .str z/\af H x/\Q (.bl (decide (x= .str z))) H):=by
 intro pins s σ H x y v u Q I rx ry h;obtain⟨z,rfl,t,q⟩:=h;rcases t with⟨x,rfl⟩|rfl|⟨b,rfl⟩|⟨i,rfl⟩|⟨a,rfl,t⟩
 .exact zD8 pins s σ H _ _ v u Q I rx ry ⟨rfl,q⟩
 .exact zD8 pins s σ H _ _ v u Q I rx ry ⟨rfl,q⟩
 .exact zD8 pins s σ H _ _ v u Q I rx ry ⟨rfl,q⟩
 .exact zD8 pins s σ H _ _ v u Q I rx ry ⟨rfl,q⟩
 .cases rx
  obtain⟨tk,rfl⟩:=ry
  have q:Q (.bl false) H:=by
   rw[qAZ (λz=>nomatch z)]at q;exact q
  rcases t with⟨xs,t⟩|⟨xs,t⟩|⟨kvs,t⟩
  .obtain ⟨its,r,pl,hz⟩:=I.list (SqL.of t);exact SeqAt.RcAt.list_str z tk pl.isList hu X.prog X.w X.xe _ ⟨.bl false,H,I,rfl,q⟩
  .obtain ⟨its,r,pl,hz⟩:=I.tuple (SqT.of t);exact SeqAt.RcAt.tuple_str z tk (show s.heap.IsTuple a its.toArray from pl) hu X.prog X.w X.xe _ ⟨.bl false,H,I,rfl,q⟩
  .obtain ⟨z1,n1,vs,r1,o1,es,ep,g1,c1,d1,k1,p1,nd1⟩:=bX I.hok (show Rd H a (.dK kvs)from .inl t);exact fH z tk g1 c1.1 d1 hu X.prog X.w X.xe _ ⟨.bl false,H,I,rfl,q⟩
end
def fh:Expr->Bool
 | .Starred ..=>false
 |_=>true
theorem kL{e:Expr}{es:List Expr}{env:Env}(h:fh e=true):starEach (e::es) env=(false,eval e env)::starEach es env:=by
 cases e<;>first|rfl|cases h
open PySem.W in
open PySem.W in
theorem i4{K:PySem.W.Frag}{C:Addr}{v:Value}(h:mroIn K C v=some true):(gi K C).contains v=true:=by
 unfold mroIn clsIn at h;unfold gi;split at h
 .rename_i e;rw[Option.bind_some]at h;split at h
  .cases h
  .rw [e];injection h
 .cases h
section
variable{X:Cx}
theorem zBr:OpR X (binaryOp .FloorDiv) (rI (λ_ j=>0<j/\j<10^100) λi j=>.int (i / j)):=opI λi j _ _ _ _ _ hc q=>by
 have h1:(0:Int)<j:=hc.1;have h2:j<10^100:=hc.2;refine floordiv_int (by lia) (by rw[Int.fdiv_eq_ediv_of_nonneg i (by lia)];exact q) (.inl (PyProof.noPylong_of_log2 ?_));have hj:j.natAbs≠0:=by lia
 rw[Nat.log2_lt hj];have:j.natAbs<10^100:=by lia
 exact qAj this (by decide +kernel)
end
end L2
namespace RV
open PySem
end RV
namespace L2
open PySem PySem.Spec PyProof.Rows
section
variable{X:Cx}
theorem qw{P:Program}{w:World}{k:Key}{u:Value}(h:(zB5 P w).is k u=true):am (kV k) u:=by
 rcases zBo (show bW k u=true from h)with⟨i,t,rfl,rfl⟩|⟨x,t,rfl,rfl⟩
 .exact ⟨t,rfl⟩
 .exact ⟨t,rfl⟩
theorem rp:∀{kvs:List (Key×V)} {vs:List (Key×Value)} {j:Nat} {k:Key} {v:V},KV kvs vs->kvs[j]?=some (k,v)->∃u,vs[j]?=some (k,u)/\am v u
 |_,_,j,_,_,.nil,h=>by simp at h
 |_,_,0,k,v,.cons (a:=a) (b:=b) r _,h=>by
  have e:a=(k,v):=by simpa using h
  subst e;exact⟨b.2,by simp;exact Prod.ext r.1.symm rfl,r.2⟩
 |_,_,j+1,k,v,.cons r rr,h=>by
  obtain⟨u,h1,h2⟩:=rp rr (show _=some (k,v) by simpa using h);exact⟨u,by simpa using h1,h2⟩
end
section
variable{X:Cx}{pins:List (Addr×Obj)}{σ:St}{H:Hp}{s:Shared}{a:Addr}{u o':HO}
theorem Inv.retell(I:Inv X pins σ H s)(e:H a=some u)(nt:∀xs,u≠.tup xs)(no:∀x,u≠.own x)(nb:∀ps,u≠.tbl ps)(nf:∀o v,X.H₀ a≠some (.frz o v))(new:zBq X.prog X.w (upd H a o') s.heap a o'):Inv X pins σ (upd H a o') s:=by
 have ne:∀b,H b=none->b≠a:=λb h z=>by rw[z,e]at h;cases h
 refine⟨I.ok,I.os,I.bare,⟨I.base.keep,I.base.slot,λb o q n x=>?_,I.base.there,λb xs q=>?_,λb o v q=>?_,λb ps q=>?_⟩,I.loc,I.cell,?_,λx c h=>?_,λp hp=>?_,λb o q=>?_,I.len⟩
 .have:=I.base.free b o q n x;rw[ad (ne b this)];exact this
 .have:=I.base.tups b xs q;rw[ad (λz=>by rw[z,e]at this;exact nt xs (qAb this))];exact this
 .have:=I.base.frzs b o v q;rw[ad (λz=>nf o v (by rw[<-z];exact q))];exact this
 .obtain ⟨more,this⟩:=I.base.tbls b ps q;exact⟨more,by rw[ad (λz=>by rw[z,e]at this;exact nb _ (qAb this))];exact this⟩
 .rw [ad (ne _ I.free)];exact I.free
 .rw [ad (ne _ (I.freeC x c h))];exact I.freeC x c h
 .obtain ⟨h1,h2,h3⟩:=I.pin p hp;exact⟨h1,by rw[ad (ne _ h2)];exact h2,h3⟩
 .by_cases z:b=a
  .subst z;rw[ac]at q;cases q;exact new
  .rw [ad z]at q;refine(I.hok b o q).stay (λc v _ y=>y) (λc y=>?_) λc xs y=>?_
   .rw [ad (λz=>by rw[z,e]at y;exact no _ (qAb y))];exact y
   .rw [ad (λz=>by rw[z,e]at y;exact nt _ (qAb y))];exact y
end
def qZ(D:a_)(a:Addr)(o:Obj)(kvs:List (Key×V)):a_ where
 nx:=λσ H=>H a=some (.frz o (.dK kvs))/\D.nx σ (upd H a (.dK kvs))
 rt:=λv H=>H a=some (.frz o (.dK kvs))/\D.rt v (upd H a (.dK kvs))
 bk:=λσ H=>H a=some (.frz o (.dK kvs))/\D.bk σ (upd H a (.dK kvs))
 ct:=λσ H=>H a=some (.frz o (.dK kvs))/\D.ct σ (upd H a (.dK kvs))
section
variable{X:Cx}
theorem Inv.thaw{pins:List (Addr×Obj)}{σ:St}{H:Hp}{s:Shared}{a:Addr}{o:Obj}{kvs:List (Key×V)}(I:Inv X pins σ H s)(e:H a=some (.frz o (.dK kvs)))(nf:∀o v,X.H₀ a≠some (.frz o v)):Inv X pins σ (upd H a (.dK kvs)) s:=by
 obtain⟨_,z⟩:zBq X.prog X.w H s.heap a (.frz o (.dK kvs)):=I.hok a _ e;exact I.retell e (λ_ h=>nomatch h) (λ_ h=>nomatch h) (λ_ h=>nomatch h) nf z
theorem sV{st:Stmt}{t:TS}(h:PS X st t):PS X st (λD σ H=>∃a kvs,H a=some (.dK kvs)/\∀o,t (qZ D a o kvs) σ (upd H a (.frz o (.dK kvs)))):=by
 intro pins s σ H D I ⟨a,kvs,e,q⟩;have ok:zBq X.prog X.w H s.heap a (.dK kvs):=I.hok a _ e;obtain⟨_,_,_,_,o,_,_,ho,_⟩:=id ok
 have nf:∀o v,X.H₀ a≠some (.frz o v):=λo v z=>by
  have:=I.base.frzs a o v z;rw[e]at this;cases this
 have I1:Inv X pins σ (upd H a (.frz o (.dK kvs))) s:=I.retell e (λ_ h=>nomatch h) (λ_ h=>nomatch h) (λ_ h=>nomatch h) nf ⟨ho,ok⟩;refine thn (h pins s σ _ _ I1 (q o)) λf s' r=>?_
 cases f with
 |next=>obtain⟨σ',H',I',e',d'⟩:=r;exact⟨σ',_,I'.thaw e' nf,d'⟩
 |brk=>obtain⟨σ',H',I',e',d'⟩:=r;exact⟨σ',_,I'.thaw e' nf,d'⟩
 |cont=>obtain⟨σ',H',I',e',d'⟩:=r;exact⟨σ',_,I'.thaw e' nf,d'⟩
 |ret u=>obtain⟨v,σ',H',I',rv,e',d'⟩:=r;exact⟨v,σ',_,I'.thaw e' nf,rv,d'⟩
end
end L2
namespace RV
open PySem
end RV
namespace L2
open PySem PySem.Spec PyProof.Rows
theorem iE{X:Cx}{pins:List (Addr×Obj)}{σ:St}{H:Hp}{s:Shared}{a:Addr}{o:Obj}{kvs:List (Key×V)}(I:Inv X pins σ H s)(e:H a=some (.frz o (.dK kvs))) :
  ∃vs es ep,KV kvs vs/\o.data= .dict es ep/\es.size=kvs.length/\s.heap.DictAt (zB5 X.prog X.w) a vs ep/\(a==sysModules)=false/\kvs.length<=sizeLine/\s.heap.get? a=some o/\o.ExactDict:=by
 obtain⟨ho,z,hd,vs,rel,o1,es,ep,y1,y2,y3,y4,y5,y6⟩:zBq X.prog X.w H s.heap a (.frz o (.dK kvs)):=I.hok a _ e;rw[ho]at y1
 cases y1
 have l1:=y5.length;have l2:=rel.length;exact⟨vs,es,ep,rel,y3,by simp only[qB2]at l1;lia,⟨o,es,ho,y2,y3,y4,y5,y6⟩,hd,z,ho,y2⟩
end L2
namespace ST
open PySem PyProof.Rows PySem.W
end ST
namespace L2
open PySem PySem.Spec PyProof.Rows
def Itk(a:Addr)(o:Obj)(kvs:List (Key×V)):It :=
 ⟨λi H=>H a=some (.frz o (.dK kvs))/\i<kvs.length,λi H v H'=>H'=H/\∃k x,kvs[i]?=some (k,x)/\v=kV k,λi H=>H a=some (.frz o (.dK kvs))/\kvs.length<=i⟩
theorem kR{P:Program}{w:World}{K:PySem.W.Frag}{tg:Expr}(a it:Addr)(o:Obj)(es:Array DictEntry)(ep:Nat)(kvs:List (Key×V))(hd:o.data= .dict es ep):fE P w K tg (Itk a o kvs) [it] it (λi h=>h.IsKeyIter it a i kvs.length ep) where
 mem:=by simp
 obj:=λi h ⟨o,st,c,dt⟩ b hb=>by
  have:b=it:=by simpa using hb
  subst this;exact⟨_,st,λv y=>by rw[dt]at y;cases y⟩
 keep:=λi h h' st k=>st.at λo e=>k it (by simp) o e
 item:=by
  intro X hP hw hK hc i pins s σ H E I hf st hg;subst hP hw hK;obtain⟨e,hi⟩:=hg;obtain⟨vs,es',ep',rel,hd',_,da,_,_,ho,_⟩:=iE I e;have ee:ep'=ep:=by rw[hd]at hd';cases hd';rfl
  subst ee;have len:=rel.length;have ek:kvs[i]?=some (kvs[i].1,kvs[i].2):=qAq hi;obtain⟨v,ev,rv⟩:=rp rel ek;rw[len]at st;obtain⟨f0,f1,f2,f3,f4,f5⟩:=hf it (by simp);refine wpAny_pyNext_dict_item st da ev λkey h' hk st' sb=>?_;have I1:Inv X pins σ H {s with heap:=h',toks:=s.toks}:=I.turned (t':=s.toks) (λb o hb y=>sb.extBut b o hb y) f0 f1 f3 f4 f5;rw[<-len]at st';obtain⟨o2,g1,g2,g3⟩:=id st';exact⟨_,rfl,gH (s:={s with heap:=h'}) (n:="dict_keyiterator") g1 g2 g3 (by decide) ⟨kV kvs[i].1,H,I1,qw hk,⟨rfl,_,_,ek,rfl⟩,st',λb hb=>(hf b hb).1⟩⟩
 done:=by
  intro X hP hw hK hc i pins s σ H E I hf st hg;subst hP hw hK;obtain⟨e,hi⟩:=hg;obtain⟨vs,es',ep',rel,hd',_,da,_,_,ho,_⟩:=iE I e;have ee:ep'=ep:=by rw[hd]at hd';cases hd';rfl
  subst ee;have len:=rel.length;rw[len]at st;obtain⟨f0,f1,f2,f3,f4,f5⟩:=hf it (by simp);exact wpAny_pyNext_dict_end (I.ok.hd hc) st da (by simp;lia) λh' eb=>⟨rfl,I.turned (t':=s.toks) (λb o hb y=>eb b o hb y) f0 f1 f3 f4 f5⟩
 self:=λ_ _ _ _ _ st h=>wpAny_pyIter_keyiter st h
section
variable{X:Cx}
theorem oR{tg o:Expr}{to:TE}(ho:PE X o to):PI X tg o (λσ H R=>to σ H λx H1=>∃a ob kvs,x= .ref a/\H1 a=some (.frz ob (.dK kvs))/\R (Itk a ob kvs) H1):=by
 intro pins s σ H R I h;refine thn (ho pins s σ H _ I h) λv s1 ⟨x,H1,I1,r1,a,ob,kvs,ex,e,q⟩=>?_;subst ex
 cases r1
 obtain⟨vs,es,ep,rel,hd,sz,da,nsys,z,hget,exd⟩:=iE I1 e;have len:=rel.length;refine wpAny_pyIter_dict nsys da ?_;refine⟨s1.heap.objs.size,[s1.heap.objs.size],_,_,H1,rfl,I1.kept (t':=s1.toks) λb o e=>qAM _ e,kR a _ ob es ep kvs hd,⟨_,qAk _ rfl,rfl,by rw[len];rfl⟩,λb hb=>?_,q⟩;have e:b=s1.heap.objs.size:=by simpa using hb
 subst e;exact I1.fpOk (qAG _) (I1.hok.fresh (qAG _))
theorem mU{a:Addr}{o:Obj}{kvs:List (Key×V)}{g:TG}{tb:TS}{D:a_}{σ:St}{H:Hp}(Pv:Nat->St->Hp->Prop)(h0:Pv 0 σ H)(hl:∀i σ H,i<=kvs.length->Pv i σ H->H a=some (.frz o (.dK kvs)))
  (hs:∀i k v σ H,kvs[i]?=some (k,v)->Pv i σ H->g (kV k) σ H λσ2 H2=>tb {D with nx:=Pv (i+1),ct:=Pv (i+1),bk:=D.nx} σ2 H2) (hd:∀σ H,Pv kvs.length σ H->D.nx σ H) :
  ∃W:Nat->Nat->St->Hp->Prop,(∃m,W 0 m σ H)/\∀i m σ H,W i m σ H ->
   ((Itk a o kvs).stop i H/\D.nx σ H)\/((Itk a o kvs).go i H/\∃N:St->Hp->Prop,(∀σ' H',N σ' H'->∃m',m'<m/\W (i+1) m' σ' H')/\∀x H',(Itk a o kvs).yld i H x H'->g x σ H' λσ2 H2=>tb {D with nx:=N,ct:=N,bk:=D.nx} σ2 H2):=by
 refine⟨λi m σ H=>m=kvs.length-i/\i<=kvs.length/\Pv i σ H,⟨kvs.length,by simp,qAi _,h0⟩,?_⟩;rintro i m σ H ⟨rfl,hi,p⟩
 by_cases hlt:i<kvs.length
 .refine .inr ⟨⟨hl i σ H hi p,hlt⟩,Pv (i+1),λσ' H' p'=>⟨_,?_,rfl,hlt,p'⟩,λx H' y=>?_⟩
  .show kvs.length-(i+1)<kvs.length-i;lia
  .obtain ⟨rfl,k,v,ek,rfl⟩:=y;exact hs i k v σ H' ek p
 .have e:i=kvs.length:=by lia
  subst e;exact .inl ⟨⟨hl _ σ H hi p,qAG _⟩,hd σ H p⟩
end
end L2
namespace ST
open PySem PyProof.Rows
end ST
namespace L2
open PySem PySem.Spec PyProof.Rows
def cV(mg:Str->Option Value)(h:Heap):Prop:=∃bm o,mg "__builtins__"=some (.ref bm)/\bm≠builtinsNs/\h.get? bm=some o/\o.cls= .type "module"/\o.dict=some builtinsNs/\o.data= .plain
theorem lm{P:Program}{w:World}{K:PySem.W.Frag}{mg mb:Str->Option Value}{CX:CXT}{k:Nat}{fa a:Addr}{fd:FuncData}{x:Str}{sp:Sp}{s₁:Shared}{vs:List Value}{ns:List Int}{tabs:List (Addr×Addr)}
  (KX:K.In s₁.heap) (hns:s₁.heap.Ns mainGlobals mg) (hb:s₁.heap.Ns builtinsNs mb) (hbb:∀x:Str,x≠ "__name__"->mb x=bootBuiltins x) (hlim:s₁.heap.NoLimit) (hg:s₁.gens=#[]) (hB:cV mg s₁.heap) (hT:PySem.W.TabsAt tabs s₁.heap) (hKT:∀q∈tabs,K.lookup q.2=none)
  (ha:s₁.heap.get? a=some {cls:=.type "list",data:=.seq vs.toArray}) (hi:IntsAre vs ns) (hl:ns.length<=sizeLine) (hr:aB k callerA)
  (F:∀base:Heap,K.In base->base.Ns mainGlobals mg->cV mg base->(∀q∈tabs,PySem.W.CodeHd base q.1 q.2)->ak P w K mg base CX k fa fd [x] sp) (hbind:∀(s:Shared)(u:Value),BindsTo s fd ⟨[u],[]⟩ [(x,u)])
  (hsp:∀H:Hp,SqL K H a (ns.map V.int)->(∀q∈tabs,H q.2=some (.tbl #[]))->sp [.ref a] H (λv _=>v= .bl true) λ_ _ _=>False)
  (hCX:∀H e s',CX [] H s₁ (λ_ _ _=>False) e s'->False) :
  codeAny (model P w) callerA (.call (.ref fa) ⟨[.ref a],[]⟩) (λr s'=>r= .ok (.ret (.bool true))/\OldK s₁.heap s'.heap/\s'.os=s₁.os/\AllBare s'.gens) s₁:=by
 have rv:=dn hi;have lenV:=hi.length
 have naT:∀q∈tabs,q.2≠a:=λq hq z=>by
  have:=(hT q hq).2;rw[z,ha]at this;cases this
 have core:∀H:Hp,(∀b,H b=none\/(∃o xs,H b=some (.frz o (.lst xs)))\/(H b=some (.tbl #[])/\∃q∈tabs,q.2=b))->SqL K H a (ns.map V.int)->(∀q∈tabs,H q.2=some (.tbl #[]))->HOk P w H s₁.heap->(∀b,H b≠none->b=a\/∃q∈tabs,q.2=b)->(H a≠none->K.lookup a=none) ->
   codeAny (model P w) callerA (.call (.ref fa) ⟨[.ref a],[]⟩) (λr s'=>r= .ok (.ret (.bool true))/\OldK s₁.heap s'.heap/\s'.os=s₁.os/\AllBare s'.gens) s₁:=by
  intro H hO hS hH hok hA hK;have base_of:∀{b:Addr}{o:Obj},s₁.heap.get? b=some o->H b=none->(bO s₁.heap H).get? b=some o:=λe n=>md e n
  have non:∀{b:Addr}{o:Obj},s₁.heap.get? b=some o->(∀xs n,o.data≠.seq xs n)->(∀ps,o.data≠.fields ps\/o.cls≠.none)->H b=none:=λ{b o} e n1 n2=>by
   cases q:H b with
   |none=>rfl
   |some u=>
    rcases hA b (by rw[q];simp)with z|⟨r,hr,z⟩
    .subst z;rw[ha]at e;cases e;exact absurd rfl (n1 _ _)
    .subst z;rw[(hT r hr).2]at e;cases e;rcases n2 #[]with z|z<;>exact absurd rfl z
  have noA:∀{b:Addr}{o:Obj}{es:Array DictEntry}{ep:Nat},s₁.heap.get? b=some o->o.data= .dict es ep->H b=none:=λ{b o es ep} e d=>non e (λxs n z=>by rw[d]at z;cases z) λps=>.inl λz=>by rw[d]at z;cases z
  have nsK:∀{b:Addr}{m:Str->Option Value},s₁.heap.Ns b m->(bO s₁.heap H).Ns b m:=λ{b m} ⟨o,es,ep,e,d,r⟩=>⟨o,es,ep,base_of e (noA e d),d,r⟩
  have hKb:K.In (bO s₁.heap H):=λb o e=>base_of (KX b o e) (by
   cases q:H b with
   |none=>rfl
   |some u=>
    rcases hA b (by rw[q];simp)with z|⟨r,hr,z⟩
    .subst z;rw[hK (by rw[q];simp)]at e;cases e
    .subst z;rw[hKT r hr]at e;cases e)
  have hBb:cV mg (bO s₁.heap H):=by
   obtain⟨bm,o,b1,b2,b3,b4,b5,b6⟩:=hB;exact⟨bm,o,b1,b2,base_of b3 (non b3 (λxs n z=>by rw[b6]at z;cases z) λps=>.inl λz=>by rw[b6]at z;cases z),b4,b5,b6⟩
  have hCb:∀q∈tabs,PySem.W.CodeHd (bO s₁.heap H) q.1 q.2:=λq hq=>by
   obtain⟨o,vs',file,tf,flags,tg,inF,text,tt,c1,c2,c3,c4⟩:=(hT q hq).1;exact⟨o,vs',file,tf,flags,tg,inF,text,tt,base_of c1 (non c1 (λxs n z=>by rw[c3]at z;cases z) λps=>.inr λz=>by rw[c2]at z;cases z),c2,c3,c4⟩
  have hM:Mod K mg (bO s₁.heap H):=⟨hKb,nsK hns,⟨mb,nsK hb,hbb⟩,let⟨mc,h1,h2⟩:=hlim;⟨mc,nsK h1,h2⟩⟩;have e0:f_ P w K mg (bO s₁.heap H) callerA [] s₁ H:=⟨rfl,hM,λb o e=>pd e,qCU (kn _ _),trivial,λb hb=>absurd (show b∈([]:List Addr)from hb) (by simp),hok,.of_eq hg⟩;refine qBf ((F _ hKb (nsK hns) hBb hCb).run callerA [] s₁ H ⟨[.ref a],[]⟩ [.ref a] [.ref a] _ _ hr e0 (hbind s₁ (.ref a)) (.cons rfl .nil) (hsp H hS hH)) λr s' h=>?_
  cases r with
  |error e=>exact(hCX H e s' h).elim
  |ok fl=>
   cases fl with
   |next=>exact False.elim h
   |brk=>exact False.elim h
   |cont=>exact False.elim h
   |ret u=>
    obtain⟨v,H',os,bare,un,hok',r',q⟩:=h;have q':v= .bl true:=q;subst q';obtain rfl:u=Value.bool true:=r'
    have kept:∀b o,s₁.heap.get? b=some o->(∀r∈tabs,r.2≠b)->s'.heap.get? b=some o:=λb o e nt=>by
     cases q:H b with
     |none=>exact un.keep b o e q (by intro z;exact absurd (show b∈([]:List Addr)from z) (by simp)) (by simp)
     |some u=>
      rcases hO b with z|⟨ob,xs,z⟩|⟨z,r,hr,y⟩
      .rw [q]at z;cases z
      .have z2:=un.frzs b ob _ z;obtain⟨e1,_⟩:=hok b _ z;obtain⟨e2,_⟩:=hok' b _ z2;rw[e]at e1;cases e1;exact e2
      .exact absurd y (nt r hr)
    refine⟨rfl,⟨λb o e=>?_,λb o e=>?_⟩,os,bare⟩
    .by_cases t:∃r∈tabs,r.2=b
     .obtain ⟨r,hr,rfl⟩:=t;obtain⟨c1,c2⟩:=hT r hr;rw[c2]at e;cases e;obtain⟨more,z⟩:=un.tbls _ _ (hH r hr);have z2:s'.heap.get? r.2=some {cls:=.none,data:=.fields (#[]++more)}:=hok' _ _ z;exact .inr (.inl ⟨(c1.tab c2).isCodeTable,rfl,#[],more,rfl,z2⟩)
     .exact .inl (kept b o e λr hr z=>t ⟨r,hr,z⟩)
    .by_cases t:∃r∈tabs,r.2=b
     .obtain ⟨r,hr,rfl⟩:=t;obtain⟨more,z⟩:=un.tbls _ _ (hH r hr);exact⟨_,hok' _ _ z⟩
     .exact ⟨o,kept b o e λr hr z=>t ⟨r,hr,z⟩⟩
 have hTb:∀b:Addr,(∃q∈tabs,q.2=b)->s₁.heap.get? b=some (PySem.W.tabObj #[]):=λb ⟨q,hq,e⟩=>by rw[<-e];exact(hT q hq).2
 open Classical in
 cases hk:K.lookup a with
 |some o=>
  have e:=KX a o hk;rw[ha]at e
  cases e
  refine core (λb=>if(∃q∈tabs,q.2=b)then some (.tbl #[])else none) (λb=>?_) (.inr ⟨_,vs.toArray,_,hk,rfl,rfl,rfl,by rw[qAS,lenV];exact hl,by simpa using rv⟩) (λq hq=>qAC ⟨q,hq,rfl⟩) (λb u z=>?_) (λb z=>?_) λz=>?_
  .by_cases t:∃q∈tabs,q.2=b
   .exact .inr (.inr ⟨qAC t,t⟩)
   .exact .inl (qAB t)
  .by_cases t:∃q∈tabs,q.2=b
   .have z':=(qAC t).symm.trans z
    cases z'
    exact hTb b t
   .have z':=(qAB t).symm.trans z
    cases z'
  .by_cases t:∃q∈tabs,q.2=b
   .exact .inr t
   .exact absurd (qAB t) z
  .by_cases t:∃q∈tabs,q.2=a
   .obtain ⟨q,hq,e⟩:=t;exact absurd e (naT q hq)
   .exact absurd (qAB t) z
 |none=>
  have nta:¬∃q∈tabs,q.2=a:=λ⟨q,hq,e⟩=>naT q hq e;refine core (λb=>if b=a then some (.frz {cls:=.type "list",data:=.seq vs.toArray} (.lst (ns.map V.int)))else if(∃q∈tabs,q.2=b)then some (.tbl #[])else none) (λb=>?_) (.inl (.inr ⟨{cls:=.type "list",data:=.seq vs.toArray},qAC rfl⟩)) (λq hq=>(qAB (naT q hq)).trans (qAC ⟨q,hq,rfl⟩)) (λb u z=>?_) (λb z=>?_) λ_=>hk
  .by_cases hb:b=a
   .exact .inr (.inl ⟨_,_,qAC hb⟩)
   .by_cases t:∃q∈tabs,q.2=b
    .exact .inr (.inr ⟨(qAB hb).trans (qAC t),t⟩)
    .exact .inl ((qAB hb).trans (qAB t))
  .by_cases hb:b=a
   .have z':=(qAC hb).symm.trans z
    cases z'
    subst hb;exact⟨ha,by rw[qAD];exact hl,vs,_,rv,ha⟩
   .by_cases t:∃q∈tabs,q.2=b
    .have z':=((qAB hb).trans (qAC t)).symm.trans z
     cases z'
     exact hTb b t
    .have z':=((qAB hb).trans (qAB t)).symm.trans z
     cases z'
  .by_cases hb:b=a
   .exact .inl hb
   .by_cases t:∃q∈tabs,q.2=b
    .exact .inr t
    .exact absurd ((qAB hb).trans (qAB t)) z
theorem oh{l:PySem.W.OpenLaw}{n k:Nat}{q:Program}{loose:List Str}{XP:(Str->Option Value)->Heap->Prop}{YP:World->Heap->Prop}{d:DefRec}{K:Params->PySem.W.Frag}{CX:World->CXT}{sp:World->Sp}{x:Str}{tabs:List (Addr×Addr)}
  (hn:l.most=some n) (hn2:n<=sizeLine) (hdf:d.params.defaults=[]) (hr:aB k callerA)
  (hY:∀(w:World)(h:Heap),YP w h->(K w.params).In h) (hT:∀(w:World)(h:Heap),YP w h->PySem.W.TabsAt tabs h) (hKT:∀(w:World),∀q∈tabs,(K w.params).lookup q.2=none)
  (F:∀(w:World) (mg:Str->Option Value) (fa:Addr) (h:Heap),(K w.params).In h->h.Ns mainGlobals mg->mg d.name=some (.ref fa) ->
   ∃fd:FuncData,(∀(s:Shared)(u:Value),BindsTo s fd ⟨[u],[]⟩ [(x,u)]) /\
    ∀base:Heap,(K w.params).In base->base.Ns mainGlobals mg->cV mg base->(∀q∈tabs,PySem.W.CodeHd base q.1 q.2)->ak l.prog w (K w.params) mg base (CX w) k fa fd [x] (sp w))
  (hsp:∀(w:World)(H:Hp)(a:Addr)(ns:List Int),ns.length<=n->SqL (K w.params) H a (ns.map V.int)->(∀q∈tabs,H q.2=some (.tbl #[]))->sp w [.ref a] H (λv _=>v= .bl true) λ_ _ _=>False)
  (hCX:∀(w:World)(H:Hp)(s:Shared)(e:Value)(s':Shared),CX w [] H s (λ_ _ _=>False) e s'->False) :
  PySem.W.WalkO q loose XP YP l.row.toRowW d [] (λf vs=>PySem.call f vs):=by
 refine Att.attach_call hn hdf λw s₀ s₁ mg mb fa o pm cd doc a vs ns G Y ho hd hcd hmg hobj hints hlen hg=>?_;have KX:=hY w _ Y;obtain⟨fd,hb,hF⟩:=F w mg fa _ KX G.T.g hmg;exact lm KX G.T.g G.T.b G.T.builtins G.T.nolimit hg G.T.bmain (hT w _ Y) (hKT w) hobj hints (qAW hlen hn2) hr hF hb (λH hS hH=>hsp w H a ns hlen hS hH) λH e s'=>hCX w H s₁ e s'
end L2
namespace RV
open PySem
end RV
namespace L2
open PySem PySem.Spec PyProof.Rows
end L2
namespace L2
variable{t1 t2 t3 t4 t5 t6 t7:TS}
theorem bG{D σ H}(h:let d:=D;let r2:=t2;aq t1 r2 d σ H):aq t1 t2 D σ H:=h
theorem cy{D σ H}(h:let d:=D;let r3:=t3;let r2:=aq t2 r3;aq t1 r2 d σ H):aq t1 (aq t2 t3) D σ H:=h
theorem bE{D σ H}(h:let d:=D;let r4:=t4;let r3:=aq t3 r4;let r2:=aq t2 r3;aq t1 r2 d σ H):aq t1 (aq t2 (aq t3 t4)) D σ H:=h
theorem sk{D σ H}(h:let d:=D;let r5:=t5;let r4:=aq t4 r5;let r3:=aq t3 r4;let r2:=aq t2 r3;aq t1 r2 d σ H):aq t1 (aq t2 (aq t3 (aq t4 t5))) D σ H:=h
theorem vE{D σ H}(h:let d:=D;let r7:=t7;let r6:=aq t6 r7;let r5:=aq t5 r6;let r4:=aq t4 r5;let r3:=aq t3 r4;let r2:=aq t2 r3;aq t1 r2 d σ H):aq t1 (aq t2 (aq t3 (aq t4 (aq t5 (aq t6 t7))))) D σ H:=h
theorem vz{t8:TS}{D σ H}(h:let d:=D;let r8:=t8;let r7:=aq t7 r8;let r6:=aq t6 r7;let r5:=aq t5 r6;let r4:=aq t4 r5;let r3:=aq t3 r4;let r2:=aq t2 r3;aq t1 r2 d σ H):aq t1 (aq t2 (aq t3 (aq t4 (aq t5 (aq t6 (aq t7 t8)))))) D σ H:=h
theorem so{t8 t9:TS}{D σ H}(h:let d:=D;let r9:=t9;let r8:=aq t8 r9;let r7:=aq t7 r8;let r6:=aq t6 r7;let r5:=aq t5 r6;let r4:=aq t4 r5;let r3:=aq t3 r4;let r2:=aq t2 r3;aq t1 r2 d σ H):aq t1 (aq t2 (aq t3 (aq t4 (aq t5 (aq t6 (aq t7 (aq t8 t9))))))) D σ H:=h
end L2
local macro_rules|`(tactic|walk_at"lc")=>`(tactic|first|exact Or.inl rfl|exact Or.inr rfl)
local macro_rules|`(tactic|walk_at"nm")=>`(tactic|first|assumption|exact qCa|(refine L2.nm1 ?_;walk_at"ne")|(refine L2.nm2 ?_ ?_<;>walk_at"ne")|(refine L2.nm3 ?_ ?_ ?_<;>walk_at"ne"))
local macro_rules|`(tactic|walk_at"lk")=>`(tactic|first|assumption|exact L2.ac|(refine(L2.ad ?_).trans ?_;walk_at"ne";walk_at"lk")|(refine L2.Kp.look (by assumption) ?_ ?_;walk_at"lk";walk_at"nm"))
local macro_rules|`(tactic|walk_at"ne")=>`(tactic|first|assumption|(refine qAh ?_;assumption)|(refine L2.ae (by assumption) ?_;walk_at"lk")|(refine qAh (L2.ae (by assumption) ?_);walk_at"lk"))
local macro_rules|`(tactic|walk_at"bd")=>`(tactic|first|decide|lia|(dsimp only;first|decide|lia))
local macro_rules|`(tactic|walk_at"ml")=>`(tactic|first|exact Or.inr ⟨by decide,by decide⟩|exact Or.inl ⟨by lia,by lia⟩|exact Or.inr ⟨by lia,by lia⟩)
local macro_rules|`(tactic|walk_at"ln")=>`(tactic|first|decide|(have hsz:=PySem.sizeLine_eq;simp only[qAa,qBB,qAD,qAN]at *;lia))
local macro_rules|`(tactic|walk_at"ix")=>`(tactic|first|rfl|assumption|(refine L2.fG ?_;assumption))
local macro_rules|`(tactic|walk_at"vs")=>`(tactic|first|exact Or.inl rfl|exact Or.inr (Or.inl rfl)|exact Or.inr (Or.inr rfl))
local macro_rules|`(tactic|walk_at"vk")=>`(tactic|first|exact Or.inl rfl|exact Or.inr rfl)
local macro_rules|`(tactic|walk_at"vf")=>`(tactic|first|decide +kernel|(simp only[qAT];decide))
namespace My
open PySem L2
variable{P:Program}{w:World}{K:PySem.W.Frag}{mg:Str->Option Value}{base:Heap}{C:Addr}
variable{H H':Hp}{f:Addr}{fd:FuncData}{ns:List Str}{α:Type}{i:Nat}{y:Str}
section
variable{X:Cx}{scope sc:Scope}{C:Addr}{s₀:Shared}{H₀:Hp}{ex:List Addr}{N P:List Str}{i:Nat}{x:Str}{e:Expr}{te:TE}{pos pos':Pos}{ix:List (Option Nat)}
theorem psS(hN:X.N.Nodup)(he:PE X e te)(hi:X.N[i]?=some x:=by rfl)(hx:Loc X.env.scope x:=by walk_at"lc")(hs:swapsWith e (some (.Name x pos')) pos.line X.env=pure false:=by rfl)(hf:X.fn x=true\/X.env.scope.names.lookup x=some .local:=by first|exact .inl rfl|exact .inr rfl|assumption):PS X (.Assign [.Name x pos'] e pos) (ki te (zJy i)):=zIt hN hi hx he hs hf
theorem pgN(hN:X.N.Nodup)(hi:X.N[i]?=some x:=by rfl)(hx:Loc X.env.scope x:=by walk_at"lc")(hf:X.fn x=true\/X.env.scope.names.lookup x=some .local:=by first|exact .inl rfl|exact .inr rfl|assumption):PG X (.Name x pos) (zJy i):=jn hN hi hx hf
theorem pgB(hi:(X.block scope C s₀ H₀ ex N).N[i]?=some x:=by rfl)(hN:N.Nodup:=by decide +kernel)(hx:Loc (X.block scope C s₀ H₀ ex N).env.scope x:=by walk_at"lc")(hf:(X.block scope C s₀ H₀ ex N).fn x=true\/(X.block scope C s₀ H₀ ex N).env.scope.names.lookup x=some .local:=by first|exact .inl rfl|exact .inr rfl|assumption):PG (X.block scope C s₀ H₀ ex N) (.Name x pos) (zJy i):=jn hN hi hx hf
theorem dtk(hN:X.N[i]?=some x)(D:ah X scope N ix)(hv:Vis X.env.scope x:=by walk_at"vs")(hk:(relabel scope X.env).names.lookup x=some .cell\/(relabel scope X.env).names.lookup x=some .free:=by walk_at"vk")(hf:(x,NameKind.free)∈scope.names:=by walk_at"vf"):ah X scope (x::N) (some i::ix):=.tk hN hv hk hf D
theorem fnS(a:sc.kind= .function:=by rfl)(b:sc.isCoroutine=false:=by rfl)(c:sc.isGenerator=false:=by rfl)(d:N.Nodup:=by decide +kernel)(e:N.take P.length=P:=by rfl)(f:∀x∈P,sc.names.lookup x=some .local\/sc.names.lookup x=some .cell:=by decide +kernel)(g:∀y∈sc.names,y.2≠.free:=by decide +kernel):ag N P sc:=⟨a,b,c,d,e,f,g⟩
end
def top(i:Nat):Stmt:=PySem.Challenge.pw_levelbench_k83_papers_refused.main.body.getD i (.Pass ⟨0,0,0,0⟩)
structure Txt(K:PySem.W.Frag)(mg:Str->Option Value):Prop where
 z_len:mg "len"=none
 z_max:mg "max"=none
 z_range:mg "range"=none
 z_int:mg "int"=none
 z_str:mg "str"=none
 z_list:mg "list"=none
 z_all:mg "all"=none
 z_min:mg "min"=none
 z_dict:mg "dict"=none
 z_bool:mg "bool"=none
 z_abs:mg "abs"=none
 z_reversed:mg "reversed"=none
 z_enumerate:mg "enumerate"=none
 z_any:mg "any"=none
 z_zip:mg "zip"=none
 z_sum:mg "sum"=none
 z_isinstance:mg "isinstance"=none
 z_sorted:mg "sorted"=none
 z_set:mg "set"=none
 z_tuple:mg "tuple"=none
 c_MOST_JOBS:∃t,mg "MOST_JOBS"=some (.int 20 t)
 c_LONGEST_NAME:∃t,mg "LONGEST_NAME"=some (.int 8 t)
section
def zB9(H:Hp)(p:Addr):Prop:=∃a b:Int,H p=some (.lst [.int a,.int b])/\0<=a/\0<=b/\b<2147483629
theorem zB9.kp{M:List Addr}{p:Addr}(h:zB9 H p)(k:Kp M H H')(n:p∉M):zB9 H' p:=by
 obtain⟨a,b,e,r⟩:=h;exact⟨a,b,k p _ e n,r⟩
inductive bo(vs:List V)(H:Hp)(Q:VK)(u_3:XK):Prop
 |mk:∀(p:Addr)(m:Int),vs=[.ref p,.int m]->zB9 H p->1<=m->m<10^100->(∀(d:Int)(H':Hp),0<=d->d<m->zB9 H' p->Kp [p] H H'->Q (.int d) H')->bo vs H Q u_3
abbrev iD:Stmt:=top 55
theorem i5:ag ["_law_purse_here","_law_many","_law_digit"] ["_law_purse_here","_law_many"] (zAg iD):=fnS
theorem qk(F:Fun K "_law_take" "_law_take" iD f fd):ak P w K mg base CX0 1 f fd ["_law_purse_here","_law_many"] bo:=by
 refine F.ok i5 (λvs H Q E h=>?_) (λcdv A outer s H vs Q E hr h=>?_)
 .obtain ⟨p,m,rfl,_⟩:=h;rfl
 .obtain ⟨p,m,rfl,⟨a,b,hp,ha,hb,hb'⟩,hm,hm',k⟩:=h
  refine⟨_,(zAc (zBk (zAr gv (zBd zA0 (pv 0) zAd (λ_ _=>rfl)) zAd (zAv _)) (zAc (psS (i:=2) i5.nd (zAn zBa (zBd zA0 (pv 0) zAd (fun _ _=>rfl)) (pv 1)))
    (zAc (eC (zAn zBr (zBd zA0 (pv 0) zAd (fun _ _=>rfl)) (pv 1)) (iB (pv 0) zAd zI9))
    (zAe (zAw (pv 2))))) zAs) (zAc (eC (zAn zBa (zAn zCy (zAn zFv (zBd zA0 (pv 0) zAd (fun _ _=>rfl)) zAd) zAd) zAd) (iB (pv 0) zAd zI9))
   (zAe (zAw (zAn zBa (zAn zJi (zAn zBa (zAn zFv (zBd zA0 (pv 0) zAd (λ_ _=>rfl)) (zBd zA0 (pv 0) zAd (λ_ _=>rfl))) zAd) zAd) (pv 1)))))),?_⟩
  refine cy ?_;intro _ _ _;refine⟨_,rfl,_,_,_,_,rfl,rfl,SqL.of (by walk_at"lk"),(by walk_at"ix"),_,_,rfl,rfl,_,rfl,?_⟩;refine aA (λc=>?_) (λc=>?_)
  .have c':0<a:=by simpa using c
   refine⟨_,rfl,_,_,_,_,rfl,rfl,SqL.of (by walk_at"lk"),(by walk_at"ix"),_,rfl,_,_,rfl,rfl,(by walk_at"bd"),?_⟩;refine⟨_,rfl,_,_,_,_,rfl,rfl,SqL.of (by walk_at"lk"),(by walk_at"ix"),_,rfl,_,_,rfl,rfl,⟨by walk_at"bd",hm'⟩,_,rfl,_,_,_,_,rfl,rfl,(by walk_at"lk"),(by walk_at"ix"),?_⟩;refine⟨_,rfl,?_⟩;refine k _ _ (qAw _ (by lia)) (qA0 _ (by lia)) ⟨a / m,b,ac,qCQ ha (by lia),hb,hb'⟩ (Kp.put Kp.refl (by simp))
  .refine ⟨_,rfl,_,_,_,_,rfl,rfl,SqL.of (by walk_at"lk"),(by walk_at"ix"),_,_,rfl,rfl,(by walk_at"ml"),_,_,rfl,rfl,_,_,rfl,rfl,(by walk_at"bd"),_,rfl,_,_,_,_,rfl,rfl,(by walk_at"lk"),(by walk_at"ix"),?_⟩;have h1:=qAw (b*39373+7919) (show(2147483629:Int)≠0 by decide);have h2:=qA0 (b*39373+7919) (show(0:Int)<2147483629 by decide);refine⟨_,rfl,_,_,_,_,rfl,rfl,SqL.of (by walk_at"lk"),(by walk_at"ix"),_,rfl,_,_,_,_,rfl,rfl,SqL.of (by walk_at"lk"),(by walk_at"ix"),_,_,rfl,rfl,(by walk_at"ml"),_,_,rfl,rfl,(by walk_at"bd"),_,_,rfl,rfl,⟨by walk_at"bd",by walk_at"bd"⟩,_,rfl,_,_,rfl,rfl,(by walk_at"bd"),?_⟩;refine k _ _ (qAw _ (by lia)) (qA0 _ (by lia)) ⟨a,_,ac,ha,h1,h2⟩ (Kp.put Kp.refl (by simp))
inductive dR(vs:List V)(H:Hp)(Q:VK)(u_3:XK):Prop
 |mk:∀(c k:Int),vs=[.int c,.int k]->-(2^31)<k->k<2^31->(∀(p:Addr)(H':Hp),Fre H p->zB9 H' p->Kp [] H H'->Q (.ref p) H')->dR vs H Q u_3
abbrev eR:Stmt:=top 54
theorem gt:ag ["_law_cell_here","_law_k","_law_number"] ["_law_cell_here","_law_k"] (zAg eR):=fnS
theorem mh(F:Fun K "_law_purse" "_law_purse" eR f fd)(T:Txt K mg):ak P w K mg base CX0 1 f fd ["_law_cell_here","_law_k"] dR:=by
 refine F.ok gt (λvs H Q E h=>?_) (λcdv A outer s H vs Q E hr h=>?_)
 .obtain ⟨p,m,rfl,_⟩:=h;rfl
 .obtain ⟨c,n,rfl,hn,hn',k⟩:=h
  refine⟨_,(zAc (psS (i:=2) gt.nd (zAn zBa (zAn zCy (zAn zCy (zAn zFv (zAn zBa (pv 0) zAd) zAd) (zAn zFv (zAn zFv (pv 1) (pv 1)) zAd)) zAd) zAd)) (zAe (zAw (zAj (zAa (zAi (km rfl) (by rfl) T.z_max se (zAa zAd (zAa (zAn zE9 (pv 0) (zAn iw zAd zAd)) zAb))) (zAa (zAn zBa (zAn zFv (pv 2) (pv 2)) zAd) zAb)))))),?_⟩
  refine bG ?_;intro _ _;refine⟨_,rfl,_,_,rfl,rfl,(by walk_at"bd"),_,_,rfl,rfl,(by walk_at"ml"),_,rfl,_,rfl,_,_,rfl,rfl,(by walk_at"ml"),_,_,rfl,rfl,(by walk_at"ml"),_,_,rfl,rfl,_,_,rfl,rfl,_,_,rfl,rfl,(by walk_at"bd"),?_⟩;generalize c % 2147483629*48271+n*n*69623+11=y;have h1:=qAw y (show(2147483647:Int)≠0 by decide);have h2:=qA0 y (show(0:Int)<2147483647 by decide);refine⟨_,rfl,_,_,rfl,rfl,⟨by decide,by decide,by decide⟩,_,_,rfl,rfl,_,_,rfl,_,rfl,_,rfl,_,_,rfl,rfl,(by walk_at"ml"),_,_,rfl,rfl,(by walk_at"bd"),(by walk_at"ln"),λp hp=>?_⟩;refine k p _ hp ⟨_,_,ac,?_,qAw _ (by decide),qA0 _ (by decide)⟩ (Kp.new Kp.refl hp);split<;>lia
inductive hV(K:PySem.W.Frag)(vs:List V)(H:Hp)(Q:VK)(u_3:XK):Prop
 |mk:∀(a:Addr)(ns:List Int)(k:Int),vs=[.ref a,.int k]->SqL K H a (ns.map V.int)->0<=k->(∀c:Int,Q (.int c) H)->hV K vs H Q u_3
abbrev iJ:Stmt:=top 53
theorem pK:ag ["_law_script","_law_k"] ["_law_script","_law_k"] (zAg iJ):=fnS
theorem pF(F:Fun K "_law_cell" "_law_cell" iJ f fd)(T:Txt K mg):ak P w K mg base CX0 1 f fd ["_law_script","_law_k"] (hV K):=by
 refine F.ok pK (λvs H Q E h=>?_) (λcdv A outer s H vs Q E hr h=>?_)
 .obtain ⟨p,m,n,rfl,_⟩:=h;rfl
 .obtain ⟨a,ns,n,rfl,hS,hn,k⟩:=h;refine⟨_,(zAe (zAw (oP (zAr fQ (pv 1) (zAi zAp (by rfl) T.z_len zBy (zAa (pv 0) zAb)) (zAv _)) (zBd zA0 (pv 0) (pv 1) (λ_ _=>rfl)) zAd))),?_⟩;refine⟨_,rfl,_,rfl,_,_,rfl,.inl hS,_,_,rfl,rfl,_,rfl,?_⟩;refine aA (λc=>?_) (λc=>?_)
  .have c':n<ns.length:=by simpa using c
   have hx:(ns.map V.int)[n.toNat]?=some (V.int (ns[n.toNat]'(by lia))):=by simp
   refine⟨_,rfl,_,rfl,_,_,_,_,rfl,rfl,hS,zEj hn hx,k _⟩
  .exact k _
end
def zIp(s:Str):Prop:=1<=s.length/\s.length<=8/\∀c∈s.cps.toList,97<=c/\c<=122
def jx(n:Nat)(s:Str):Prop:=s.length=n/\∀c∈s.cps.toList,97<=c/\c<=122
theorem pY(a b:Str):(a++b).length=a.length+b.length:=by
 show(a++b).cps.size=_;rw[Str.cps_append,Array.size_append];rfl
theorem jx.more{n:Nat}{s:Str}(h:jx n s){c:Nat}(h1:97<=c)(h2:c<=122):jx (n+1) (s++⟨#[c]⟩):=by
 refine⟨by rw[pY,h.1];rfl,λx hx=>?_⟩;rw[Str.cps_append,qCY]at hx;rcases qAR.mp hx with z|z
 .exact h.2 x z
 .have:x=c:=by simpa using z
  lia
def zEx:Str:="abcdefghijklmnopqrstuvwxyz"
theorem zEw:zEx.cps.toList=(List.range 26).map (97+·):=by decide +kernel
theorem iL{d:Int}(h0:0<=d)(h1:d<26):atI zEx.cps.toList d=some (97+d.toNat):=by
 refine zEj h0 ?_;have:d.toNat<26:=by lia
 rw[zEw,qAY,List.getElem?_range this];rfl
theorem zFh(a c:Nat):(!(decide (([c]:List Nat)<[a])))=decide (a<=c):=by
 have:(([c]:List Nat)<[a])↔c<a:=by
  constructor
  .intro h
   cases h with
   |rel h=>exact h
   |cons h=>cases h
  .intro h;exact List.Lex.rel h
 by_cases h:c<a
 .rw [qAV (this.mpr h),qAZ (by lia)];rfl
 .rw [qAZ (λz=>h (this.mp z)),qAV (by lia)];rfl
section
def zJo(s:Str):Bool:=decide (1<=s.length)&&decide (s.length<=8)&&s.cps.toList.all λc=>decide (97<=c)&&decide (c<=122)
theorem kj(s:Str):zJo s=true↔zIp s:=by
 unfold zJo zIp;simp only[qBS,qC5,qBt];exact⟨λ⟨⟨a,b⟩,c⟩=>⟨a,b,c⟩,λ⟨a,b,c⟩=>⟨⟨a,b⟩,c⟩⟩
inductive cg(vs:List V)(H:Hp)(Q:VK)(u_3:XK):Prop
 |mk:∀(x:Str),vs=[.str x]->x.length<=1000000->(∀H',Kp [] H H'->Q (.bl (zJo x)) H')->cg vs H Q u_3
abbrev zFp:Stmt:=top 27
theorem g7:ag ["thing"] ["thing"] (zAg zFp):=fnS
theorem ik(F:Fun K "is_name" "is_name" zFp f fd)(T:Txt K mg):ak P w K mg base CX0 1 f fd ["thing"] cg:=by
 refine F.ok g7 (λvs H Q E h=>?_) (λcdv A outer s H vs Q E hr h=>?_)
 .obtain ⟨x,rfl,_⟩:=h;rfl
 .obtain ⟨x,rfl,hx,k⟩:=h;obtain⟨tL,hL⟩:=T.c_LONGEST_NAME
  refine⟨_,(zAc (zBk (PW.pt (zEk (zBm (zBi (zAi zBg (by rfl) T.z_isinstance zAl (zAa (pv 0) (zAa (zBw (by rfl) T.z_str fj (v:=.ty "str") rfl) zAb))))) (zDv (zBm (lG rj rj zAd (zAi eV (by rfl) T.z_len zBy (zAa (pv 0) zAb)) (zBs rfl hL (v:=.int 8) ⟨_,rfl⟩)))))) (zAe (zAw zEs)) zAs) (zAe (zAw (zAi (zE6 _ rfl) (by rfl) T.z_all zI3 (zAa (zBn rfl (zBp (sc:=zAg zFp) rfl (by decide +kernel)) (ah.own (x:="sign") ah.nil) (l_ (pv 0)) (λ_ _ _ _=>(pgB (i:=0))) (λ_ _ _ _=>zCm) (λ_ _ _ _=>(nr dk dk zAu (pv 0) zAu))) zAb))))),?_⟩
  refine bG ?_;intro _ _;refine⟨_,rfl,_,_,_,_,rfl,ao.str x,zA1,_,rfl,aw ?_⟩;refine⟨_,rfl,_,rfl,?_,_,_,rfl,rfl,_,rfl,?_⟩
  .rw [qAK];lia
  refine aA (λc=>?_) (λc=>?_)
  .have c1:1<=x.length:=by
    have:=qBm c;lia
   refine⟨_,_,rfl,rfl,_,rfl,?_⟩;refine aA (λc=>?_) (λc=>?_)
   .-- too long
    have c2:¬(x.length<=8):=λz=>by
     have:decide ((x.length:Int)<=8)=true:=qAV (by lia);rw[this]at c;cases c
    have e:zJo x=false:=by
     unfold zJo;rw[qAZ c2];simp
    rw[<-e];exact k H Kp.refl
   .have c2:x.length<=8:=by
     by_cases z:(x.length:Int)<=8
     .lia
     .rw [qAZ z]at c;exact absurd rfl c
    refine⟨_,rfl,_,rfl,λD hD=>kO (z:=x) (λi ys τ H'=>(∃o0,τ=[o0])/\ys=((x.cps.toList.take i).map λc=>V.bl (decide (97<=c)&&decide (c<=122)))/\H'=upd H D (.lst ys)) ⟨⟨_,rfl⟩,rfl,rfl⟩ ?_ ?_⟩
    .rintro i c ys τ H' hc ⟨⟨o0,rfl⟩,rfl,rfl⟩;have ei:x.cps.toList.take (i+1)=x.cps.toList.take i++[c]:=by rw[qC1,hc];rfl
     have hi:i<x.cps.toList.length:=(qAL.mp hc).1;have hlen:x.cps.toList.length=x.length:=by simp[Str.length]
     have fin:∀b:Bool,b=(decide (97<=c)&&decide (c<=122))->(upd H D (.lst ((x.cps.toList.take i).map λc=>V.bl (decide (97<=c)&&decide (c<=122))))) D=some (.lst ((x.cps.toList.take i).map λc=>V.bl (decide (97<=c)&&decide (c<=122))))/\((x.cps.toList.take i).map λc=>V.bl (decide (97<=c)&&decide (c<=122))).length<sizeLine /\
       ((∃o0,([some (V.str ⟨#[c]⟩)]:St)=[o0])/\((x.cps.toList.take i).map fun c=>V.bl (decide (97<=c)&&decide (c<=122)))++[V.bl b]=((x.cps.toList.take (i+1)).map fun c=>V.bl (decide (97<=c)&&decide (c<=122))) /\
       upd (upd H D (.lst ((x.cps.toList.take i).map λc=>V.bl (decide (97<=c)&&decide (c<=122))))) D (.lst (((x.cps.toList.take i).map λc=>V.bl (decide (97<=c)&&decide (c<=122)))++[V.bl b]))=upd H D (.lst (((x.cps.toList.take i).map λc=>V.bl (decide (97<=c)&&decide (c<=122)))++[V.bl b]))):=λb hb=>by
      refine⟨ac,?_,⟨_,rfl⟩,?_,zB7⟩
      .rw [qAD,qAU,qAK];lia
      .rw [ei,qAP,hb];rfl
     refine⟨_,rfl,_,_,rfl,rfl,_,rfl,?_⟩;refine aA (λc1=>?_) (λc1=>?_)
     .refine ⟨_,_,rfl,rfl,fin _ ?_⟩;have c1:(!(decide (([c]:List Nat)<[97])))=true:=c1;rw[zFh]at c1;show(!(decide (([122]:List Nat)<[c])))=_;rw[zFh,c1];rfl
     .refine fin _ ?_;have c1:¬(!(decide (([c]:List Nat)<[97])))=true:=c1;rw[zFh]at c1;rw[Bool.not_eq_true]at c1;rw[c1];rfl
    .rintro ys τ H' ⟨⟨o0,rfl⟩,rfl,rfl⟩;have hlen:x.cps.toList.take x.length=x.cps.toList:=qBN (by simp[Str.length]);refine⟨D,x.cps.toList.map (λc=>decide (97<=c)&&decide (c<=122)),rfl,SqL.of ?_,?_⟩
     .rw [ac,hlen,qBO];rfl
     .have e:((x.cps.toList.map (λc=>decide (97<=c)&&decide (c<=122))).all id)=zJo x:=by
       unfold zJo;rw[qAV c1,qAV c2,qCg];rfl
      rw[e];exact k _ (Kp.new Kp.refl hD)
  .-- empty
   have c1:¬(1<=x.length):=λz=>c (qAV (by lia));refine⟨_,rfl,?_⟩;refine bp ?_
   have e:zJo x=false:=by
    unfold zJo;rw[qAZ c1];simp
   rw[<-e];exact k H Kp.refl
end
abbrev Txs(H:Hp)(l:Addr)(ns:List Str):Prop:=H l=some (.lst (ns.map V.str))
structure bA(H:Hp)(l:Addr)(qs:List (List Str×Addr)):Prop where
 top:H l=some (.lst (qs.map λq=>V.ref q.2))
 row:∀q∈qs,H q.2=some (.tup (q.1.map V.str))
 two:∀q∈qs,∃a b,q.1=[a,b]
theorem zH5(x:Str)(ns:List Str):inV (.str x) (ns.map V.str)=decide (x∈ns):=by
 unfold inV
 induction ns with
 |nil=>rfl
 |cons n r ih=>
  rw[qAt,qCI,ih];show((n==x)||_)=_
  by_cases e:n=x
  .subst e;simp
  .have e':¬x=n:=λz=>e z.symm;rw[qBG.mpr e];simp[e']
theorem zDd(ns:List Str):(ns.map V.str).all zGm=true:=by simp[zGm]
section
inductive bg(vs:List V)(H:Hp)(Q:VK)(u_3:XK):Prop
 |mk:∀(x:Str)(l:Addr)(ns:List Str),vs=[.str x,.ref l]->Txs H l ns->Q (.bl (decide (x∈ns))) H->bg vs H Q u_3
abbrev zD0:Stmt:=top 28
theorem zGp:ag ["thing","names"] ["thing","names"] (zAg zD0):=fnS
theorem dA(F:Fun K "is_one_of" "is_one_of" zD0 f fd)(T:Txt K mg):ak P w K mg base CX0 1 f fd ["thing","names"] bg:=by
 refine F.ok zGp (λvs H Q E h=>?_) (λcdv A outer s H vs Q E hr h=>?_)
 .obtain ⟨x,l,ns,rfl,_⟩:=h;rfl
 .obtain ⟨x,l,ns,rfl,hl,k⟩:=h;refine⟨_,(zAe (zAw (dL (zAi zBg (by rfl) T.z_isinstance zAl (zAa (pv 0) (zAa (zBw (by rfl) T.z_str fj (v:=.ty "str") rfl) zAb))) (cu (zCs zFw (pv 0) (pv 1) (by rfl)))))),?_⟩;refine⟨_,rfl,_,_,_,_,rfl,ao.str x,zA1,_,rfl,bp ?_⟩;refine⟨_,rfl,_,rfl,_,_,rfl,.inl (SqL.of hl),rfl,zDd ns,?_⟩;rw[zH5];exact k
inductive aY(vs:List V)(H:Hp)(Q:VK)(u_3:XK):Prop
 |mk:∀(x:Str)(l:Addr)(ns:List Str),vs=[.ref l,.str x]->Txs H l ns->x∈ns->Q .non H->aY vs H Q u_3
abbrev zFf:Stmt:=top 45
theorem dX:ag ["names","thing"] ["names","thing"] (zAg zFf):=fnS
theorem eO(F:Fun K "check_job" "check_job" zFf f fd)(T:Txt K mg)(C_is_one_of:Cal P w K mg base "is_one_of" 1 ["thing","names"] bg):ak P w K mg base CX0 2 f fd ["names","thing"] aY:=by
 refine F.ok dX (λvs H Q E h=>?_) (λcdv A outer s H vs Q E hr h=>?_)
 .obtain ⟨x,l,ns,rfl,_⟩:=h;rfl
 .obtain ⟨x,l,ns,rfl,hl,hx,k⟩:=h;have HR_is_one_of:=hr
  refine⟨_,(zAe (zBk (zBm (zBi (zAh C_is_one_of HR_is_one_of rfl (zAa (pv 1) (zAa (pv 0) zAb))))) (zAe zAz) zAs)),?_⟩
  refine⟨_,rfl,_,rfl,x,l,ns,rfl,hl,?_⟩;rw[qAV hx];exact⟨_,rfl,aw k⟩
end
abbrev dT1(ns:List Str)(g:Str->V):List (Key×V):=ns.map λn=>(Sum.inr n,g n)
theorem zCh(g:Str->V)(x:Str):∀ns:List Str,aR (dT1 ns g) (.inr x)=if x∈ns then some (g x)else none
 |[]=>rfl
 |n::r=>by
  by_cases e:n=x
  .subst e;have h1:aR (dT1 (n::r) g) (.inr n)=some (g n):=zGy rfl;rw[h1];simp
  .have h1:aR (dT1 (n::r) g) (.inr x)=aR (dT1 r g) (.inr x):=zGz λz=>e (Sum.inr.inj z);rw[h1,zCh g x r];have e':¬x=n:=λz=>e z.symm;simp[e']
theorem zD3{g:Str->V}{x:Str}(v:V)(h:x∉ns):aT (dT1 ns g) (.inr x) v=dT1 ns g++[(.inr x,v)]:=nN v (by rw[zCh];simp[h])
theorem zAk{xs:List α}{x:α}(h:xs[i]?=some x):xs.take (i+1)=xs.take i++[x]:=by rw[qC1,h];rfl
theorem zA9{v:V}(h:(ns.map V.str)[i]?=some v):∃n,ns[i]?=some n/\v= .str n:=by
 rw[qAY]at h;obtain⟨n,e,r⟩:=qBU.mp h;exact⟨n,e,r.symm⟩
theorem zE4{xs:List α}(h:xs.Nodup){x:α}(e:xs[i]?=some x):x∉xs.take i:=λz=>by
 obtain⟨hi,rfl⟩:=qAL.mp e;obtain⟨j,hj,e2⟩:=qBL.mp z;rw[qAU]at hj;rw[List.getElem_take]at e2;have:=(List.getElem_inj h).mp e2;lia
section
inductive aZ(vs:List V)(H:Hp)(Q:VK)(u_3:XK):Prop
 |mk:∀(l:Addr)(ns:List Str),vs=[.ref l]->Txs H l ns->ns.length<=20->(∀n∈ns,zIp n)->ns.Nodup->(∀H',Kp [] H H'->Q .non H')->aZ vs H Q u_3
abbrev zD2:Stmt:=top 43
theorem zCv:ag ["names","thing","seen","name"] ["names"] (zAg zD2):=fnS
theorem zIj(F:Fun K "check_names" "check_names" zD2 f fd)(T:Txt K mg)(C_is_name:Cal P w K mg base "is_name" 1 ["thing"] cg):ak P w K mg base CX0 2 f fd ["names"] aZ:=by
 refine F.ok zCv (λvs H Q E h=>?_) (λcdv A outer s H vs Q E hr h=>?_)
 .obtain ⟨l,ns,rfl,_⟩:=h;rfl
 .obtain ⟨l,ns,rfl,hl,hn,hN,hD,k⟩:=h;have HR_is_name:=hr;have hu:=zF2 hr;obtain⟨tM,hM⟩:=T.c_MOST_JOBS
  refine⟨_,(zAc (zBk (zAr gv (zAi zAp (by rfl) T.z_len zBy (zAa (pv 0) zAb)) (zBs rfl hM (v:=.int 20) ⟨_,rfl⟩) (zAv _)) (zAe zAz) zAs) (zAc (zA7 qAc rfl (zAq (pv 0)) (pgN (i:=1) zCv.nd)
    (zAe (zBk (zBm (zBi (zAh C_is_name HR_is_name rfl (zAa (pv 1) zAb))))
     (zAe zAz)
     zAs)))
   (zAc (psS (i:=2) zCv.nd zBv)
   (zAe (zA7 qAc rfl (zAq (pv 0)) (pgN (i:=3) zCv.nd)
    (zAc (zBk (zEg (zHp hu (pv 3) (pv 2)))
     (zAe zAz)
     zAs)
    (zAe (zD4 hu (pv 2) (pv 3) zEs rfl)))))))),?_⟩
  refine bE ?_;intro _ _ _ _;refine⟨_,rfl,_,_,rfl,.inl (SqL.of hl),_,_,rfl,rfl,_,rfl,?_⟩;rw[qAZ (by rw[qAD];lia)];refine aw ?_;refine⟨_,rfl,_,rfl,⟨_,SqL.of hl⟩,zA3 (λi σ H2=>(∃o1 o2 o3:Option V,σ=[some (.ref l),o1,o2,o3])/\Kp [] H H2) ⟨⟨_,_,_,rfl⟩,Kp.refl⟩ (λi σ H2 _ ⟨_,k2⟩=>SqL.of (k2 l _ hl (by simp))) ?_ ?_⟩
  .rintro i v σ H2 hv ⟨⟨o1,o2,o3,rfl⟩,k2⟩;obtain⟨n,en,rfl⟩:=zA9 hv;have nn:=hN n (qAJ en);refine⟨_,rfl,n,rfl,by have:=nn.2.1;lia,λH3 k3=>?_⟩;rw[(kj n).mpr nn];exact⟨_,rfl,aw ⟨⟨_,_,_,rfl⟩,k2.trans k3⟩⟩
  .rintro σ H2 ⟨⟨o1,o2,o3,rfl⟩,k2⟩;have hl2:Txs H2 l ns:=k2 l _ hl (by simp);refine λd hd=>?_;have fd:Fre H2 d:=hd;have fdH:Fre H d:=k2.fre fd (by simp);refine⟨_,rfl,_,rfl,⟨_,SqL.of ((Kp.new (M:=[]) Kp.refl fd) l _ hl2 (by simp))⟩,zA3 (λi σ H3=>(∃o1 o3:Option V,σ=[some (.ref l),o1,some (.ref d),o3])/\Kp [] H H3/\H3 d=some (.dK (dT1 (ns.take i) λ_=>.bl true))) ⟨⟨_,_,rfl⟩,Kp.new k2 fdH,ac⟩ (λi σ H3 _ ⟨_,k3,_⟩=>SqL.of (k3 l _ hl (by simp))) ?_ ?_⟩
   .rintro i v σ H3 hv ⟨⟨o1,o3,rfl⟩,k3,h3⟩;refine bG ?_;intro _ _;obtain⟨n,en,rfl⟩:=zA9 hv;have ni:=zE4 hD en;refine⟨_,rfl,_,rfl,_,_,rfl,aH.k (k:=Sum.inr n) h3,_,rfl,?_⟩;rw[zCh,qAB ni];refine aw ?_;refine⟨_,rfl,_,rfl,_,_,rfl,bz.k (k:=Sum.inr n) h3 ?_,?_⟩
    .rw [qAD,qAU,qAK];lia
    .refine ⟨⟨_,_,rfl⟩,Kp.new k3 fdH,?_⟩;rw[ac,zD3 _ ni,zAk en];unfold dT1;rw[qAP];rfl
   .rintro σ H3 ⟨⟨o1,o3,rfl⟩,k3,h3⟩;exact k H3 k3
end
theorem eS{qs:List (List Str×Addr)}{v:V}(h:(qs.map λq=>V.ref q.2)[i]?=some v):∃q,qs[i]?=some q/\v= .ref q.2:=by
 rw[qAY]at h;obtain⟨n,e,r⟩:=qBU.mp h;exact⟨n,e,r.symm⟩
theorem bA.kp{M:List Addr}{l:Addr}{qs:List (List Str×Addr)}(o:bA H l qs)(k:Kp M H H')(h1:l∉M)(h2:∀q∈qs,q.2∉M):bA H' l qs:=⟨k l _ o.top h1,λq hq=>k _ _ (o.row q hq) (h2 q hq),o.two⟩
section
inductive aX(vs:List V)(H:Hp)(Q:VK)(u_3:XK):Prop
 |mk:∀(l m:Addr)(ns:List Str) (qs:List (List Str×Addr)),vs=[.ref l,.ref m]->Txs H l ns->bA H m qs->(∀q∈qs,∀x∈q.1,x∈ns)->Q .non H->aX vs H Q u_3
abbrev zD1:Stmt:=top 44
theorem zDo:ag ["names","orders","order","part"] ["names","orders"] (zAg zD1):=fnS
theorem zIi(F:Fun K "check_parts" "check_parts" zD1 f fd)(T:Txt K mg)(C_check_job:Cal P w K mg base "check_job" 2 ["names","thing"] aY):ak P w K mg base CX0 3 f fd ["names","orders"] aX:=by
 refine F.ok zDo (λvs H Q E h=>?_) (λcdv A outer s H vs Q E hr h=>?_)
 .obtain ⟨l,m,ns,qs,rfl,_⟩:=h;rfl
 .obtain ⟨l,m,ns,qs,rfl,hl,hm,hq,k⟩:=h;have HR_check_job:=hr
  refine⟨_,(zAe (zA7 qAc rfl (zAq (pv 1)) (pgN (i:=2) zDo.nd) (zAe (zA7 qAc rfl (tQ (pv 2)) (pgN (i:=3) zDo.nd)
     (zAe (zA2 (zAh C_check_job HR_check_job rfl (zAa (pv 0) (zAa (pv 3) zAb))))))))),?_⟩
  refine⟨_,rfl,_,rfl,⟨_,SqL.of hm.top⟩,zA3 (λi σ H2=>(∃o2 o3:Option V,σ=[some (.ref l),some (.ref m),o2,o3])/\H2=H) ⟨⟨_,_,rfl⟩,rfl⟩ (λi σ H2 _ ⟨_,e⟩=>by subst e;exact SqL.of hm.top) ?_ ?_⟩
  .rintro i v σ H2 hv ⟨⟨o2,o3,rfl⟩,rfl⟩;obtain⟨q,eq,rfl⟩:=eS hv;have mq:=qAJ eq;refine⟨_,rfl,_,rfl,⟨_,.inl (.inl (hm.row q mq))⟩,qK (λj σ H3=>(∃o3:Option V,σ=[some (.ref l),some (.ref m),some (.ref q.2),o3])/\H3=H2) ⟨⟨_,rfl⟩,rfl⟩ (λj σ H3 _ ⟨_,e⟩=>by subst e;exact .inl (.inl (hm.row q mq))) ?_ ?_⟩
   .rintro j v σ H3 hv ⟨⟨o3,rfl⟩,rfl⟩;obtain⟨x,ex,rfl⟩:=zA9 hv;exact⟨_,rfl,_,rfl,x,l,ns,rfl,hl,hq q mq x (qAJ ex),⟨_,rfl⟩,rfl⟩
   .rintro σ H3 ⟨⟨o3,rfl⟩,rfl⟩;exact⟨⟨_,_,rfl⟩,rfl⟩
  .rintro σ H2 ⟨⟨o2,o3,rfl⟩,rfl⟩;exact k
end
def fst(q:List Str×Addr):Str:=q.1.getD 0 Str.empty
def snd(q:List Str×Addr):Str:=q.1.getD 1 Str.empty
def told(qs:List (List Str×Addr))(n:Str):List Str:=(qs.filter λq=>decide (snd q=n)).map fst
theorem lA(qs:List (List Str×Addr))(q:List Str×Addr)(n:Str):told (qs++[q]) n=if snd q=n then told qs n++[fst q]else told qs n:=by
 unfold told;rw[qBY]
 by_cases e:snd q=n
 .rw [qAC e];simp[e]
 .rw [qAB e];simp[e]
theorem gz(qs:List (List Str×Addr))(n:Str):(told qs n).length<=qs.length:=by
 unfold told;rw[qAD];exact qBe _ _
structure DL(H0 H:Hp)(d:Addr)(ns:List Str)(la:Str->Addr)(f:Str->List Str):Prop where
 top:H d=some (.dK (dT1 ns λn=>.ref (la n)))
 row:∀n∈ns,Txs H (la n) (f n)
 ne:∀n∈ns,la n≠d
 inj:∀n∈ns,∀m∈ns,la n=la m->n=m
 fr:Fre H0 d
 frs:∀n∈ns,Fre H0 (la n)
theorem zH9{g g':Str->V}(h:∀n∈ns,g n=g' n):dT1 ns g=dT1 ns g':=List.map_congr_left λn hn=>by rw[h n hn]
section
inductive ba(vs:List V)(H:Hp)(Q:VK)(u_3:XK):Prop
 |mk:∀(l m:Addr)(ns:List Str) (qs:List (List Str×Addr)),vs=[.ref l,.ref m]->Txs H l ns->bA H m qs->ns.Nodup->ns.length<=20->qs.length<=4096->(∀q∈qs,∀x∈q.1,x∈ns)->(∀d la H',DL H H' d ns la (told qs)->Kp [] H H'->Q (.ref d) H')->ba vs H Q u_3
abbrev zEo:Stmt:=top 46
theorem zCj:ag ["names","orders","told","name","one","other"] ["names","orders"] (zAg zEo):=fnS
theorem zJk(F:Fun K "told_ahead" "told_ahead" zEo f fd):ak P w K mg base CX0 1 f fd ["names","orders"] ba:=by
 refine F.ok zCj (λvs H Q E h=>?_) (λcdv A outer s H vs Q E hr h=>?_)
 .obtain ⟨l,m,ns,qs,rfl,_⟩:=h;rfl
 .obtain ⟨l,m,ns,qs,rfl,hl,hm,hN,hn,hz,hq,k⟩:=h;have hu:=zF2 hr
  refine⟨_,(zAc (psS (i:=2) zCj.nd zBv) (zAc (zA7 qAc rfl (zAq (pv 0)) (pgN (i:=3) zCj.nd)
    (zAe (zD4 hu (pv 2) (pv 3) (zAj zAb) rfl)))
   (zAc (zA7 qAc rfl (zAq (pv 1)) (zIv rfl (zBf (pgN (i:=4) zCj.nd) (zBf (pgN (i:=5) zCj.nd) zD5)))
    (zAe (zA2 (zD6 qAx qBz qB0 zCb (zB8 hu (pv 2) (pv 5) (λ_ _=>rfl)) (zAa (pv 4) zAb)))))
   (zAe (zAw (pv 2)))))),?_⟩
  refine bE ?_;intro _ _ _ _;refine λd hd=>?_;have fd:Fre H d:=hd
  refine⟨_,rfl,_,rfl,⟨_,SqL.of ((Kp.new (M:=[]) Kp.refl fd) l _ hl (by simp))⟩,zA3 (λi σ H2=>(∃o3 o4 o5:Option V,σ=[some (.ref l),some (.ref m),some (.ref d),o3,o4,o5])/\Kp [] H H2/\∃la,DL H H2 d (ns.take i) la λ_=>[]) ⟨⟨_,_,_,rfl⟩,Kp.new Kp.refl fd,λ_=>0,ac,(λn h=>nomatch h),(λn h=>nomatch h),(λn h=>nomatch h),fd,(λn h=>nomatch h)⟩ (λi σ H2 _ ⟨_,k2,_⟩=>SqL.of (k2 l _ hl (by simp))) ?_ ?_⟩
  .rintro i v σ H2 hv ⟨⟨o3,o4,o5,rfl⟩,k2,la,D⟩;obtain⟨n,en,rfl⟩:=zA9 hv;have ni:=zE4 hN en;refine⟨(by walk_at"ln"),λb hb=>?_⟩;have fb:Fre H2 b:=hb;have ndb:d≠b:=ae fb D.top;have fbH:Fre H b:=k2.fre fb (by simp);refine⟨_,rfl,_,rfl,_,_,rfl,bz.k (k:=Sum.inr n) ((ad ndb).trans D.top) ?_,?_⟩
   .rw [qAD,qAU,qAK];lia
   .have nlb:∀x∈ns.take i,la x≠b:=λx hx=>ae fb (D.row x hx);refine⟨⟨_,_,_,rfl⟩,Kp.new (Kp.new k2 fbH) fd,λx=>if x=n then b else la x,?_,λx hx=>?_,λx hx=>?_,λx hx y hy e=>?_,fd,λx hx=>?_⟩
    .rw [ac,zD3 _ ni,zAk en];have:dT1 (ns.take i) (λn=>V.ref (la n))=dT1 (ns.take i) (λx=>V.ref (if x=n then b else la x)):=zH9 λx hx=>by rw[qAB λ(z:x=n)=>ni (z▸hx)]
     rw[this];unfold dT1;rw[qAP];simp
    .rw [zAk en]at hx
     by_cases z:x=n
     .rw [qAC z];exact(ad ndb.symm).trans ac
     .rw [qAB z]
      have hx':x∈ns.take i:=by
       rcases qAR.mp hx with y|y
       .exact y
       .exact absurd (qAO.mp y) z
      exact(ad (D.ne x hx')).trans ((ad (nlb x hx')).trans (D.row x hx'))
    .rw [zAk en]at hx
     by_cases z:x=n
     .rw [qAC z];exact ndb.symm
     .rw [qAB z];rcases qAR.mp hx with y|y
      .exact D.ne x y
      .exact absurd (qAO.mp y) z
    .rw [zAk en]at hx hy
     have mem:∀x,x∈ns.take i++[n]->x≠n->x∈ns.take i:=λx hx z=>by
      rcases qAR.mp hx with y|y
      .exact y
      .exact absurd (qAO.mp y) z
     by_cases z:x=n
     .by_cases z':y=n
      .rw [z,z']
      .rw [qAC z,qAB z']at e;exact absurd e.symm (nlb y (mem y hy z'))
     .by_cases z':y=n
      .rw [qAB z,qAC z']at e;exact absurd e (nlb x (mem x hx z))
      .rw [qAB z,qAB z']at e;exact D.inj x (mem x hx z) y (mem y hy z') e
    .rw [zAk en]at hx
     by_cases z:x=n
     .rw [qAC z];exact fbH
     .rw [qAB z];rcases qAR.mp hx with y|y
      .exact D.frs x y
      .exact absurd (qAO.mp y) z
  .rintro σ H2 ⟨⟨o3,o4,o5,rfl⟩,k2,la,D⟩;have eN:ns.take (ns.map V.str).length=ns:=by rw[qAD,qAg]
   rw[eN]at D
   refine⟨_,rfl,_,rfl,⟨_,SqL.of (k2 m _ hm.top (by simp))⟩,zA3 (λi σ H3=>(∃o3 o4 o5:Option V,σ=[some (.ref l),some (.ref m),some (.ref d),o3,o4,o5])/\Kp [] H H3/\DL H H3 d ns la (told (qs.take i))) ⟨⟨_,_,_,rfl⟩,k2,D⟩ (λi σ H3 _ ⟨_,k3,_⟩=>SqL.of (k3 m _ hm.top (by simp))) ?_ ?_⟩
   .rintro i v σ H3 hv ⟨⟨o3,o4,o5,rfl⟩,k3,D⟩;obtain⟨q,eq,rfl⟩:=eS hv;have mq:=qAJ eq;obtain⟨a,b,eab⟩:=hm.two q mq
    have hrow:H3 q.2=some (.tup [.str a,.str b]):=by
     have:=k3 q.2 _ (hm.row q mq) (by simp);rw[eab]at this;exact this
    have hb:b∈ns:=hq q mq b (by rw[eab];simp);have esnd:snd q=b:=by unfold snd;rw[eab];rfl
    have efst:fst q=a:=by unfold fst;rw[eab];rfl
    refine⟨_,_,rfl,.inl (.inl hrow),rfl,_,_,rfl,_,_,rfl,rfl,?_⟩;refine⟨_,rfl,_,rfl,_,.ref (la b),rfl,?_,.inl ⟨rfl,_,SqL.of (D.row b hb)⟩,_,rfl,_,_,_,rfl,rfl,D.row b hb,?_,?_⟩
    .have:=aH.k (k:=Sum.inr b) D.top;rw[zCh,qAC hb]at this;exact this
    .have:=gz (qs.take i) b;rw[qAU]at this;rw[qAD,qAK];lia
    .refine ⟨⟨_,_,_,rfl⟩,Kp.new k3 (D.frs b hb),?_⟩;rw[zAk eq];refine⟨(ad (D.ne b hb).symm).trans D.top,λx hx=>?_,D.ne,D.inj,D.fr,D.frs⟩;show upd H3 (la b) _ (la x)=some (.lst ((told (qs.take i++[q]) x).map V.str));rw[lA,esnd,efst]
     by_cases z:b=x
     .subst z;rw[qAC rfl,ac,qAP];rfl
     .rw [qAB z,ad λy=>z (D.inj b hb x hx y.symm)];exact D.row x hx
   .rintro σ H3 ⟨⟨o3,o4,o5,rfl⟩,k3,D⟩;have eQ:qs.take (qs.map λq=>V.ref q.2).length=qs:=by rw[qAD,qAg]
    rw[eQ]at D;exact⟨_,rfl,k d la H3 D k3⟩
end
def aS(A:List Str)(x:Str):List Str:=if x∈A then A else A++[x]
theorem fZ{A:List Str}{x:Str}:y∈aS A x↔y∈A\/y=x:=by
 unfold aS
 by_cases h:x∈A
 .rw [qAC h];exact⟨.inl,λz=>z.elim id λe=>e▸h⟩
 .rw [qAB h];simp
theorem zIw{A:List Str}{x:Str}(h:A.Nodup):(aS A x).Nodup:=by
 unfold aS
 by_cases hx:x∈A
 .rw [qAC hx];exact h
 .rw [qAB hx];refine qBX.mpr ⟨h,by simp,λa ha b hb=>?_⟩;rw[qAO.mp hb];rintro rfl;exact hx ha
theorem cH :∀(B A:List Str),y∈B.foldl aS A↔y∈A\/y∈B
 |[],A=>by simp
 |b::B,A=>by
  rw[qBr,cH B (aS A b),fZ,qAT,or_assoc]
theorem zHt:∀(B A:List Str),A.Nodup->(B.foldl aS A).Nodup
 |[],A,h=>h
 |b::B,A,h=>zHt B _ (zIw h)
def zCq(S:Str->List Str)(ms:List Str):List Str:=ms.foldl (λA m=>(S m).foldl aS (aS A m)) []
theorem gZ(S:Str->List Str)(ms:List Str)(m:Str):zCq S (ms++[m])=(S m).foldl aS (aS (zCq S ms) m):=by unfold zCq;rw[List.foldl_append];rfl
theorem zIx{S:Str->List Str} :∀(ms A:List Str),y∈ms.foldl (λA m=>(S m).foldl aS (aS A m)) A↔y∈A\/y∈ms\/∃m∈ms,y∈S m
 |[],A=>by simp
 |m::ms,A=>by
  rw[qBr,zIx ms,cH,fZ];constructor
  .rintro (((h|h)|h)|h|⟨q,h1,h2⟩)
   .exact .inl h
   .exact .inr (.inl (h▸qAf))
   .exact .inr (.inr ⟨m,qAf,h⟩)
   .exact .inr (.inl (qAX _ h))
   .exact .inr (.inr ⟨q,qAX _ h1,h2⟩)
  .rintro (h|h|⟨q,h1,h2⟩)
   .exact .inl (.inl (.inl h))
   .rcases qAT.mp h with e|e
    .exact .inl (.inl (.inr e))
    .exact .inr (.inl e)
   .rcases qAT.mp h1 with e|e
    .exact .inl (.inr (e▸h2))
    .exact .inr (.inr ⟨q,e,h2⟩)
theorem zHw{S:Str->List Str}{ms:List Str} :y∈zCq S ms↔y∈ms\/∃m∈ms,y∈S m:=by
 unfold zCq;rw[zIx];simp
theorem zGs{S:Str->List Str}:∀(ms A:List Str),A.Nodup->(ms.foldl (λA m=>(S m).foldl aS (aS A m)) A).Nodup
 |[],A,h=>h
 |m::ms,A,h=>zGs ms _ (zHt _ _ (zIw h))
theorem zHs(S:Str->List Str)(ms:List Str):(zCq S ms).Nodup:=zGs ms [] qBC
theorem zB3:∀{A B:List Str},A.Nodup->(∀x∈A,x∈B)->A.length<=B.length
 |[],B,_,_=>qAi _
 |a::A,B,h,hs=>by
  obtain⟨h1,h2⟩:=qBI.mp h;have hb:=hs a qAf;have:=zB3 (B:=B.erase a) h2 λx hx=>(List.mem_erase_of_ne λe=>h1 (by rw[<-e];exact hx)).mpr (hs x (qAX _ hx));rw[List.length_erase_of_mem hb]at this;have:=List.length_pos_of_mem hb;rw[qAa];lia
abbrev aK(H:Hp)(e:Addr)(A:List Str):Prop:=H e=some (.dK (dT1 A λ_=>.bl true))
theorem jK(A:List Str)(x:Str):aT (dT1 A λ_=>.bl true) (.inr x) (.bl true)=dT1 (aS A x) λ_=>.bl true:=by
 unfold aS
 by_cases h:x∈A
 .rw [qAC h];unfold aT;rw[zG0,zCh,qAC h];refine(qAC (by rfl)).trans ?_;unfold dT1;rw[qBO];refine List.map_congr_left λy _=>?_;show(if(Sum.inr y:Key)=Sum.inr x then((Sum.inr y:Key),V.bl true)else(Sum.inr y,V.bl true))=_;split<;>rfl
 .rw [qAB h,zD3 _ h];unfold dT1;rw[qAP];rfl
theorem iW:∀(B A:List Str),mrg (dT1 A λ_=>.bl true) (dT1 B λ_=>.bl true)=dT1 (B.foldl aS A) λ_=>.bl true
 |[],A=>rfl
 |b::B,A=>by
  show mrg (aT (dT1 A λ_=>.bl true) (.inr b) (.bl true)) (dT1 B λ_=>.bl true)=_;rw[jK,iW B];rfl
section
inductive bV(vs:List V)(H:Hp)(Q:VK)(u_3:XK):Prop
 |mk:∀(d l:Addr) (kvs:List (Key×V)) (ms:List Str),vs=[.ref d,.ref l]->H d=some (.dK kvs)->Txs H l ms->ms.length<=4096->(∀H',Kp [] H H'->Q (.bl (ms.all λm=>(aR kvs (.inr m)).isSome)) H')->bV vs H Q u_3
abbrev zFq:Stmt:=top 47
theorem io:ag ["done","names"] ["done","names"] (zAg zFq):=fnS
theorem ig(F:Fun K "has_all" "has_all" zFq f fd)(T:Txt K mg):ak P w K mg base CX0 1 f fd ["done","names"] bV:=by
 refine F.ok io (λvs H Q E h=>?_) (λcdv A outer s H vs Q E hr h=>?_)
 .obtain ⟨d,l,kvs,ms,rfl,_⟩:=h;rfl
 .obtain ⟨d,l,kvs,ms,rfl,hd,hl,hz,k⟩:=h;have hu:=zF2 hr;refine⟨_,(zAe (zAw (zAi (zE6 _ rfl) (by rfl) T.z_all zI3 (zAa (zBn rfl (zBp (sc:=zAg zFq) rfl (by decide +kernel)) (ah.own (x:="name") (dtk (i:=0) rfl ah.nil)) (zAq (pv 1)) (λ_ _ _ _=>(pgB (i:=0))) (λ_ _ _ _=>zCm) (λ_ _ _ _=>(me (zHp hu (pv 0) (pv 1))))) zAb)))),?_⟩;refine⟨_,rfl,_,rfl,⟨_,SqL.of hl⟩,λD hD=>zBc (ms.map V.str) (λi ys τ H'=>(∃o0,τ=[o0,some (.ref d)])/\ys=((ms.take i).map λm=>V.bl (aR kvs (.inr m)).isSome)/\H'=upd H D (.lst ys)) ⟨⟨_,rfl⟩,rfl,rfl⟩ (λi ys τ H' ⟨_,_,e⟩=>by subst e;exact SqL.of ((ad (ae (show Fre H D from hD) hl)).trans hl)) ?_ ?_⟩
  .rintro i v ys τ H' hv ⟨⟨o0,rfl⟩,rfl,rfl⟩;obtain⟨m,em,rfl⟩:=zA9 hv;refine⟨_,rfl,_,rfl,_,_,rfl,aH.k (k:=Sum.inr m) ((ad (ae (show Fre H D from hD) hd)).trans hd),ac,?_,⟨_,rfl⟩,?_,zB7⟩
   .rw [qAD,qAU,qAK];lia
   .rw [zAk em,qAP];rfl
  .rintro ys τ H' ⟨_,rfl,rfl⟩;have eM:ms.take (ms.map V.str).length=ms:=by rw[qAD,qAg]
   refine⟨D,ms.map λm=>(aR kvs (.inr m)).isSome,rfl,SqL.of ?_,?_⟩
   .rw [ac,eM,qBO];rfl
   .rw [qCg];exact k _ (Kp.new Kp.refl hD)
inductive b8(vs:List V)(H:Hp)(Q:VK)(u_3:XK):Prop
 |mk:∀(l d:Addr)(ms D0 ns:List Str)(fa:Str->Addr)(S:Str->List Str),vs=[.ref l,.ref d]->Txs H l ms->H d=some (.dK (dT1 D0 λn=>.ref (fa n)))->(∀m∈ms,m∈D0/\m∈ns/\aK H (fa m) (S m)/\∀x∈S m,x∈ns)->ns.length<=20->(∀m∈ms,(S m).length<=20)->(∀e H',Fre H e->aK H' e (zCq S ms)->Kp [] H H'->Q (.ref e) H')->b8 vs H Q u_3
abbrev zJd:Stmt:=top 49
theorem zHi:ag ["near","far","found","name"] ["near","far"] (zAg zJd):=fnS
theorem lq(F:Fun K "joined" "joined" zJd f fd):ak P w K mg base CX0 1 f fd ["near","far"] b8:=by
 refine F.ok zHi (λvs H Q E h=>?_) (λcdv A outer s H vs Q E hr h=>?_)
 .obtain ⟨l,d,ms,D0,ns,fa,S,rfl,_⟩:=h;rfl
 .obtain ⟨l,d,ms,D0,ns,fa,S,rfl,hl,hd,hm,hn,hS,k⟩:=h;have hu:=zF2 hr
  refine⟨_,(zAc (psS (i:=2) zHi.nd zBv) (zAc (zA7 qAc rfl (zAq (pv 0)) (pgN (i:=3) zHi.nd)
    (zAc (zD4 hu (pv 2) (pv 3) zEs rfl)
    (zAe (zA2 (zD6 PySem.F.plainAttrs_dict PySem.F.slot_dict_update PySem.F.type_dict_update qt (pv 2) (zAa (zB8 hu (pv 1) (pv 3) (λ_ _=>rfl)) zAb))))))
   (zAe (zAw (pv 2))))),?_⟩
  refine cy ?_;intro _ _ _;refine λe he=>?_;have fe:Fre H e:=he
  have hsub:∀i x,x∈zCq S (ms.take i)->x∈ns:=λi x hx=>by
   rcases zHw.mp hx with z|⟨m,z,z'⟩
   .exact (hm x (qBj z)).2.1
   .exact (hm m (qBj z)).2.2.2 x z'
  have hlen:∀i,(zCq S (ms.take i)).length<=20:=λi=>qAW (zB3 (zHs S _) (hsub i)) hn
  refine⟨_,rfl,_,rfl,⟨_,SqL.of ((Kp.new (M:=[]) Kp.refl fe) l _ hl (by simp))⟩,zA3 (λi σ H2=>(∃o3:Option V,σ=[some (.ref l),some (.ref d),some (.ref e),o3])/\Kp [] H H2/\aK H2 e (zCq S (ms.take i))) ⟨⟨_,rfl⟩,Kp.new Kp.refl fe,ac⟩ (λi σ H2 _ ⟨_,k2,_⟩=>SqL.of (k2 l _ hl (by simp))) ?_ ?_⟩
  .rintro i v σ H2 hv ⟨⟨o3,rfl⟩,k2,h2⟩;refine bG ?_;intro _ _;obtain⟨m,em,rfl⟩:=zA9 hv;obtain⟨m1,m2,m3,m4⟩:=hm m (qAJ em);have l2:=hlen i;refine⟨_,rfl,_,rfl,_,_,rfl,bz.k (k:=Sum.inr m) h2 (by rw[qAD,qAK];lia),?_⟩;rw[jK];have k3:Kp [] H (upd H2 e (.dK (dT1 (aS (zCq S (ms.take i)) m) λ_=>.bl true))):=Kp.new k2 fe;have nfa:fa m≠e:=ae fe m3;refine⟨_,rfl,.inr (.inr (.inl ⟨rfl,.inl ⟨_,ac⟩⟩)),_,rfl,_,rfl,_,.ref (fa m),rfl,?_,_,fa m,_,_,rfl,rfl,ac,k3 _ _ m3 (by simp),nfa.symm,?_,?_⟩
   .have:=aH.k (k:=Sum.inr m) (k3 d _ hd (by simp));rw[zCh,qAC m1]at this;exact this
   .have:=hS m (qAJ em);rw[qAD,qAD,qAK]
    have:(aS (zCq S (ms.take i)) m).length<=(zCq S (ms.take i)).length+1:=by
     unfold aS;split
     .lia
     .rw [qAN];exact qAG _
    lia
   .rw [iW];refine⟨⟨_,rfl⟩,Kp.new k3 fe,?_⟩;rw[zAk em,gZ];exact ac
  .rintro σ H2 ⟨⟨o3,rfl⟩,k2,h2⟩;have eM:ms.take (ms.map V.str).length=ms:=by rw[qAD,qAg]
   rw[eM]at h2;exact⟨_,rfl,k e H2 fe h2 k2⟩
end
structure Fp(H0 H:Hp)(e:Addr)(ns D:List Str)(fa:Str->Addr)(S f:Str->List Str):Prop where
 top:H e=some (.dK (dT1 D λn=>.ref (fa n)))
 nd:D.Nodup
 sub:∀n∈D,n∈ns
 row:∀n∈D,aK H (fa n) (S n)
 snd:∀n∈D,(S n).Nodup
 sns:∀n∈D,∀x∈S n,x∈ns
 mem:∀n∈D,∀x,x∈S n↔x∈f n\/∃m∈f n,x∈S m
 cl:∀n∈D,∀x∈f n,x∈D
 ne:∀n∈D,fa n≠e
 fr:Fre H0 e
 frs:∀n∈D,Fre H0 (fa n)
theorem Fp.kp{H0:Hp}{e:Addr}{D:List Str}{fa:Str->Addr}{S f:Str->List Str}(F:Fp H0 H e ns D fa S f)(k:Kp [] H H'):Fp H0 H' e ns D fa S f :=
 ⟨k e _ F.top (by simp),F.nd,F.sub,λn hn=>k _ _ (F.row n hn) (by simp),F.snd,F.sns,F.mem,F.cl,F.ne,F.fr,F.frs⟩
theorem Fp.more{H0:Hp}{e b:Addr}{D:List Str}{fa:Str->Addr}{S f:Str->List Str}{n:Str}(F:Fp H0 H e ns D fa S f)(hn:n∈ns)(hD:n∉D)(hf:∀x∈f n,x∈D)(hs:∀x∈f n,x∈ns)(hb:aK H b (zCq S (f n)))(nb:b≠e)(fb:Fre H0 b) :
  Fp H0 (upd H e (.dK (aT (dT1 D λn=>.ref (fa n)) (.inr n) (.ref b)))) e ns (D++[n]) (λx=>if x=n then b else fa x) (λx=>if x=n then zCq S (f n)else S x) f:=by
 have hx:∀x∈D,¬x=n:=λx h z=>hD (z▸h)
 have cs:∀x,x∈D++[n]->x∈D\/x=n:=λx h=>by
  rcases qAR.mp h with z|z
  .exact .inl z
  .exact .inr (qAO.mp z)
 have eqS:∀{x},x∈D->(if x=n then zCq S (f n)else S x)=S x:=λ{x} h=>qAB (hx x h);have eqn:(if n=n then zCq S (f n)else S n)=zCq S (f n):=qAC rfl;refine⟨?_,?_,λx h=>?_,λx h=>?_,λx h=>?_,λx h y hy=>?_,λx h y=>?_,λx h y hy=>?_,λx h=>?_,F.fr,λx h=>?_⟩
 .rw [ac,zD3 _ hD];have:dT1 D (λn=>V.ref (fa n))=dT1 D (λx=>V.ref (if x=n then b else fa x)):=zH9 λx h=>by rw[qAB (hx x h)]
  rw[this];unfold dT1;rw[qAP];simp
 .refine qBX.mpr ⟨F.nd,by simp,λa ha c hc=>?_⟩;rw[qAO.mp hc];exact hx a ha
 .rcases cs x h with z|z
  .exact F.sub x z
  .rw [z];exact hn
 .rcases cs x h with z|z
  .show upd H e _ (if x=n then b else fa x)=some (.dK (dT1 (if x=n then zCq S (f n)else S x) λ_=>.bl true));rw[qAB (hx x z),qAB (hx x z),ad (F.ne x z)];exact F.row x z
  .subst z;show upd H e _ (if x=x then b else fa x)=some (.dK (dT1 (if x=x then zCq S (f x)else S x) λ_=>.bl true));rw[qAC rfl,qAC rfl,ad nb];exact hb
 .rcases cs x h with z|z
  .show (if x=n then zCq S (f n)else S x).Nodup;rw[eqS z];exact F.snd x z
  .subst z;show(if x=x then zCq S (f x)else S x).Nodup;rw[qAC rfl];exact zHs _ _
 .rcases cs x h with z|z
  .have hy:y∈(if x=n then zCq S (f n)else S x):=hy;rw[eqS z]at hy;exact F.sns x z y hy
  .subst z;have hy:y∈(if x=x then zCq S (f x)else S x):=hy;rw[qAC rfl]at hy;rcases zHw.mp hy with q|⟨m,q1,q2⟩
   .exact hs y q
   .exact F.sns m (hf m q1) y q2
 .rcases cs x h with z|z
  .show y∈(if x=n then zCq S (f n)else S x)↔y∈f x\/∃m∈f x,y∈(if m=n then zCq S (f n)else S m);rw[eqS z,F.mem x z y];constructor
   .rintro (q|⟨m,q1,q2⟩)
    .exact .inl q
    .exact .inr ⟨m,q1,by rw[eqS (F.cl x z m q1)];exact q2⟩
   .rintro (q|⟨m,q1,q2⟩)
    .exact .inl q
    .rw [eqS (F.cl x z m q1)]at q2;exact .inr ⟨m,q1,q2⟩
  .subst z;show y∈(if x=x then zCq S (f x)else S x)↔y∈f x\/∃m∈f x,y∈(if m=x then zCq S (f x)else S m);rw[qAC rfl,zHw];constructor
   .rintro (q|⟨m,q1,q2⟩)
    .exact .inl q
    .exact .inr ⟨m,q1,by rw[eqS (hf m q1)];exact q2⟩
   .rintro (q|⟨m,q1,q2⟩)
    .exact .inl q
    .rw [eqS (hf m q1)]at q2;exact .inr ⟨m,q1,q2⟩
 .rcases cs x h with z|z
  .exact qAp _ (F.cl x z y hy)
  .subst z;exact qAp _ (hf y hy)
 .rcases cs x h with z|z
  .show (if x=n then b else fa x)≠e;rw[qAB (hx x z)];exact F.ne x z
  .subst z;show(if x=x then b else fa x)≠e;rw[qAC rfl];exact nb
 .rcases cs x h with z|z
  .show Fre H0 (if x=n then b else fa x);rw[qAB (hx x z)];exact F.frs x z
  .subst z;show Fre H0 (if x=x then b else fa x);rw[qAC rfl];exact fb
theorem dq(r:Str->Nat):∀(L:List Str),L≠[]->∃n∈L,∀m∈L,r n<=r m
 |[],h=>absurd rfl h
 |[x],_=>⟨x,by simp,λm hm=>by rw[qAO.mp hm];exact qAG _⟩
 |x::y::L,_=>by
  obtain⟨n,hn,h⟩:=dq r (y::L) (by simp)
  by_cases c:r x<=r n
  .refine ⟨x,qAf,λm hm=>?_⟩;rcases qAT.mp hm with z|z
   .rw [z];exact qAG _
   .exact qAW c (h m z)
  .refine ⟨n,qAX _ hn,λm hm=>?_⟩;rcases qAT.mp hm with z|z
   .rw [z];lia
   .exact h m z
theorem cP{p:α->Bool}{x:α}:∀{L:List α},x∈L->p x=false->(L.filter p).length<L.length
 |a::L,h,hp=>by
  rcases qAT.mp h with z|z
  .subst z;rw[qBF,qAB (by rw[hp];decide),qAa];exact Nat.lt_succ_of_le (qBe _ _)
  .have:=cP z hp;rw[qBF,qAa];split
   .rw [qAa];lia
   .lia
theorem zJv(D:List Str)(g:Str->V)(x:Str):(aR (dT1 D g) (.inr x)).isSome=decide (x∈D):=by
 rw[zCh]
 by_cases h:x∈D
 .rw [qAC h,qAV h];rfl
 .rw [qAB h,qAZ h];rfl
section
inductive bn(vs:List V)(H:Hp)(Q:VK)(u_3:XK):Prop
 |mk:∀(l d:Addr)(ns:List Str)(la:Str->Addr)(f:Str->List Str)(r:Str->Nat),vs=[.ref l,.ref d]->Txs H l ns->ns.Nodup->ns.length<=20->H d=some (.dK (dT1 ns λn=>.ref (la n)))->(∀n∈ns,Txs H (la n) (f n)/\(f n).length<=4096/\∀x∈f n,x∈ns/\r x<r n)->(∀e D fa S H',Fp H H' e ns D fa S f->(∀n∈ns,n∈D)->Kp [] H H'->Q (.ref e) H')->bn vs H Q u_3
abbrev zC8:Stmt:=top 48
theorem zCf:ag ["names","told","far","left","free","name"] ["names","told"] (zAg zC8):=fnS
def mW(σ:St)(H:Hp):Nat:=match (σ[3]?:Option (Option V))with
 |some (some (.ref a))=>match H a with
  |some (.lst xs)=>xs.length
  |_=>0
 |_=>0
theorem e_(F:Fun K "all_ahead" "all_ahead" zC8 f fd)(T:Txt K mg)(C_has_all:Cal P w K mg base "has_all" 1 ["done","names"] bV)(C_joined:Cal P w K mg base "joined" 1 ["near","far"] b8):ak P w K mg base CX0 2 f fd ["names","told"] bn:=by
 refine F.ok zCf (λvs H Q E h=>?_) (λcdv A outer s H vs Q E hr h=>?_)
 .obtain ⟨l,d,ns,la,f,r,rfl,_⟩:=h;rfl
 .obtain ⟨l,d,ns,la,f,r,rfl,hl,hN,hn,hd,hf,k⟩:=h;have hu:=zF2 hr;have HR_has_all:=hr;have HR_joined:=hr
  refine⟨_,(zAc (psS (i:=2) zCf.nd zBv) (zAc (psS (i:=3) zCf.nd (zA8 zBu (by rfl) T.z_list zCe (zAa (pv 0) zAb)))
   (zAc (zJf qAc (zG6 (pv 3) (fun _=>rfl))
    (zAc (zGi (i:=4) rfl (zBp (sc:=zAg zC8) rfl (by decide +kernel)) (ah.own (x:= "name") (dtk (i:=2) rfl (dtk (i:=1) rfl ah.nil))) (zAq (pv 3)) (fun _ _ _ _=>(pgB (i:=0))) (fun _ _ _ _=>(zCl (zBi (zAh C_has_all HR_has_all rfl (zAa (pv 1) (zAa (zB8 hu (pv 2) (pv 0) (fun _ _=>rfl)) zAb)))))) (fun _ _ _ _=>(pv 0)) zCf.nd rfl rfl)
    (zAc (zBk (zBm (zG6 (pv 4) (fun _=>rfl)))
     (zAe zAz)
     zAs)
    (zAc (zA7 qAc rfl (zAq (pv 4)) (pgN (i:=5) zCf.nd)
     (zAe (zD4 hu (pv 2) (pv 5) (zAh C_joined HR_joined rfl (zAa (zB8 hu (pv 1) (pv 5) (λ_ _=>rfl)) (zAa (pv 2) zAb))) rfl)))
    (zAe (zGi (i:=3) rfl (zBp (sc:=zAg zC8) rfl (by decide +kernel)) (ah.own (x:="name") (dtk (i:=2) rfl ah.nil)) (zAq (pv 3)) (λ_ _ _ _=>(pgB (i:=0))) (λ_ _ _ _=>(zCl (zEg (zDa hu (pv 0) (pv 1))))) (λ_ _ _ _=>(pv 0)) zCf.nd rfl rfl))))))
   (zAe (zAw (pv 2)))))),?_⟩
  refine bE ?_;intro _ _ _ _;refine λe he=>?_;have fe:Fre H e:=he;refine⟨_,rfl,_,_,rfl,.inl (SqL.of ((Kp.new (M:=[]) Kp.refl fe) l _ hl (by simp))),λlf hlf=>?_⟩;have k0:Kp [] H (upd H e (.dK [])):=Kp.new Kp.refl fe;have flf:Fre H lf:=k0.fre hlf (by simp);have nel:e≠lf:=ae (show Fre (upd H e (.dK [])) lf from hlf) ac;show dF (λσ H Q=>bu 3 σ H λx H'=>∃k,sH K x H' k/\Q k H') _ _ _ _
  refine gy (λσ H2=>∃(lf:Addr)(D:List Str)(fa:Str->Addr)(S:Str->List Str)(o4 o5:Option V),σ=[some (.ref l),some (.ref d),some (.ref e),some (.ref lf),o4,o5]/\Kp [] H H2/\Fp H H2 e ns D fa S f/\Txs H2 lf (ns.filter λn=>decide (n∉D))) mW
   ⟨lf,[],λ_=>0,λ_=>[],none,none,rfl,Kp.new k0 flf,⟨(ad nel).trans ac,qBC,(λn h=>nomatch h),(λn h=>nomatch h),(λn h=>nomatch h),(λn h=>nomatch h),(λn h=>nomatch h),(λn h=>nomatch h),(λn h=>nomatch h),fe,(λn h=>nomatch h)⟩,by
    have ef:(ns.filter λn=>decide (n∉([]:List Str)))=ns:=by simp
    show upd _ lf _ lf=some (.lst ((ns.filter λn=>decide (n∉([]:List Str))).map V.str));rw[ef];exact ac⟩ ?_ (λσ H Q Q' hq hc=>by
    obtain⟨x,e,b,t,q⟩:=hc;exact⟨x,e,b,t,hq _ _ q⟩)
  rintro σ H2 ⟨lf,D,fa,S,o4,o5,rfl,k2,FP,hlf⟩;refine⟨_,rfl,_,.inl ⟨_,SqL.of hlf,rfl⟩,?_⟩;have hLs:∀n,n∈(ns.filter λn=>decide (n∉D))↔n∈ns/\n∉D:=λn=>by simp[qBZ]
  have hLl:(ns.filter λn=>decide (n∉D)).length<=20:=qAW (qBe _ _) hn;generalize hL:(ns.filter λn=>decide (n∉D))=L at *
  refine aA (λc=>?_) (λc=>?_)
  .have cL:L≠[]:=λz=>by rw[z]at c;simp at c
   refine⟨_,rfl,_,rfl,⟨_,SqL.of hlf⟩,λB hB=>zBt (L.map V.str) (λi ys τ H3=>(∃o0,τ=[o0,some (.ref e),some (.ref d)])/\ys=((L.take i).filter λn=>(f n).all λm=>decide (m∈D)).map V.str/\Kp [] H2 H3/\H3 B=some (.lst ys)) ⟨⟨_,rfl⟩,rfl,Kp.new Kp.refl hB,ac⟩ (λi ys τ H3 ⟨_,_,k3,_⟩=>SqL.of (k3 lf _ hlf (by simp))) ?_ ?_⟩
   .rintro i v ys τ H3 hv ⟨⟨o0,rfl⟩,rfl,k3,h3⟩;obtain⟨n,en,rfl⟩:=zA9 hv;have mn:=(hLs n).mp (qAJ en);obtain⟨n1,n2,n3⟩:=hf n mn.1;have k23:=k2.trans k3;refine⟨_,rfl,_,rfl,_,rfl,_,.ref (la n),rfl,?_,e,la n,_,f n,rfl,k3 e _ FP.top (by simp),k23 _ _ n1 (by simp),n2,λH4 k4=>?_⟩
    .have:=aH.k (k:=Sum.inr n) (k23 d _ hd (by simp));rw[zCh,qAC mn.1]at this;exact this
    have eall:((f n).all λm=>(aR (dT1 D λn=>V.ref (fa n)) (.inr m)).isSome)=(f n).all λm=>decide (m∈D):=by
     congr 1;funext m;exact zJv D _ m
    rw[eall];have h4:=k4 B _ h3 (by simp);have et:=zAk en;refine⟨_,rfl,aA (λc=>?_) (λc=>?_)⟩
    .refine ⟨_,rfl,h4,?_,⟨_,rfl⟩,?_,Kp.new (k3.trans k4) hB,ac⟩
     .rw [qAD,qAK];have h1:=qBe (λn=>(f n).all λm=>decide (m∈D)) (L.take i);rw[qAU]at h1;lia
     .rw [et,qBY,qAP];have:[n].filter (λn=>(f n).all λm=>decide (m∈D))=[n]:=by rw[qBF,qAC c];rfl
      rw[this];rfl
    .refine ⟨⟨_,rfl⟩,?_,k3.trans k4,?_⟩
     .rw [et,qBY];have:[n].filter (λn=>(f n).all λm=>decide (m∈D))=[]:=by rw[qBF,qAB c];rfl
      rw[this,qAm]
     .exact h4
   .rintro ys τ H3 ⟨_,rfl,k3,h3⟩;have eT:L.take (L.map V.str).length=L:=by rw[qAD,qAg]
    rw[eT]at h3;have hFr:∀n,n∈(L.filter λn=>(f n).all λm=>decide (m∈D))↔n∈L/\∀m∈f n,m∈D:=λn=>by simp[qBZ]
    have hFl:(L.filter λn=>(f n).all λm=>decide (m∈D)).length<=20:=qAW (qBe _ _) hLl
    have hFn:(L.filter λn=>(f n).all λm=>decide (m∈D)).Nodup:=by
     have:L.Nodup:=by rw[<-hL];exact hN.sublist List.filter_sublist
     exact this.sublist List.filter_sublist
    have hF0:(L.filter λn=>(f n).all λm=>decide (m∈D))≠[]:=by
     obtain⟨n,n1,n2⟩:=dq r L cL;refine List.ne_nil_of_mem ((hFr n).mpr ⟨n1,λm hm=>?_⟩);have mn:=(hLs n).mp n1;obtain⟨q1,q2⟩:=(hf n mn.1).2.2 m hm;apply qBh;intro z;have:=n2 m ((hLs m).mpr ⟨q1,z⟩);lia
    generalize hFE:(L.filter λn=>(f n).all λm=>decide (m∈D))=FR at *
    have k23:=k2.trans k3;refine⟨_,rfl,_,.inl ⟨_,SqL.of h3,rfl⟩,?_⟩
    have e0:(!(FR.map V.str).isEmpty)=true:=by
     cases FR with
     |nil=>exact absurd rfl hF0
     |cons _ _=>rfl
    rw[e0];refine aw ?_
    refine⟨_,rfl,_,rfl,⟨_,SqL.of h3⟩,zA3 (λi σ H4=>∃(fa:Str->Addr)(S:Str->List Str)(o5:Option V),σ=[some (.ref l),some (.ref d),some (.ref e),some (.ref lf),some (.ref B),o5]/\Kp [] H H4/\Fp H H4 e ns (D++FR.take i) fa S f/\Txs H4 lf L/\Txs H4 B FR) ⟨fa,S,_,rfl,k23,by rw[qC6,qAm];exact FP.kp k3,k3 lf _ hlf (by simp),h3⟩ (λi σ H4 _ ⟨_,_,_,_,_,_,_,h⟩=>SqL.of h) ?_ ?_⟩
    .rintro i v σ H4 hv ⟨fa4,S4,o5',rfl,k4,F4,hlf4,hB4⟩;obtain⟨n,en,rfl⟩:=zA9 hv;have mF:=(hFr n).mp (qAJ en);have mn:=(hLs n).mp mF.1;obtain⟨n1,n2,n3⟩:=hf n mn.1
     have nD:n∉D++FR.take i:=λz=>by
      rcases qAR.mp z with y|y
      .exact mn.2 y
      .exact zE4 hFn en y
     have fD:∀x∈f n,x∈D++FR.take i:=λx hx=>qAp _ (mF.2 x hx);refine⟨_,rfl,_,rfl,_,.ref (la n),rfl,?_,_,rfl,la n,e,f n,D++FR.take i,ns,fa4,S4,rfl,k4 _ _ n1 (by simp),F4.top,λm hm=>⟨fD m hm,(n3 m hm).1,F4.row m (fD m hm),F4.sns m (fD m hm)⟩,hn,λm hm=>qAW (zB3 (F4.snd m (fD m hm)) (F4.sns m (fD m hm))) hn,λb H5 fb hb k5=>?_⟩
     .have:=aH.k (k:=Sum.inr n) (k4 d _ hd (by simp));rw[zCh,qAC mn.1]at this;exact this
     have F5:=F4.kp k5;have fbH:Fre H b:=k4.fre fb (by simp);refine⟨_,rfl,_,rfl,_,_,rfl,bz.k (k:=Sum.inr n) F5.top ?_,?_⟩
     .have:=zB3 F5.nd F5.sub;rw[qAD,qAK];lia
     .have FM:=F5.more mn.1 nD fD (λx hx=>(n3 x hx).1) hb (qAh (ae fb F4.top)) fbH;rw[qBK,<-zAk en]at FM;exact⟨_,_,_,rfl,Kp.new (k4.trans k5) fe,FM,(ad (zCp hlf4 F4.top (λz=>nomatch z))).trans (k5 lf _ hlf4 (by simp)),(ad (zCp hB4 F4.top (λz=>nomatch z))).trans (k5 B _ hB4 (by simp))⟩
    .rintro σ H4 ⟨fa4,S4,o5',rfl,k4,F4,hlf4,hB4⟩;have eF:FR.take (FR.map V.str).length=FR:=by rw[qAD,qAg]
     rw[eF]at F4
     refine⟨_,rfl,_,rfl,⟨_,SqL.of hlf4⟩,λG hG=>zBt (L.map V.str) (λi ys τ H5=>(∃o0,τ=[o0,some (.ref e)])/\ys=((L.take i).filter λn=>decide (n∉D++FR)).map V.str/\H5=upd H4 G (.lst ys)) ⟨⟨_,rfl⟩,rfl,rfl⟩ (λi ys τ H5 ⟨_,_,z⟩=>by subst z;exact SqL.of ((ad (ae (show Fre H4 G from hG) hlf4)).trans hlf4)) ?_ ?_⟩
     .rintro i v ys τ H5 hv ⟨⟨o0,rfl⟩,rfl,rfl⟩;obtain⟨n,en,rfl⟩:=zA9 hv;refine⟨_,rfl,_,rfl,_,_,rfl,aH.k (k:=Sum.inr n) ((ad (ae (show Fre H4 G from hG) F4.top)).trans F4.top),_,rfl,?_⟩;rw[zJv];have et:=zAk en;refine aA (λc=>?_) (λc=>?_)
      .have c':n∉D++FR:=λz=>by rw[qAV z]at c;exact nomatch c
       refine⟨_,rfl,ac,?_,⟨_,rfl⟩,?_,zB7⟩
       .rw [qAD,qAK];have h1:=qBe (λn=>decide (n∉D++FR)) (L.take i);rw[qAU]at h1;lia
       .rw [et,qBY,qAP];have:[n].filter (λn=>decide (n∉D++FR))=[n]:=by rw[qBF,qAC (qAV c')];rfl
        rw[this];rfl
      .have c':n∈D++FR:=by
        apply qBh;intro z;rw[qAZ z]at c;exact c rfl
       have e2:(L.take (i+1)).filter (λn=>decide (n∉D++FR))=(L.take i).filter (λn=>decide (n∉D++FR)):=by
        rw[et,qBY];have:[n].filter (λn=>decide (n∉D++FR))=[]:=by rw[qBF,qAB (by rw[qAZ (λz=>z c')];decide)];rfl
        rw[this,qAm]
       refine⟨⟨_,rfl⟩,?_,?_⟩
       .rw [e2]
       .rfl
     .rintro ys τ H5 ⟨_,rfl,rfl⟩;have eT:L.take (L.map V.str).length=L:=by rw[qAD,qAg]
      rw[eT];have nGe:e≠G:=ae (show Fre H4 G from hG) F4.top
      have eFF:(L.filter λn=>decide (n∉D++FR))=ns.filter λn=>decide (n∉D++FR):=by
       rw[<-hL,List.filter_filter];refine List.filter_congr λn _=>?_
       by_cases z:n∈D
       .have:n∈D++FR:=qAp _ z;rw[qAZ (λy=>y this)];rfl
       .rw [qAV z,Bool.and_true]
      refine⟨⟨G,D++FR,fa4,S4,_,_,rfl,Kp.new k4 (k4.fre (show Fre H4 G from hG) (by simp)),F4.kp (Kp.new Kp.refl hG),?_⟩,?_⟩
      .rw [<-eFF];exact ac
      .have m1:mW [some (V.ref l),some (.ref d),some (.ref e),some (.ref lf),o4,o5] H2=L.length:=by
        show(match H2 lf with|some (.lst xs)=>xs.length|_=>0)=_;rw[hlf];simp
       have m2:∀o4 o5,mW [some (V.ref l),some (.ref d),some (.ref e),some (.ref G),o4,o5] (upd H4 G (.lst ((L.filter λn=>decide (n∉D++FR)).map V.str)))=(L.filter λn=>decide (n∉D++FR)).length:=λo4 o5=>by
        show(match upd H4 G (.lst ((L.filter λn=>decide (n∉D++FR)).map V.str)) G with|some (.lst xs)=>xs.length|_=>0)=_;rw[ac];simp
       rw[m1];refine Nat.lt_of_le_of_lt (qCU (m2 _ _)) ?_;obtain⟨n,hnF⟩:=List.exists_mem_of_ne_nil FR hF0;have hnL:=((hFr n).mp hnF).1;exact cP hnL (qAZ λz=>z (qAs _ hnF))
  .have cL:L=[]:=by
    cases L with
    |nil=>rfl
    |cons _ _=>exact absurd rfl c
   refine⟨_,rfl,k e D fa S H2 FP (λn hn'=>?_) k2⟩;apply qBh;intro z;have:=(hLs n).mpr ⟨hn',z⟩;rw[cL]at this;exact nomatch this
end
def jf(r p e:Addr):List (Str×V):=aE "above" (.ref e) (aE "pairs" (.ref p) (aE "row" (.ref r) []))
theorem gQ(r p e:Addr):(jf r p e).lookup ("row": Str)=some (.ref r):=by
 unfold jf;rw[zA6,qAB (by decide +kernel),zA6,qAB (by decide +kernel),zA6,qAC rfl]
theorem mj(r p e:Addr):(jf r p e).lookup ("above": Str)=some (.ref e):=by
 unfold jf;rw[zA6,qAC rfl]
theorem i3(r p e:Addr){m:Str}(h1:¬m="above")(h2:¬m="pairs")(h3:¬m="row"):(jf r p e).lookup m=none:=by
 unfold jf;rw[zA6,qAB h1,zA6,qAB h2,zA6,qAB h3];rfl
structure JC(K:PySem.W.Frag)(mg:Str->Option Value)(C:Addr):Prop where
 cl:Cls K C
 n_row:zGc K C "row"
 n_pairs:zGc K C "pairs"
 n_above:zGc K C "above"
 mgC:mg "Jobs"=some (.ref C)
structure JR where
 dx:Addr
 r:Addr
 p:Addr
 e:Addr
 ns:List Str
 zs:List (List Str×Addr)
 D:List Str
 fa:Str->Addr
 S:Str->List Str
structure aD(C:Addr)(H:Hp)(j:Addr)(J:JR):Prop where
 ob:H j=some (.ins C J.dx (jf J.r J.p J.e))
 row:Txs H J.r J.ns
 prs:bA H J.p J.zs
 abv:H J.e=some (.dK (dT1 J.D λn=>.ref (J.fa n)))
 all:∀n∈J.ns,n∈J.D
 sets:∀n∈J.D,aK H (J.fa n) (J.S n)
 few:J.ns.length<=20
 zfew:J.zs.length<=306
 nd:J.ns.Nodup
 zin:∀q∈J.zs,∀x∈q.1,x∈J.ns
 mem:∀n∈J.ns,∀x,x∈J.S n↔x∈told J.zs n\/∃m∈told J.zs n,x∈J.S m
theorem aD.kp{M:List Addr}{C:Addr}{j:Addr}{J:JR}(A:aD C H j J)(k:Kp M H H')(h:∀a o,H a=some o->a∈M->a≠j/\a≠J.r/\a≠J.p/\a≠J.e/\(∀q∈J.zs,a≠q.2)/\∀n∈J.D,a≠J.fa n):aD C H' j J where
 ob:=k _ _ A.ob λz=>(h _ _ A.ob z).1 rfl
 row:=k _ _ A.row λz=>(h _ _ A.row z).2.1 rfl
 prs:=⟨k _ _ A.prs.top λz=>(h _ _ A.prs.top z).2.2.1 rfl,λq hq=>k _ _ (A.prs.row q hq) λz=>(h _ _ (A.prs.row q hq) z).2.2.2.2.1 q hq rfl,A.prs.two⟩
 abv:=k _ _ A.abv λz=>(h _ _ A.abv z).2.2.2.1 rfl
 all:=A.all
 sets:=λn hn=>k _ _ (A.sets n hn) λz=>(h _ _ (A.sets n hn) z).2.2.2.2.2 n hn rfl
 few:=A.few
 zfew:=A.zfew
 nd:=A.nd
 zin:=A.zin
 mem:=A.mem
theorem aD.kp0{C:Addr}{j:Addr}{J:JR}(A:aD C H j J)(k:Kp [] H H'):aD C H' j J:=A.kp k λ_ _ _ z=>nomatch z
section
inductive bL(C:Addr)(vs:List V)(H:Hp)(Q:VK)(u_3:XK):Prop
 |mk:∀(j:Addr)(J:JR),vs=[.ref j]->aD C H j J->(∀l H',Fre H l->Txs H' l J.ns->Kp [] H H'->Q (.ref l) H')->bL C vs H Q u_3
abbrev zEp:Stmt:=dM (top 51) 1
theorem zJa:ag ["self"] ["self"] (zAg zEp):=fnS
theorem zJl(F:Fun K "names" "Jobs.names" zEp f fd)(T:Txt K mg)(U:JC K mg C):ak P w K mg base CX0 1 f fd ["self"] (bL C):=by
 refine F.ok zJa (λvs H Q E h=>?_) (λcdv A outer s H vs Q E hr h=>?_)
 .obtain ⟨j,J,rfl,_⟩:=h;rfl
 .obtain ⟨j,J,rfl,A0,k⟩:=h;refine⟨_,(zAe (zAw (zA8 zBu (by rfl) T.z_list zCe (zAa (zHo (pv 0) rfl) zAb)))),?_⟩;refine⟨_,rfl,_,_,_,_,_,rfl,A0.ob,U.cl,U.n_row,gQ _ _ _,_,_,rfl,.inl (SqL.of A0.row),λl hl=>?_⟩;exact k l _ hl ac (Kp.new Kp.refl hl)
theorem pc{j:Addr}{J:JR}(A:aD C H j J)(hy:y∈J.ns):aH H J.e (.str y) (some (.ref (J.fa y))):=by
 have:=aH.k (k:=Sum.inr y) A.abv;rw[zCh,qAC (A.all y hy)]at this;exact this
theorem zEm{e:Addr}{B:List Str}(h:aK H e B)(x:Str):∃o,aH H e (.str x) o/\o.isSome=decide (x∈B):=⟨_,aH.k (k:=Sum.inr x) h,zJv B _ x⟩
inductive bc(C:Addr)(vs:List V)(H:Hp)(Q:VK)(u_3:XK):Prop
 |mk:∀(j:Addr)(J:JR)(x y:Str),vs=[.ref j,.str x,.str y]->aD C H j J->x∈J.ns->y∈J.ns->Q (.bl (decide (x∈J.S y))) H->bc C vs H Q u_3
abbrev zC9:Stmt:=dM (top 51) 3
theorem zGu:ag ["self","one","other"] ["self","one","other"] (zAg zC9):=fnS
theorem zGw(F:Fun K "is_ahead" "Jobs.is_ahead" zC9 f fd)(T:Txt K mg)(U:JC K mg C)(C_check_job:Cal P w K mg base "check_job" 2 ["names","thing"] aY):ak P w K mg base CX0 3 f fd ["self","one","other"] (bc C):=by
 refine F.ok zGu (λvs H Q E h=>?_) (λcdv A outer s H vs Q E hr h=>?_)
 .obtain ⟨j,J,x,y,rfl,_⟩:=h;rfl
 .obtain ⟨j,J,x,y,rfl,A0,hx,hy,k⟩:=h;have HR_check_job:=hr;have hu:=zF2 hr
  refine⟨_,(zAc (zA2 (zAh C_check_job HR_check_job rfl (zAa (zHo (pv 0) rfl) (zAa (pv 1) zAb)))) (zAc (zA2 (zAh C_check_job HR_check_job rfl (zAa (zHo (pv 0) rfl) (zAa (pv 2) zAb))))
   (zAe (zAw (me (zHp hu (pv 1) (zB8 hu (zHo (pv 0) rfl) (pv 2) (λ_ _=>rfl)))))))),?_⟩
  refine cy ?_;intro _ _ _;refine⟨_,rfl,_,_,_,_,_,rfl,A0.ob,U.cl,U.n_row,gQ _ _ _,_,rfl,x,_,_,rfl,A0.row,hx,?_⟩;refine⟨_,rfl,_,_,_,_,_,rfl,A0.ob,U.cl,U.n_row,gQ _ _ _,_,rfl,y,_,_,rfl,A0.row,hy,?_⟩;obtain⟨o,g1,g2⟩:=zEm (A0.sets y (A0.all y hy)) x;refine⟨_,rfl,_,rfl,_,_,_,_,_,rfl,A0.ob,U.cl,U.n_above,mj _ _ _,_,rfl,_,_,rfl,pc A0 hy,_,o,rfl,g1,?_⟩;rw[g2];exact k
end
section
theorem zHa{p:α->Bool}{xs:List α}{x:α}(e:xs[i]?=some x)(h:p x=true):(xs.take (i+1)).filter p=(xs.take i).filter p++[x]:=by
 rw[zAk e,qBY,qBF,qAC h];rfl
theorem zJz{p:α->Bool}{xs:List α}{x:α}(e:xs[i]?=some x)(h:¬p x=true):(xs.take (i+1)).filter p=(xs.take i).filter p:=by
 rw[zAk e,qBY,qBF,qAB h];simp
theorem zJ0{p:α->Bool}{xs:List α}(h:xs.length<=4096):(((xs.take i).filter p)).length<sizeLine:=by
 have h1:=qBe p (xs.take i);rw[qAU]at h1;rw[qAK];lia
end
end My
namespace TimP
open PySem PyProof.Rows Tim
variable{i n lo nrem:Nat}{x:Keyed}{st:SortSt}{α:Type}
theorem qa{l m:List Keyed}(h:∀p:Keyed->Bool,l.countP p=m.countP p):l.Perm m:=by
 letI:DecidableEq Keyed:=λa b=>Classical.propDecidable (a=b)
 exact List.perm_iff_count.mpr λx=>h (·==x)
theorem cd{a:Array Keyed}{j:Nat}(h:i<=j)(p:Keyed->Bool):(a.extract i j).toList.countP p+(a.toList.drop j).countP p=(a.toList.drop i).countP p:=by
 have e:a.toList.drop j=(a.toList.drop i).drop (j-i):=by rw[List.drop_drop];congr 1;lia
 rw[qBi,List.extract_eq_drop_take,e,<-qCB,qBb]
theorem ck{a:Array Keyed}{j:Nat}(h:i<=j)(p:Keyed->Bool):(a.extract i j).toList.countP p+(a.toList.take i).countP p=(a.toList.take j).countP p:=by
 have h1:=cd (a:=a) h p;have h2:=qAl (List.countP p) (qBb i a.toList);have h3:=qAl (List.countP p) (qBb j a.toList);rw[qCB]at h2 h3;lia
theorem zJj{a:Array Keyed}(e:a[i]?=some x):(a.extract i (i+1)).toList=[x]:=by
 have hi:=(qBM.mp e).1;have hx:=(qBM.mp e).2;rw[qBi,List.extract_eq_drop_take,Nat.add_sub_cancel_left,qC7 (by simpa using hi)];simp[hx]
theorem u9(a:Array Keyed)(p:Keyed->Bool):(a.toList.drop a.size).countP p=0:=by rw[qCf (by simp)];rfl
theorem zEi(a b:Array Keyed)(p:Keyed->Bool):(a++b).toList.countP p=a.toList.countP p+b.toList.countP p:=by rw[qCY,qCB]
theorem zJ2(a:Array Keyed)(x:Keyed)(p:Keyed->Bool):(a.push x).toList.countP p=a.toList.countP p+[x].countP p:=by rw[qCK,qCB]
theorem iC(a:Array Keyed)(p:Keyed->Bool):a.reverse.toList.countP p=a.toList.countP p:=by rw[Array.toList_reverse,List.countP_reverse]
section
variable{a b out:Array Keyed}{ia ib:Nat}
structure MI(a b out:Array Keyed)(ia ib:Nat):Prop where
 la:ia<=a.size
 lb:ib<=b.size
 ct:∀p,out.toList.countP p+(a.toList.drop ia).countP p+(b.toList.drop ib).countP p=a.toList.countP p+b.toList.countP p
def Fn(a b r:Array Keyed):Prop:=∀p,r.toList.countP p=a.toList.countP p+b.toList.countP p
theorem MI.tAs(M:MI a b out ia ib)(k:Nat)(h:ia+k<=a.size):MI a b (out++a.extract ia (ia+k)) (ia+k) ib:=⟨h,M.lb,λp=>by
 have h1:=M.ct p;have h2:=cd (a:=a) (show ia<=ia+k by lia) p;rw[zEi];lia⟩
theorem MI.tBs(M:MI a b out ia ib)(k:Nat)(h:ib+k<=b.size):MI a b (out++b.extract ib (ib+k)) ia (ib+k):=⟨M.la,h,λp=>by
 have h1:=M.ct p;have h2:=cd (a:=b) (show ib<=ib+k by lia) p;rw[zEi];lia⟩
theorem MI.tA(M:MI a b out ia ib)(e:a[ia]?=some x):MI a b (out.push x) (ia+1) ib:=⟨(qBM.mp e).1,M.lb,λp=>by
 have h1:=M.ct p;have h2:=cd (a:=a) (show ia<=ia+1 by lia) p;rw[zJj e]at h2;rw[zJ2];lia⟩
theorem MI.tB(M:MI a b out ia ib)(e:b[ib]?=some x):MI a b (out.push x) ia (ib+1):=⟨M.la,(qBM.mp e).1,λp=>by
 have h1:=M.ct p;have h2:=cd (a:=b) (show ib<=ib+1 by lia) p;rw[zJj e]at h2;rw[zJ2];lia⟩
theorem MI.f1(M:MI a b out ia ib):Fn a b (out++a.extract ia a.size++b.extract ib b.size):=λp=>by
 have h1:=M.ct p;have h2:=cd (a:=a) M.la p;have h3:=cd (a:=b) M.lb p;rw[u9]at h2 h3;rw[zEi,zEi];lia
theorem MI.f2(M:MI a b out ia ib):Fn a b (out++b.extract ib b.size++a.extract ia a.size):=λp=>by
 have h1:=M.f1 p;rw[zEi,zEi]at h1 ⊢;lia
structure MH(a b out:Array Keyed)(ia ib:Nat):Prop where
 la:ia<=a.size
 lb:ib<=b.size
 ct:∀p,out.toList.countP p+(a.toList.take ia).countP p+(b.toList.take ib).countP p=a.toList.countP p+b.toList.countP p
theorem MH.tAs(M:MH a b out ia ib)(k:Nat)(h:k<=ia):MH a b (out++(a.extract k ia).reverse) k ib:=⟨by have:=M.la;lia,M.lb,λp=>by
 have h1:=M.ct p;have h2:=ck (a:=a) h p;rw[zEi,iC];lia⟩
theorem MH.tBs(M:MH a b out ia ib)(k:Nat)(h:k<=ib):MH a b (out++(b.extract k ib).reverse) ia k:=⟨M.la,by have:=M.lb;lia,λp=>by
 have h1:=M.ct p;have h2:=ck (a:=b) h p;rw[zEi,iC];lia⟩
theorem MH.tA(M:MH a b out (ia+1) ib)(e:a[ia]?=some x):MH a b (out.push x) ia ib:=⟨by have:=M.la;lia,M.lb,λp=>by
 have h1:=M.ct p;have h2:=ck (a:=a) (show ia<=ia+1 by lia) p;rw[zJj e]at h2;rw[zJ2];lia⟩
theorem MH.tB(M:MH a b out ia (ib+1))(e:b[ib]?=some x):MH a b (out.push x) ia ib:=⟨M.la,by have:=M.lb;lia,λp=>by
 have h1:=M.ct p;have h2:=ck (a:=b) (show ib<=ib+1 by lia) p;rw[zJj e]at h2;rw[zJ2];lia⟩
theorem MH.f1(M:MH a b out ia ib):Fn a b (a.extract 0 ia++b.extract 0 ib++out.reverse):=λp=>by
 have h1:=M.ct p;have h2:=ck (a:=a) (qAi ia) p;have h3:=ck (a:=b) (qAi ib) p;rw[qC6,List.countP_nil]at h2 h3;rw[zEi,zEi,iC];lia
theorem MH.f2(M:MH a b out ia ib):Fn a b (b.extract 0 ib++a.extract 0 ia++out.reverse):=λp=>by
 have h1:=M.f1 p;rw[zEi,zEi]at h1 ⊢;lia
end
structure aL(st st':SortSt):Prop where
 kd:kindOf st'=kindOf st
 ar:arrOf st'=arrOf st
 pn:pendingOf st'=pendingOf st
 fl:failedOf st'=failedOf st
theorem aL.refl(st:SortSt):aL st st:=⟨rfl,rfl,rfl,rfl⟩
theorem aL.trans{a b c:SortSt}(h:aL a b)(k:aL b c):aL a c:=⟨k.kd.trans h.kd,k.ar.trans h.ar,k.pn.trans h.pn,k.fl.trans h.fl⟩
section
variable{prog:Program}{w:World}{A:Around}{E:Value->Shared->Prop}{s:Shared}{kd:SortKind}{κ:KeyKind}{a b:Array Keyed}
theorem zCo{a:Array Keyed}(ha:∀x∈a.toList,Has κ x)(hi:i<a.size):∃p,a[i]?=some p/\Has κ p :=
 ⟨a[i],by simp,ha _ (by simp)⟩
theorem cW{left:Bool}{key:Keyed}{arr:Array Keyed}{base hint:Nat}{Q:Option Nat->SortSt->Prop}(C:CmpOk prog w A s kd κ)(hk:kindOf st=kd)(hkey:Has κ key)
  (hin:∀i,i<n->∃q,arr[base+i]?=some q/\Has κ q) (hh:hint<n) (h:∀k,k<=n->Q (some k) st):wpS (model prog w) A E s (gal left key arr base n hint) Q st:=by
 have ask:∀(i:Nat){R:Option Bool->SortSt->Prop},i<n->(∀c,R (some c) st)->wpS (model prog w) A E s (byd left key arr base i) R st:=λi R hi hR=>uw C hk hkey (hin i hi) (hR _)
 have bin:∀(l r:Nat),l<=r->r<=n->∀(F:Nat->Option (Option Nat)×Nat×Nat->StateT SortSt Sem (ForInStep (Option (Option Nat)×Nat×Nat))),
   (∀x l r,F x (none,l,r)=(if l>=r then pure (ForInStep.done (none,l,r)) else do
    let c<-byd left key arr base (l+(r-l) / 2)
    match c with
    |some more=>if more=true then pure (ForInStep.yield (none,l+(r-l) / 2+1,r))else pure (ForInStep.yield (none,l,l+(r-l) / 2))
    |_=>pure (ForInStep.done (some none,l,r))))->∀G:Option (Option Nat)×Nat×Nat->StateT SortSt Sem (Option Nat),(∀l r,G (none,l,r)=pure (some r)) ->
   wpS (model prog w) A E s (forIn [:n] ((none,l,r):Option (Option Nat)×Nat×Nat) F >>= G) Q st:=by
  intro l r hlr hrn F hF G hG
  refine qAF (qA3 (qA1 (I:=λx c st'=>st'=st/\∃l r,c=(none,l,r)/\l<=r/\r<=n/\r-l<=n-x) (Q:=λc st'=>st'=st/\∃l r,c=(none,l,r)/\r<=n) ?step ?fin ⟨rfl,l,r,rfl,hlr,hrn,by lia⟩) ?post)
  case fin=>
   rintro c st' ⟨rfl,l,r,rfl,h1,h2,h3⟩;exact⟨rfl,l,r,rfl,h2⟩
  case post=>
   rintro c st' ⟨rfl,l,r,rfl,h1⟩;rw[hG];exact qAH (h r h1)
  case step=>
   rintro x c st' _ hx ⟨rfl,l,r,rfl,h1,h2,h3⟩;rw[hF x l r]
   by_cases hge:l>=r
   .rw [qAC hge];exact qAH ⟨rfl,l,r,rfl,h2⟩
   .rw [qAB hge];refine qAF (ask _ (by lia) λc=>?_);show wpS _ _ _ _ (if c=true then _ else _) _ _;split
    .exact qAH ⟨rfl,_,_,rfl,by lia,h2,by lia⟩
    .exact qAH ⟨rfl,_,_,rfl,by lia,by lia,by lia⟩
 refine qAF (ask hint hh λc0=>?_);show wpS _ _ _ _ (if c0=true then _ else _) _ _;split
 .refine qAF (qA3 (qA1 (I:=λx c st'=>st'=st/\∃l o,c=(none,l,o)/\l<o/\hint+l<n) (Q:=λc st'=>st'=st/\∃l o,c=(none,l,o)/\l<o/\hint+l<n) ?step (λc st' h=>h) ⟨rfl,0,1,rfl,by lia,by lia⟩) ?post)
  case step=>
   rintro x c st' _ hx ⟨rfl,l,o,rfl,h1,h2⟩;dsimp only
   by_cases ho:o>=n-hint
   .rw [qAC ho];exact qAH ⟨rfl,l,o,rfl,h1,h2⟩
   .rw [qAB ho];refine qAF (ask (hint+o) (by lia) λc=>?_);show wpS _ _ _ _ (if(!c)=true then _ else _) _ _;split
    .exact qAH ⟨rfl,l,o,rfl,h1,h2⟩
    .exact qAH ⟨rfl,o,2*o+1,rfl,by lia,by lia⟩
  case post=>
   rintro c st' ⟨rfl,l,o,rfl,h1,h2⟩;exact bin (hint+l+1) (hint+min o (n-hint)) (by lia) (by lia) _ (λx l r=>rfl) _ (λl r=>rfl)
 .refine qAF (qA3 (qA1 (I:=λx c st'=>st'=st/\∃l o,c=(none,l,o)/\l<o/\l<=hint) (Q:=λc st'=>st'=st/\∃l o,c=(none,l,o)/\l<o/\l<=hint) ?step (λc st' h=>h) ⟨rfl,0,1,rfl,by lia,by lia⟩) ?post)
  case step=>
   rintro x c st' _ hx ⟨rfl,l,o,rfl,h1,h2⟩;dsimp only
   by_cases ho:o>=hint+1
   .rw [qAC ho];exact qAH ⟨rfl,l,o,rfl,h1,h2⟩
   .rw [qAB ho];refine qAF (ask (hint-o) (by lia) λc=>?_);show wpS _ _ _ _ (if c=true then _ else _) _ _;split
    .exact qAH ⟨rfl,l,o,rfl,h1,h2⟩
    .exact qAH ⟨rfl,o,2*o+1,rfl,by lia,by lia⟩
  case post=>
   rintro c st' ⟨rfl,l,o,rfl,h1,h2⟩;exact bin (hint+1-min o (hint+1)) (hint-l) (by lia) (by lia) _ (λx l r=>rfl) _ (λl r=>rfl)
abbrev jV:=Option (Array Keyed)×Array Keyed×Nat×Nat×Nat×Nat×Nat
def tA(a b o:Array Keyed)(i j g p q:Nat):StateT SortSt Sem (ForInStep jV):=do
 let x<-elem' a i
 if(i+1+1==a.size)=true then pure (.done (some (o.push x++b.extract j b.size++a.extract (i+1) a.size),o.push x,i+1,j,g,p,q))
 else if(decide (p<7)&&decide (q<7))=true then pure (.done (none,o.push x,i+1,j,g,p,q))
 else pure (.yield (none,o.push x,i+1,j,g,p,q))
def tB(a b o:Array Keyed)(i j g p q:Nat):StateT SortSt Sem (ForInStep jV):=do
 let y<-elem' b j
 if(j+1==b.size)=true then pure (.done (some (o.push y++a.extract i a.size++b.extract (j+1) b.size),o.push y,i,j+1,g,p,q))
 else do
  let x<-elem' a i
  let r<-gal true x b (j+1) (b.size-(j+1)) 0
  match r with
  |some k=>
   if k>0 then
    if(j+1+k==b.size)=true then pure (.done (some (o.push y++b.extract (j+1) (j+1+k)++a.extract i a.size++b.extract (j+1+k) b.size),o.push y++b.extract (j+1) (j+1+k),i,j+1+k,g,p,k))
    else tA a b (o.push y++b.extract (j+1) (j+1+k)) i (j+1+k) g p k
   else tA a b (o.push y) i (j+1) g p k
  |_=>pure (.done (some (o.push y++a.extract i a.size++b.extract (j+1) b.size),o.push y,i,j+1,g,p,q))
def tT(a b o:Array Keyed)(i j g p q:Nat):StateT SortSt Sem (ForInStep jV):=do
 let y<-elem' b j
 let r<-gal false y a i (a.size-i) 0
 match r with
 |some k=>
  if k>0 then
   if(i+k+1==a.size)=true then pure (.done (some (o++a.extract i (i+k)++b.extract j b.size++a.extract (i+k) a.size),o++a.extract i (i+k),i+k,j,g,k,q))
   else if(i+k==a.size)=true then pure (.done (some (o++a.extract i (i+k)++a.extract (i+k) a.size++b.extract j b.size),o++a.extract i (i+k),i+k,j,g,k,q))
   else tB a b (o++a.extract i (i+k)) (i+k) j g k q
  else tB a b o i j g k q
 |_=>pure (.done (some (o++a.extract i a.size++b.extract j b.size),o,i,j,g,p,q))
theorem zAy{m:Nat}(h:¬(m==n)=true):m≠n:=by simpa using h
def TO(a b:Array Keyed)(m:Nat)(st3:SortSt)(R:ForInStep jV->SortSt->Prop):Prop :=
 (∀r o i j g p q,Fn a b r->R (.done (some r,o,i,j,g,p,q)) st3)/\(∀o i j g p q,MI a b o i j->i+1<a.size->j<b.size->m<=i+j->R (.done (none,o,i,j,g,p,q)) st3/\R (.yield (none,o,i,j,g,p,q)) st3)
section
variable{st3:SortSt}{o:Array Keyed}{i j g p q m:Nat}{R:ForInStep jV->SortSt->Prop}
theorem uH(ha:∀x∈a.toList,Has κ x)(M:MI a b o i j)(hi:i+1<a.size)(hj:j<b.size)(hm:m<=i+j)(hR:TO a b m st3 R):wpS (model prog w) A E s (tA a b o i j g p q) R st3:=by
 obtain⟨x,ex,_⟩:=zCo ha (show i<a.size by lia);have M2:=M.tA ex;refine qAF (zB2 ex ?_)
 by_cases d1:(i+1+1==a.size)=true
 .rw [qAC d1];exact qAH (hR.1 _ _ _ _ _ _ _ M2.f2)
 .have:=zAy d1;rw[qAB d1];have q:=hR.2 _ _ _ g p q M2 (by lia) hj (by lia);split
  .exact qAH q.1
  .exact qAH q.2
theorem uG(C:CmpOk prog w A s kd κ)(hk:kindOf st3=kd)(ha:∀x∈a.toList,Has κ x)(hb:∀x∈b.toList,Has κ x)(M:MI a b o i j)(hi:i+1<a.size)(hj:j<b.size)(hm:m<=i+j)(hR:TO a b m st3 R) :
  wpS (model prog w) A E s (tB a b o i j g p q) R st3:=by
 obtain⟨y,ey,hyy⟩:=zCo hb hj;obtain⟨x,ex,hxx⟩:=zCo ha (show i<a.size by lia);have M2:=M.tB ey;refine qAF (zB2 ey ?_)
 by_cases d1:(j+1==b.size)=true
 .rw [qAC d1];exact qAH (hR.1 _ _ _ _ _ _ _ M2.f1)
 .have:=zAy d1;rw[qAB d1];refine qAF (zB2 ex (qAF (cW C hk hxx (λi hi=>zCo hb (by lia)) (by lia) λk k1=>?_)));have M3:=M2.tBs k (by lia);show wpS _ _ _ _ (if k>0 then _ else _) _ _
  by_cases hk0:k>0
  .rw [qAC hk0]
   by_cases d2:(j+1+k==b.size)=true
   .rw [qAC d2];exact qAH (hR.1 _ _ _ _ _ _ _ M3.f1)
   .have:=zAy d2;rw[qAB d2];exact uH ha M3 hi (by lia) (by lia) hR
  .rw [qAB hk0];exact uH ha M2 hi (by lia) (by lia) hR
theorem vj(C:CmpOk prog w A s kd κ)(hk:kindOf st3=kd)(ha:∀x∈a.toList,Has κ x)(hb:∀x∈b.toList,Has κ x)(M:MI a b o i j)(hi:i+1<a.size)(hj:j<b.size)(hm:m<=i+j)(hR:TO a b m st3 R):wpS (model prog w) A E s (tT a b o i j g p q) R st3:=by
 obtain⟨y,ey,hyy⟩:=zCo hb hj;refine qAF (zB2 ey (qAF (cW C hk hyy (λi hi=>zCo ha (by lia)) (by lia) λk k1=>?_)));have M3:=M.tAs k (by lia);show wpS _ _ _ _ (if k>0 then _ else _) _ _
 by_cases hk0:k>0
 .rw [qAC hk0]
  by_cases d1:(i+k+1==a.size)=true
  .rw [qAC d1];exact qAH (hR.1 _ _ _ _ _ _ _ M3.f2)
  .rw [qAB d1]
   by_cases d2:(i+k==a.size)=true
   .rw [qAC d2];exact qAH (hR.1 _ _ _ _ _ _ _ M3.f1)
   .have:=zAy d1;have:=zAy d2;rw[qAB d2];exact uG C hk ha hb M3 (by lia) hj (by lia) hR
 .rw [qAB hk0];exact uG C hk ha hb M hi hj hm hR
end
inductive LoA(a b:Array Keyed)(n:Nat)(c:Option (Array Keyed)×Array Keyed×Nat×Nat×Nat):Prop
 |mk:∀out ia ib g,c=(none,out,ia,ib,g)->MI a b out ia ib->ia+1<a.size->ib<b.size->n<=ia+ib->LoA a b n c
inductive FnA(a b:Array Keyed)(c:Option (Array Keyed)×Array Keyed×Nat×Nat×Nat):Prop
 |mk:∀r out ia ib g,c=(some r,out,ia,ib,g)->Fn a b r->FnA a b c
inductive HiA(a b:Array Keyed)(x n:Nat)(c:Option (Array Keyed)×Nat×Nat×Array Keyed×Nat):Prop
 |mk:∀out i j g,c=(none,i,j,out,g)->MH a b out i j->1<=i->1<j->i+j+x<=n->HiA a b x n c
inductive FhA(a b:Array Keyed)(c:Option (Array Keyed)×Nat×Nat×Array Keyed×Nat):Prop
 |mk:∀r out i j g,c=(some r,i,j,out,g)->Fn a b r->FhA a b c
inductive LoB(a b:Array Keyed)(n:Nat)(c:Option (Array Keyed)×Array Keyed×Nat×Nat×Nat×Nat):Prop
 |mk:∀out ia ib p q,c=(none,out,ia,ib,p,q)->MI a b out ia ib->ia+1<a.size->ib<b.size->n<=ia+ib->LoB a b n c
inductive FnB(a b:Array Keyed)(c:Option (Array Keyed)×Array Keyed×Nat×Nat×Nat×Nat):Prop
 |mk:∀r out ia ib p q,c=(some r,out,ia,ib,p,q)->Fn a b r->FnB a b c
inductive HiB(a b:Array Keyed)(x n:Nat)(c:Option (Array Keyed)×Nat×Nat×Array Keyed×Nat×Nat):Prop
 |mk:∀out i j p q,c=(none,i,j,out,p,q)->MH a b out i j->1<=i->1<j->i+j+x<=n->HiB a b x n c
inductive FhB(a b:Array Keyed)(c:Option (Array Keyed)×Nat×Nat×Array Keyed×Nat×Nat):Prop
 |mk:∀r out i j p q,c=(some r,i,j,out,p,q)->Fn a b r->FhB a b c
inductive LoD(a b:Array Keyed)(n:Nat)(c:Option (Array Keyed)×Array Keyed×Nat×Nat×Nat×Nat×Nat):Prop
 |mk:∀out ia ib g p q,c=(none,out,ia,ib,g,p,q)->MI a b out ia ib->ia+1<a.size->ib<b.size->n<=ia+ib->LoD a b n c
inductive FnD(a b:Array Keyed)(c:Option (Array Keyed)×Array Keyed×Nat×Nat×Nat×Nat×Nat):Prop
 |mk:∀r out ia ib g p q,c=(some r,out,ia,ib,g,p,q)->Fn a b r->FnD a b c
inductive HiD(a b:Array Keyed)(x n:Nat)(c:Option (Array Keyed)×Nat×Nat×Array Keyed×Nat×Nat×Nat):Prop
 |mk:∀out i j g p q,c=(none,i,j,out,g,p,q)->MH a b out i j->1<=i->1<j->i+j+x<=n->HiD a b x n c
inductive FhD(a b:Array Keyed)(c:Option (Array Keyed)×Nat×Nat×Array Keyed×Nat×Nat×Nat):Prop
 |mk:∀r out i j g p q,c=(some r,i,j,out,g,p,q)->Fn a b r->FhD a b c
theorem tY{Q:Array Keyed->SortSt->Prop}(C:CmpOk prog w A s kd κ)(hk:kindOf st=kd)(ha:∀x∈a.toList,Has κ x)(hb:∀x∈b.toList,Has κ x)(na:1<=a.size)(nb:1<=b.size)
  (h:∀r st',aL st st'->Fn a b r->Q r st'):wpS (model prog w) A E s (mLo a b) Q st:=by
 refine qAF (qBu (qBD ⟨rfl,?_⟩));obtain⟨y0,ey,hy⟩:=zCo hb (show 0<b.size by lia);refine qAF (zB2 ey ?_);have M0:MI a b #[] 0 0:=⟨by lia,by lia,λp=>by simp⟩;have M1:MI a b #[y0] 0 1:=M0.tB ey;show wpS _ _ _ _ (if(1==b.size)=true then _ else _) _ _
 by_cases c1:(1==b.size)=true
 .rw [qAC c1];exact qAH (h _ _ (aL.refl _) M1.f1)
 rw[qAB c1];show wpS _ _ _ _ (if(0+1==a.size)=true then _ else _) _ _
 by_cases c2:(0+1==a.size)=true
 .rw [qAC c2];exact qAH (h _ _ (aL.refl _) M1.f2)
 rw[qAB c2];have:=zAy c1;have:=zAy c2;refine qAF (qBW ?_)
 refine qAF (qA3 (qA1 (I:=λx c st'=>aL st st'/\LoA a b (x+1) c) (Q:=λc st'=>aL st st'/\FnA a b c) ?step ?fin ⟨aL.refl _,_,_,_,_,rfl,M1,by lia,by lia,by lia⟩) ?post)
 case fin=>
  rintro c st' ⟨_,out,ia,ib,g,rfl,M,h1,h2,h3⟩;lia
 case post=>
  rintro c st' ⟨L,r,out,ia,ib,g,rfl,F⟩;exact qAH (h r st' L F)
 case step=>
  rintro x c st1 _ hx1 ⟨L1,out0,ia0,ib0,g0,rfl,M,u1,u2,u3⟩;have hk1:kindOf st1=kd:=L1.kd.trans hk;dsimp only
  refine qAF (qA3 (qA1 (I:=λx c st'=>st'=st1/\LoB a b (ia0+ib0+x) c) (Q:=λc st'=>st'=st1/\(FnB a b c\/LoB a b (ia0+ib0+1) c)) ?step1 ?fin1 ⟨rfl,_,_,_,_,_,rfl,M,u1,u2,by lia⟩) ?post1)
  case fin1=>
   rintro c st' ⟨rfl,out,ia,ib,p,q,rfl,M',v1,v2,v3⟩;exact⟨rfl,.inr ⟨out,ia,ib,p,q,rfl,M',v1,v2,by lia⟩⟩
  case step1=>
   rintro x2 c st' _ hx2 ⟨rfl,out,ia,ib,p,q,rfl,M',v1,v2,v3⟩;obtain⟨yb,eb,hyb⟩:=zCo hb v2;obtain⟨xa,ea,hxa⟩:=zCo ha (show ia<a.size by lia);dsimp only;refine qAF (zB2 eb (qAF (zB2 ea (qAF (w_lt C hk1 hyb hxa ?_)))));generalize κ.blt (kk κ yb) (kk κ xa)=c;show wpS _ _ _ _ (if c=true then _ else _) _ _
   by_cases e:c=true
   .rw [qAC e];refine qAF (zB2 eb ?_);have M2:=M'.tB eb
    by_cases d1:(ib+1==b.size)=true
    .rw [qAC d1];exact qAH ⟨rfl,.inl ⟨_,_,_,_,_,_,rfl,M2.f1⟩⟩
    .have:=zAy d1;rw[qAB d1]
     by_cases d2:q+1>=g0
     .rw [qAC d2];exact qAH ⟨rfl,.inr ⟨_,_,_,_,_,rfl,M2,v1,by lia,by lia⟩⟩
     .rw [qAB d2];exact qAH ⟨rfl,_,_,_,_,_,rfl,M2,v1,by lia,by lia⟩
   .rw [qAB e];refine qAF (zB2 ea ?_);have M2:=M'.tA ea
    by_cases d1:(ia+1+1==a.size)=true
    .rw [qAC d1];exact qAH ⟨rfl,.inl ⟨_,_,_,_,_,_,rfl,M2.f2⟩⟩
    .have:=zAy d1;rw[qAB d1]
     by_cases d2:p+1>=g0
     .rw [qAC d2];exact qAH ⟨rfl,.inr ⟨_,_,_,_,_,rfl,M2,by lia,v2,by lia⟩⟩
     .rw [qAB d2];exact qAH ⟨rfl,_,_,_,_,_,rfl,M2,by lia,v2,by lia⟩
  case post1=>
   rintro c st' ⟨rfl,⟨r,out,ia,ib,p,q,rfl,F⟩|⟨out,ia,ib,p,q,rfl,M',v1,v2,v3⟩⟩
   .exact qAH ⟨L1,_,_,_,_,_,rfl,F⟩
   .dsimp only;refine qAF (qBu (qBD ⟨rfl,?_⟩))
    refine qAF (qA3 (qA1 (I:=λx c st'=>aL st st'/\LoD a b (ia0+ib0+1) c) (Q:=λc st'=>aL st st'/\(FnD a b c\/LoD a b (ia0+ib0+1) c)) ?step2 ?fin2 ⟨L1,_,_,_,_,_,_,rfl,M',v1,v2,v3⟩) ?post2)
    case fin2=>
     rintro c st' ⟨L,v⟩;exact⟨L,.inr v⟩
    case post2=>
     rintro c st' ⟨L,⟨r,out,ia,ib,g,p,q,rfl,F⟩|⟨out,ia,ib,g,p,q,rfl,M',v1,v2,v3⟩⟩
     .exact qAH ⟨L,_,_,_,_,_,rfl,F⟩
     .dsimp only;refine qAF (qA7 (qAH ⟨L.trans ⟨rfl,rfl,rfl,rfl⟩,_,_,_,_,rfl,M',v1,v2,by lia⟩))
    case step2=>
     rintro x3 c st2 _ hx3 ⟨L2,out,ia,ib,g,p,q,rfl,M2,w1,w2,w3⟩;dsimp only
     have run:∀(g':Nat)(R:ForInStep jV->SortSt->Prop),(∀L3:aL st (SortSt.mk' (kindOf st2) (arrOf st2) (pendingOf st2) g' (failedOf st2)),TO a b (ia0+ib0+1) (SortSt.mk' (kindOf st2) (arrOf st2) (pendingOf st2) g' (failedOf st2)) R)->wpS (model prog w) A E s (tT a b out ia ib g' p q) R (SortSt.mk' (kindOf st2) (arrOf st2) (pendingOf st2) g' (failedOf st2)):=λg' R hR=>by
      have L3:aL st (SortSt.mk' (kindOf st2) (arrOf st2) (pendingOf st2) g' (failedOf st2)):=L2.trans ⟨rfl,rfl,rfl,rfl⟩;exact vj C (L3.kd.trans hk) ha hb M2 w1 w2 w3 (hR L3)
     by_cases d0:g>1
     .rw [qAC d0];exact qAF (qA7 (run (g-1) _ λL3=>⟨λr o i j g p q F=>⟨L3,.inl ⟨_,_,_,_,_,_,_,rfl,F⟩⟩,λo i j g p q M' h1 h2 h3=>⟨⟨L3,.inr ⟨_,_,_,_,_,_,rfl,M',h1,h2,h3⟩⟩,⟨L3,_,_,_,_,_,_,rfl,M',h1,h2,h3⟩⟩⟩))
     .rw [qAB d0];exact qAF (qA7 (run g _ λL3=>⟨λr o i j g p q F=>⟨L3,.inl ⟨_,_,_,_,_,_,_,rfl,F⟩⟩,λo i j g p q M' h1 h2 h3=>⟨⟨L3,.inr ⟨_,_,_,_,_,_,rfl,M',h1,h2,h3⟩⟩,⟨L3,_,_,_,_,_,_,rfl,M',h1,h2,h3⟩⟩⟩))
abbrev cZ:=Option (Array Keyed)×Nat×Nat×Array Keyed×Nat×Nat×Nat
def uA(a b o:Array Keyed)(i j g p q:Nat):StateT SortSt Sem (ForInStep cZ):=do
 let x<-elem' a (i-1)
 if(i-1==0)=true then pure (.done (some (a.extract 0 (i-1)++b.extract 0 j++(o.push x).reverse),i-1,j,o.push x,g,p,q))
 else if(decide (p<7)&&decide (q<7))=true then pure (.done (none,i-1,j,o.push x,g,p,q))
 else pure (.yield (none,i-1,j,o.push x,g,p,q))
def uB(a b o:Array Keyed)(i j g p q:Nat):StateT SortSt Sem (ForInStep cZ):=do
 let y<-elem' b (j-1)
 if(j-1==1)=true then pure (.done (some (b.extract 0 (j-1)++a.extract 0 i++(o.push y).reverse),i,j-1,o.push y,g,p,q))
 else do
  let x<-elem' a (i-1)
  let r<-gal true x b 0 (j-1) (j-1-1)
  match r with
  |some k=>
   if j-1-k>0 then
    if(k==1)=true then pure (.done (some (b.extract 0 k++a.extract 0 i++(o.push y++(b.extract k (j-1)).reverse).reverse),i,k,o.push y++(b.extract k (j-1)).reverse,g,p,j-1-k))
    else if(k==0)=true then pure (.done (some (a.extract 0 i++b.extract 0 k++(o.push y++(b.extract k (j-1)).reverse).reverse),i,k,o.push y++(b.extract k (j-1)).reverse,g,p,j-1-k))
    else uA a b (o.push y++(b.extract k (j-1)).reverse) i k g p (j-1-k)
   else uA a b (o.push y) i (j-1) g p (j-1-k)
  |_=>pure (.done (some (a.extract 0 i++b.extract 0 (j-1)++(o.push y).reverse),i,j-1,o.push y,g,p,q))
def uT(a b o:Array Keyed)(i j g p q:Nat):StateT SortSt Sem (ForInStep cZ):=do
 let y<-elem' b (j-1)
 let r<-gal false y a 0 i (i-1)
 match r with
 |some k=>
  if i-k>0 then
   if(k==0)=true then pure (.done (some (a.extract 0 k++b.extract 0 j++(o++(a.extract k i).reverse).reverse),k,j,o++(a.extract k i).reverse,g,i-k,q))
   else uB a b (o++(a.extract k i).reverse) k j g (i-k) q
  else uB a b o i j g (i-k) q
 |_=>pure (.done (some (a.extract 0 i++b.extract 0 j++o.reverse),i,j,o,g,p,q))
def TH(a b:Array Keyed)(m:Nat)(st3:SortSt)(R:ForInStep cZ->SortSt->Prop):Prop :=
 (∀r o i j g p q,Fn a b r->R (.done (some r,i,j,o,g,p,q)) st3)/\(∀o i j g p q,MH a b o i j->1<=i->1<j->i+j<=m->R (.done (none,i,j,o,g,p,q)) st3/\R (.yield (none,i,j,o,g,p,q)) st3)
section
variable{st3:SortSt}{o:Array Keyed}{i j g p q m:Nat}{R:ForInStep cZ->SortSt->Prop}
theorem ud(ha:∀x∈a.toList,Has κ x)(M:MH a b o i j)(hi:1<=i)(hj:1<j)(hm:i+j<=m+1)(hR:TH a b m st3 R):wpS (model prog w) A E s (uA a b o i j g p q) R st3:=by
 have hla:=M.la;obtain⟨n,rfl⟩:∃n,i=n+1:=⟨i-1,by lia⟩;obtain⟨x,ex,_⟩:=zCo ha (show n<a.size by lia);have M2:=M.tA ex;refine qAF (zB2 ex ?_);show wpS _ _ _ _ (if(n==0)=true then _ else _) _ _
 by_cases d1:(n==0)=true
 .rw [qAC d1];exact qAH (hR.1 _ _ _ _ _ _ _ M2.f1)
 .have:=zAy d1;rw[qAB d1];have q:=hR.2 _ _ _ g p q M2 (by lia) hj (by lia);split
  .exact qAH q.1
  .exact qAH q.2
theorem uz(C:CmpOk prog w A s kd κ)(hk:kindOf st3=kd)(ha:∀x∈a.toList,Has κ x)(hb:∀x∈b.toList,Has κ x)(M:MH a b o i j)(hi:1<=i)(hj:1<j)(hm:i+j<=m+1)(hR:TH a b m st3 R) :
  wpS (model prog w) A E s (uB a b o i j g p q) R st3:=by
 have hla:=M.la;have hlb:=M.lb;obtain⟨n,rfl⟩:∃n,j=n+1:=⟨j-1,by lia⟩;obtain⟨y,ey,hyy⟩:=zCo hb (show n<b.size by lia);obtain⟨x,ex,hxx⟩:=zCo ha (show i-1<a.size by lia);have M2:=M.tB ey;refine qAF (zB2 ey ?_);show wpS _ _ _ _ (if(n==1)=true then _ else _) _ _
 by_cases d1:(n==1)=true
 .rw [qAC d1];exact qAH (hR.1 _ _ _ _ _ _ _ M2.f2)
 .have:=zAy d1;rw[qAB d1];refine qAF (zB2 ex (qAF (cW C hk hxx (λi hi=>zCo hb (show 0+i<b.size by have:i<n:=hi;lia)) (show n-1<n by lia) λk k1=>?_)));have k1:k<=n:=k1;have M3:=M2.tBs k k1;show wpS _ _ _ _ (if n-k>0 then _ else _) _ _
  by_cases hk0:n-k>0
  .rw [qAC hk0]
   by_cases d2:(k==1)=true
   .rw [qAC d2];exact qAH (hR.1 _ _ _ _ _ _ _ M3.f2)
   .rw [qAB d2]
    by_cases d3:(k==0)=true
    .rw [qAC d3];exact qAH (hR.1 _ _ _ _ _ _ _ M3.f1)
    .have:=zAy d2;have:=zAy d3;rw[qAB d3];exact ud ha M3 hi (by lia) (by lia) hR
  .rw [qAB hk0];exact ud ha M2 hi (by lia) (show i+n<=m+1 by lia) hR
theorem vv(C:CmpOk prog w A s kd κ)(hk:kindOf st3=kd)(ha:∀x∈a.toList,Has κ x)(hb:∀x∈b.toList,Has κ x)(M:MH a b o i j)(hi:1<=i)(hj:1<j)(hm:i+j<=m+1)(hR:TH a b m st3 R):wpS (model prog w) A E s (uT a b o i j g p q) R st3:=by
 have hla:=M.la;have hlb:=M.lb;obtain⟨y,ey,hyy⟩:=zCo hb (show j-1<b.size by lia);refine qAF (zB2 ey (qAF (cW C hk hyy (λu hi=>zCo ha (show 0+u<a.size by have:u<i:=hi;lia)) (show i-1<i by lia) λk k1=>?_)));have k1:k<=i:=k1;have M3:=M.tAs k k1;show wpS _ _ _ _ (if i-k>0 then _ else _) _ _
 by_cases hk0:i-k>0
 .rw [qAC hk0]
  by_cases d1:(k==0)=true
  .rw [qAC d1];exact qAH (hR.1 _ _ _ _ _ _ _ M3.f1)
  .have:=zAy d1;rw[qAB d1];exact uz C hk ha hb M3 (by lia) hj (by lia) hR
 .rw [qAB hk0];exact uz C hk ha hb M hi hj hm hR
end
theorem uS{Q:Array Keyed->SortSt->Prop}(C:CmpOk prog w A s kd κ)(hk:kindOf st=kd)(ha:∀x∈a.toList,Has κ x)(hb:∀x∈b.toList,Has κ x)(na:1<=a.size)(nb:1<=b.size)
  (h:∀r st',aL st st'->Fn a b r->Q r st'):wpS (model prog w) A E s (mHi a b) Q st:=by
 refine qAF (qBu (qBD ⟨rfl,?_⟩));obtain⟨n,hn⟩:∃n,a.size=n+1:=⟨a.size-1,by lia⟩;obtain⟨x0,ex,hx⟩:=zCo ha (show n<a.size by lia);have en:a.size-1=n:=by lia
 refine qAF (zB2 (p:=x0) (by rw[en];exact ex) ?_);have M0:MH a b #[] (n+1) b.size:=⟨by lia,by lia,λp=>by rw[<-hn,qBN (show a.toList.length<=a.size by simp),qBN (show b.toList.length<=b.size by simp)];simp⟩;have M1:MH a b #[x0] n b.size:=M0.tA ex;rw[<-en]at M1;show wpS _ _ _ _ (if(a.size-1==0)=true then _ else _) _ _
 by_cases c1:(a.size-1==0)=true
 .rw [qAC c1];exact qAH (h _ _ (aL.refl _) M1.f1)
 rw[qAB c1]
 by_cases c2:(b.size==1)=true
 .rw [qAC c2];exact qAH (h _ _ (aL.refl _) M1.f2)
 rw[qAB c2];have:=zAy c1;have:=zAy c2;refine qAF (qBW ?_)
 refine qAF (qA3 (qA1 (I:=λx c st'=>aL st st'/\HiA a b x (a.size+b.size) c) (Q:=λc st'=>aL st st'/\FhA a b c) ?step ?fin ⟨aL.refl _,_,_,_,_,rfl,M1,by lia,by lia,by lia⟩) ?post)
 case fin=>
  rintro c st' ⟨_,out,i,j,g,rfl,M,h1,h2,h3⟩;lia
 case post=>
  rintro c st' ⟨L,r,out,i,j,g,rfl,F⟩;exact qAH (h r st' L F)
 case step=>
  rintro x c st1 _ hx1 ⟨L1,out0,i0,j0,g0,rfl,M,u1,u2,u3⟩;have hk1:kindOf st1=kd:=L1.kd.trans hk;dsimp only
  refine qAF (qA3 (qA1 (I:=λx c st'=>st'=st1/\HiB a b x (i0+j0) c) (Q:=λc st'=>st'=st1/\(FhB a b c\/HiB a b 1 (i0+j0) c)) ?step1 ?fin1 ⟨rfl,_,_,_,_,_,rfl,M,u1,u2,by lia⟩) ?post1)
  case fin1=>
   rintro c st' ⟨rfl,out,i,j,p,q,rfl,M',v1,v2,v3⟩;exact⟨rfl,.inr ⟨out,i,j,p,q,rfl,M',v1,v2,by lia⟩⟩
  case step1=>
   rintro x2 c st' _ hx2 ⟨rfl,out,i,j,p,q,rfl,M',v1,v2,v3⟩;have hla:=M'.la;have hlb:=M'.lb;obtain⟨n,rfl⟩:∃n,i=n+1:=⟨i-1,by lia⟩;obtain⟨m,rfl⟩:∃m,j=m+1:=⟨j-1,by lia⟩;obtain⟨yb,eb,hyb⟩:=zCo hb (show m<b.size by lia);obtain⟨xa,ea,hxa⟩:=zCo ha (show n<a.size by lia);dsimp only;refine qAF (zB2 eb (qAF (zB2 ea (qAF (w_lt C hk1 hyb hxa ?_)))));generalize κ.blt (kk κ yb) (kk κ xa)=c;show wpS _ _ _ _ (if c=true then _ else _) _ _
   by_cases e:c=true
   .rw [qAC e];refine qAF (zB2 ea ?_);have M2:=M'.tA ea;show wpS _ _ _ _ (if(n==0)=true then _ else _) _ _
    by_cases d1:(n==0)=true
    .rw [qAC d1];exact qAH ⟨rfl,.inl ⟨_,_,_,_,_,_,rfl,M2.f1⟩⟩
    .have:=zAy d1;rw[qAB d1]
     by_cases d2:p+1>=g0
     .rw [qAC d2];exact qAH ⟨rfl,.inr ⟨_,_,_,_,_,rfl,M2,by lia,v2,by lia⟩⟩
     .rw [qAB d2];exact qAH ⟨rfl,_,_,_,_,_,rfl,M2,by lia,v2,by lia⟩
   .rw [qAB e];refine qAF (zB2 eb ?_);have M2:=M'.tB eb;show wpS _ _ _ _ (if(m==1)=true then _ else _) _ _
    by_cases d1:(m==1)=true
    .rw [qAC d1];exact qAH ⟨rfl,.inl ⟨_,_,_,_,_,_,rfl,M2.f2⟩⟩
    .have:=zAy d1;rw[qAB d1]
     by_cases d2:q+1>=g0
     .rw [qAC d2];exact qAH ⟨rfl,.inr ⟨_,_,_,_,_,rfl,M2,v1,by lia,by lia⟩⟩
     .rw [qAB d2];exact qAH ⟨rfl,_,_,_,_,_,rfl,M2,v1,by lia,by lia⟩
  case post1=>
   rintro c st' ⟨rfl,⟨r,out,i,j,p,q,rfl,F⟩|⟨out,i,j,p,q,rfl,M',v1,v2,v3⟩⟩
   .exact qAH ⟨L1,_,_,_,_,_,rfl,F⟩
   .dsimp only;refine qAF (qBu (qBD ⟨rfl,?_⟩))
    refine qAF (qA3 (qA1 (I:=λx c st'=>aL st st'/\HiD a b 1 (i0+j0) c) (Q:=λc st'=>aL st st'/\(FhD a b c\/HiD a b 1 (i0+j0) c)) ?step2 ?fin2 ⟨L1,_,_,_,_,_,_,rfl,M',v1,v2,v3⟩) ?post2)
    case fin2=>
     rintro c st' ⟨L,v⟩;exact⟨L,.inr v⟩
    case post2=>
     rintro c st' ⟨L,⟨r,out,i,j,g,p,q,rfl,F⟩|⟨out,i,j,g,p,q,rfl,M',v1,v2,v3⟩⟩
     .exact qAH ⟨L,_,_,_,_,_,rfl,F⟩
     .dsimp only;refine qAF (qA7 (qAH ⟨L.trans ⟨rfl,rfl,rfl,rfl⟩,_,_,_,_,rfl,M',v1,v2,by lia⟩))
    case step2=>
     rintro x3 c st2 _ hx3 ⟨L2,out,i,j,g,p,q,rfl,M2,w1,w2,w3⟩;dsimp only
     have run:∀(g':Nat)(R:ForInStep cZ->SortSt->Prop),(∀L3:aL st (SortSt.mk' (kindOf st2) (arrOf st2) (pendingOf st2) g' (failedOf st2)),TH a b (i0+j0-1) (SortSt.mk' (kindOf st2) (arrOf st2) (pendingOf st2) g' (failedOf st2)) R)->wpS (model prog w) A E s (uT a b out i j g' p q) R (SortSt.mk' (kindOf st2) (arrOf st2) (pendingOf st2) g' (failedOf st2)):=λg' R hR=>by
      have L3:aL st (SortSt.mk' (kindOf st2) (arrOf st2) (pendingOf st2) g' (failedOf st2)):=L2.trans ⟨rfl,rfl,rfl,rfl⟩;exact vv C (L3.kd.trans hk) ha hb M2 w1 w2 (by lia) (hR L3)
     by_cases d0:g>1
     .rw [qAC d0];exact qAF (qA7 (run (g-1) _ λL3=>⟨λr o i j g p q F=>⟨L3,.inl ⟨_,_,_,_,_,_,_,rfl,F⟩⟩,λo i j g p q M' h1 h2 h3=>⟨⟨L3,.inr ⟨_,_,_,_,_,_,rfl,M',h1,h2,by lia⟩⟩,⟨L3,_,_,_,_,_,_,rfl,M',h1,h2,by lia⟩⟩⟩))
     .rw [qAB d0];exact qAF (qA7 (run g _ λL3=>⟨λr o i j g p q F=>⟨L3,.inl ⟨_,_,_,_,_,_,_,rfl,F⟩⟩,λo i j g p q M' h1 h2 h3=>⟨⟨L3,.inr ⟨_,_,_,_,_,_,rfl,M',h1,h2,by lia⟩⟩,⟨L3,_,_,_,_,_,_,rfl,M',h1,h2,by lia⟩⟩⟩))
end
section
variable{prog:Program}{w:World}{A:Around}{E:Value->Shared->Prop}{s:Shared}{kd:SortKind}{κ:KeyKind}
structure Fr(st st':SortSt):Prop where
 kd:kindOf st'=kindOf st
 pn:pendingOf st'=pendingOf st
 fl:failedOf st'=failedOf st
 perm:(arrOf st').Perm (arrOf st)
theorem Fr.refl(st:SortSt):Fr st st:=⟨rfl,rfl,rfl,Array.Perm.refl _⟩
theorem Fr.trans{a b c:SortSt}(h:Fr a b)(k:Fr b c):Fr a c:=⟨k.kd.trans h.kd,k.pn.trans h.pn,k.fl.trans h.fl,k.perm.trans h.perm⟩
theorem Fr.size{a b:SortSt}(h:Fr a b):(arrOf b).size=(arrOf a).size:=h.perm.size_eq
theorem Fr.rev(st:SortSt)(i j k:Nat):Fr st (setArr st (mirror (arrOf st) i j k)):=⟨rfl,rfl,rfl,mirror_perm _ _ _ _⟩
def All(κ:KeyKind)(st:SortSt):Prop:=∀x∈(arrOf st).toList,Has κ x
theorem All.fr{a b:SortSt}(h:All κ a)(f:Fr a b):All κ b:=λx hx=>h x ((qC3.mp f.perm).mem_iff.mp hx)
theorem All.at(h:All κ st)(hi:i<(arrOf st).size):∃p,(arrOf st)[i]?=some p/\Has κ p:=zCo h hi
theorem gr{j:Nat}{Q:Option Bool->SortSt->Prop}(C:CmpOk prog w A s kd κ)(hk:kindOf st=kd)(al:All κ st)(hi:i<(arrOf st).size)(hj:j<(arrOf st).size)(h:∀c,Q (some c) st):wpS (model prog w) A E s (ltAt' i j) Q st:=tE C hk (al.at hi) (al.at hj) (h _)
theorem qU{n0:Nat}{Q:α->SortSt->Prop}(C:CmpOk prog w A s kd κ)(hk:kindOf st=kd)(al:All κ st)(hn:lo+nrem<=(arrOf st).size)(h1:1<=n0)(h2:n0<=nrem)
  (F:Nat->Option (Option Nat)×Nat->StateT SortSt Sem (ForInStep (Option (Option Nat)×Nat))) (hF:∀x n,F x (none,n)=(do
   let c<-ltAt' (lo+n) (lo+n-1)
   match c with
   |some c=>if c=true then pure (ForInStep.done (none,n))else pure (ForInStep.yield (none,n+1))
   |_=>pure (ForInStep.done (some none,n)))) (G:Option (Option Nat)×Nat->StateT SortSt Sem α)
  (hG:∀n,n0<=n->n<=nrem->wpS (model prog w) A E s (G (none,n)) Q st) :
  wpS (model prog w) A E s (forIn [n0:nrem] ((none,n0):Option (Option Nat)×Nat) F >>= G) Q st:=by
 refine qAF (qA1 (I:=λx c st'=>st'=st/\c=(none,x)/\x<=nrem) ?step ?fin ⟨rfl,rfl,h2⟩)
 case fin=>
  rintro c st' ⟨rfl,rfl,h3⟩;rw[show max n0 nrem=nrem by lia];exact hG nrem h2 (qAG _)
 case step=>
  rintro x c st' hx1 hx2 ⟨rfl,rfl,h3⟩;rw[hF];refine qAF (gr C hk al (by lia) (by lia) λc=>?_);show wpS _ _ _ _ (if c=true then _ else _) _ _;split
  .exact qAH (hG x hx1 h3)
  .exact qAH ⟨rfl,rfl,by lia⟩
theorem d9{Q:Option Nat->SortSt->Prop}(C:CmpOk prog w A s kd κ)(hk:kindOf st=kd)(al:All κ st)(hn:lo+nrem<=(arrOf st).size)(h1:1<=n)(h2:n<=nrem)
  (F:Nat->Option (Option Nat)×Nat->StateT SortSt Sem (ForInStep (Option (Option Nat)×Nat))) (hF:∀x n,F x (none,n)=(do
   let c<-ltAt' (lo+n) (lo+n-1)
   match c with
   |some c=>if c=true then pure (ForInStep.done (none,n))else pure (ForInStep.yield (none,n+1))
   |_=>pure (ForInStep.done (some none,n)))) (G:Option (Option Nat)×Nat->StateT SortSt Sem (Option Nat)) (hG:∀n,G (none,n)=pure (some n))
  (h:∀m st',Fr st st'->1<=m->m<=nrem->Q (some m) st') :
  wpS (model prog w) A E s (reverseSlice' lo (lo+n) >>= λ_=>forIn [n:nrem] ((none,n):Option (Option Nat)×Nat) F >>= G) Q st:=by
 have f:=Fr.rev st lo (lo+n) ((lo+n-lo) / 2);refine qAF (qCh ?_);refine qU C (f.kd.trans hk) (al.fr f) (by rw[f.size];exact hn) h1 h2 F hF G λm m1 m2=>?_;rw[hG];exact qAH (h m _ f (by lia) m2)
theorem oE{n0:Nat}{Q:α->SortSt->Prop}(C:CmpOk prog w A s kd κ)(hk:kindOf st=kd)(al:All κ st)(hn:lo+nrem<=(arrOf st).size)(h1:1<=n0)(h2:n0<=nrem)
  (F:Nat->Option (Option Nat)×Nat×Nat->StateT SortSt Sem (ForInStep (Option (Option Nat)×Nat×Nat))) (hF:∀x n q,F x (none,n,q)=(ltAt' (lo+n) (lo+n-1) >>= λc=>match c with
   |some c=>(if c=true then(if q>0 then(reverseSlice' (lo+n-(q+1)) (lo+n) >>= λ_=>pure (ForInStep.yield (none,n+1,0)))else pure (ForInStep.yield (none,n+1,0)))
    else(ltAt' (lo+n-1) (lo+n) >>= λd=>match d with
     |some d=>(if d=true then pure (ForInStep.done (none,n,q))else pure (ForInStep.yield (none,n+1,q+1)))
     |_=>pure (ForInStep.done (some none,n,q))))
   |_=>pure (ForInStep.done (some none,n,q)))) (G:Option (Option Nat)×Nat×Nat->StateT SortSt Sem α)
  (hG:∀n q st',Fr st st'->n0<=n->n<=nrem->wpS (model prog w) A E s (G (none,n,q)) Q st') :
  wpS (model prog w) A E s (forIn [n0:nrem] ((none,n0,0):Option (Option Nat)×Nat×Nat) F >>= G) Q st:=by
 refine qAF (qA1 (I:=λx c st'=>Fr st st'/\∃q,c=(none,x,q)/\x<=nrem) ?step ?fin ⟨Fr.refl _,0,rfl,h2⟩)
 case fin=>
  rintro c st' ⟨f,q,rfl,h3⟩;rw[show max n0 nrem=nrem by lia];exact hG nrem q st' f h2 (qAG _)
 case step=>
  rintro x c st' hx1 hx2 ⟨f,q,rfl,h3⟩;have hz:(arrOf st').size=(arrOf st).size:=f.size;have al':=al.fr f;have hk':=f.kd.trans hk;rw[hF];refine qAF (gr C hk' al' (by lia) (by lia) λc=>?_);show wpS _ _ _ _ (if c=true then _ else _) _ _
  by_cases e:c=true
  .rw [qAC e]
   by_cases hq:q>0
   .rw [qAC hq];exact qAF (qCh (qAH ⟨f.trans (Fr.rev _ _ _ _),0,rfl,by lia⟩))
   .rw [qAB hq];exact qAH ⟨f,0,rfl,by lia⟩
  .rw [qAB e];refine qAF (gr C hk' al' (by lia) (by lia) λd=>?_);show wpS _ _ _ _ (if d=true then _ else _) _ _
   by_cases e2:d=true
   .rw [qAC e2];exact qAH (hG x q st' f hx1 h3)
   .rw [qAB e2];exact qAH ⟨f,q+1,rfl,by lia⟩
theorem qp{Q:Option Nat->SortSt->Prop}(C:CmpOk prog w A s kd κ)(hk:kindOf st=kd)(al:All κ st)(hn:lo+nrem<=(arrOf st).size)(h1:1<=nrem)
  (h:∀m st',Fr st st'->1<=m->m<=nrem->Q (some m) st'):wpS (model prog w) A E s (countRun' lo nrem) Q st:=by
 refine qU C hk al hn (qAG 1) h1 _ (λx n=>rfl) _ λn n1 n2=>?_;show wpS _ _ _ _ (if(n==nrem)=true then _ else _) _ _
 by_cases c:(n==nrem)=true
 .rw [qAC c];exact qAH (h n st (Fr.refl _) n1 n2)
 rw[qAB c];have c':=zAy c;show wpS _ _ _ _ (if n>1 then _ else _) _ _
 by_cases g:n>1
 .rw [qAC g];refine qAF (gr C hk al (by lia) (by lia) λc=>?_);show wpS _ _ _ _ (if c=true then _ else _) _ _
  by_cases e:c=true
  .rw [qAC e];exact qAH (h n st (Fr.refl _) n1 n2)
  .rw [qAB e];have f1:=Fr.rev st lo (lo+n) ((lo+n-lo) / 2);refine qAF (qCh ?_);refine qAF (qBu (qBD ⟨rfl,?_⟩));refine oE C (f1.kd.trans hk) (al.fr f1) (by rw[f1.size];exact hn) (by lia) (by lia) _ (λx n q=>rfl) _ λm q st2 f2 m1 m2=>?_;have f2:=f1.trans f2;show wpS _ _ _ _ (if q>0 then _ else _) _ _
   by_cases hq:q>0
   .rw [qAC hq];have f3:=f2.trans (Fr.rev st2 (lo+m-(q+1)) (lo+m) ((lo+m-(lo+m-(q+1))) / 2));refine qAF (qCh ?_);exact d9 C (f3.kd.trans hk) (al.fr f3) (by rw[f3.size];exact hn) (by lia) m2 _ (λx n=>rfl) _ (λn=>rfl) λm' st' f'=>h m' st' (f3.trans f')
   .rw [qAB hq];exact d9 C (f2.kd.trans hk) (al.fr f2) (by rw[f2.size];exact hn) (by lia) m2 _ (λx n=>rfl) _ (λn=>rfl) λm' st' f'=>h m' st' (f2.trans f')
 .rw [qAB g];have en:n=1:=by lia
  subst en;refine qAF (qBu (qBD ⟨rfl,?_⟩));refine oE C hk al hn (by lia) (by lia) _ (λx n q=>rfl) _ λm q st2 f2 m1 m2=>?_;show wpS _ _ _ _ (if q>0 then _ else _) _ _
  by_cases hq:q>0
  .rw [qAC hq];have f3:=f2.trans (Fr.rev st2 (lo+m-(q+1)) (lo+m) ((lo+m-(lo+m-(q+1))) / 2));refine qAF (qCh ?_);exact d9 C (f3.kd.trans hk) (al.fr f3) (by rw[f3.size];exact hn) (by lia) m2 _ (λx n=>rfl) _ (λn=>rfl) λm' st' f'=>h m' st' (f3.trans f')
  .rw [qAB hq];exact d9 C (f2.kd.trans hk) (al.fr f2) (by rw[f2.size];exact hn) (by lia) m2 _ (λx n=>rfl) _ (λn=>rfl) λm' st' f'=>h m' st' (f2.trans f')
theorem uI{ok:Nat}{Q:Bool->SortSt->Prop}(C:CmpOk prog w A s kd κ)(hk:kindOf st=kd)(al:All κ st)(hn:lo+n<=(arrOf st).size)
  (h:∀st',Fr st st'->Q true st'):wpS (model prog w) A E s (binarySort' lo n ok) Q st:=by
 refine qAF (qA3 (qA1 (I:=λk c st'=>c=(none,())/\Fr st st') (Q:=λc st'=>c=(none,())/\Fr st st') ?step (λc st' h=>h) ⟨rfl,Fr.refl _⟩) ?post)
 case post=>
  rintro c st' ⟨rfl,f⟩;exact qAH (h st' f)
 case step=>
  rintro k c st' hk1 hk2 ⟨rfl,f⟩;have hz:(arrOf st').size=(arrOf st).size:=f.size
  refine qAF (qA3 (qA1 (I:=λx c st2=>st2=st'/\∃l r,c=(none,l,r)/\l<=r/\r<=k) (Q:=λc st2=>st2=st'/\∃l r,c=(none,l,r)/\l<=r/\r<=k) ?s2 (λc st' h=>h) ⟨rfl,0,k,rfl,by lia,by lia⟩) ?p2)
  case s2=>
   rintro x c st2 _ hx ⟨rfl,l,r,rfl,a1,a2⟩;dsimp only
   by_cases g:l>=r
   .rw [qAC g];exact qAH ⟨rfl,l,r,rfl,a1,a2⟩
   .rw [qAB g];refine qAF (gr C (f.kd.trans hk) (al.fr f) (by lia) (by lia) λc=>?_);show wpS _ _ _ _ (if c=true then _ else _) _ _;split
    .exact qAH ⟨rfl,l,(l+r) / 2,rfl,by lia,by lia⟩
    .exact qAH ⟨rfl,(l+r) / 2+1,r,rfl,by lia,by lia⟩
  case p2=>
   rintro c st2 ⟨rfl,l,r,rfl,a1,a2⟩;show wpS _ _ _ _ (moveDown' (lo+k) (lo+l) >>= λ_=>pure (ForInStep.yield (none,()))) _ _;rw[moveDown'_eq];exact qAF (qA7 (qAH ⟨rfl,f.trans ⟨rfl,rfl,rfl,bubble_perm _ _ _⟩⟩))
theorem uF{M:Model}{σ:Type}{st st':σ}{Q:PUnit->σ->Prop}(h:Q ⟨⟩ st'):wpS M A E s (set st':StateT σ Sem PUnit) Q st:=by
 unfold wpS;rw[StateT.run_set];exact qAE ⟨rfl,h⟩
theorem mQ:∀(m:List Keyed)(arr:Array Keyed)(sa k:Nat),sa+k+m.length<=arr.size ->
  ((m.zipIdx k).foldl (λa x=>match x with|(p,j)=>a.setIfInBounds (sa+j) p) arr).toList=arr.toList.take (sa+k)++m++arr.toList.drop (sa+k+m.length)
 |[],arr,sa,k,_=>by simp
 |p::r,arr,sa,k,h=>by
  rw[qAa]at h;have hk:sa+k<arr.size:=by lia
  rw[List.zipIdx_cons,qBr];show((r.zipIdx (k+1)).foldl _ (arr.setIfInBounds (sa+k) p)).toList=_;rw[mQ r (arr.setIfInBounds (sa+k) p) sa (k+1) (by rw[qDF];lia)];have e:(arr.setIfInBounds (sa+k) p).toList=arr.toList.set (sa+k) p:=by simp
  have hl:sa+k<arr.toList.length:=by simpa using hk
  rw[e,show sa+(k+1)=sa+k+1 by lia,qAa,show sa+k+(r.length+1)=sa+k+1+r.length by lia]
  have e1:(arr.toList.set (sa+k) p).take (sa+k+1)=arr.toList.take (sa+k)++[p]:=by
   rw[qC1,qCE hl,List.take_set_of_le (qAG _)];rfl
  have e2:(arr.toList.set (sa+k) p).drop (sa+k+1+r.length)=arr.toList.drop (sa+k+1+r.length):=List.drop_set_of_lt (by lia);rw[e1,e2];simp
theorem zJu{a:Array Keyed}(h:∀x∈a.toList,Has κ x)(i j:Nat):∀x∈(a.extract i j).toList,Has κ x:=λx hx=>by
 rw[qBi,List.extract_eq_drop_take]at hx;exact h x (qCz (qBj hx))
theorem kF{sa na pw nb pw2:Nat}{Q:Bool->SortSt->Prop}(C:CmpOk prog w A s kd κ)(hk:kindOf st=kd)(al:All κ st)(hp1:(pendingOf st)[i]?=some (sa,na,pw))(hp2:(pendingOf st)[i+1]?=some (sa+na,nb,pw2))
  (h1:1<=na) (h2:1<=nb) (hz:sa+na+nb<=(arrOf st).size) (hfl:failedOf st=none)
  (h:∀st',kindOf st'=kindOf st->failedOf st'=none->pendingOf st'=((pendingOf st).setIfInBounds i (sa,na+nb,pw)).eraseIdxIfInBounds (i+1)->(arrOf st').Perm (arrOf st)->Q true st'):wpS (model prog w) A E s (mergeAt' i) Q st:=by
 obtain⟨st1,e1⟩:∃st1:SortSt,st1=setPending st (((pendingOf st).setIfInBounds i (sa,na+nb,pw)).eraseIdxIfInBounds (i+1)):=⟨_,rfl⟩;have ka:kindOf st1=kindOf st:=by rw[e1]
 have fa:failedOf st1=failedOf st:=by rw[e1]
 have pa:pendingOf st1=((pendingOf st).setIfInBounds i (sa,na+nb,pw)).eraseIdxIfInBounds (i+1):=by rw[e1]
 have aa:arrOf st1=arrOf st:=by rw[e1]
 have plain:Q true st1:=h st1 ka (fa.trans hfl) pa (by rw[aa]);refine qAF (qBW ?_);show wpS _ _ _ _ (match ((pendingOf st)[i]?,(pendingOf st)[i+1]?)with|_=>_) _ _;rw[hp1,hp2];refine qAF (uF ?_);show wpS _ _ _ _ _ _ (setPending st (((pendingOf st).setIfInBounds i (sa,na+nb,pw)).eraseIdxIfInBounds (i+1)));rw[<-e1];obtain⟨y0,ey0,hy0⟩:=al.at (show sa+na<(arrOf st).size by lia);refine qAF (zB2 ey0 ?_);refine qAF (cW C (ka.trans hk) hy0 (λj hj=>al.at (by lia)) (show 0<na by lia) λk hkn=>?_);show wpS _ _ _ _ (if(na-k==0)=true then _ else _) _ _
 by_cases c1:(na-k==0)=true
 .rw [qAC c1];exact qAH plain
 rw[qAB c1];have c1:=zAy c1;obtain⟨z,ez,hz'⟩:=al.at (show sa+k+(na-k)-1<(arrOf st).size by lia);refine qAF (zB2 ez ?_);refine qAF (cW C (ka.trans hk) hz' (λj hj=>al.at (by lia)) (show nb-1<nb by lia) λm hmn=>?_);show wpS _ _ _ _ (if(m==0)=true then _ else _) _ _
 by_cases c2:(m==0)=true
 .rw [qAC c2];exact qAH plain
 rw[qAB c2];have c2:=zAy c2;have zX:((arrOf st).extract (sa+k) (sa+na)).size=na-k:=by simp;lia
 have zY:((arrOf st).extract (sa+na) (sa+na+m)).size=m:=by simp;lia
 have fin:∀(r:Array Keyed)(st2:SortSt),aL st1 st2->Fn ((arrOf st).extract (sa+k) (sa+na)) ((arrOf st).extract (sa+na) (sa+na+m)) r ->
   wpS (model prog w) A E s (modify (λs:SortSt=>SortSt.mk' (kindOf s) (r.toList.zipIdx.foldl (λa x=>match x with|(p,j)=>a.setIfInBounds (sa+k+j) p) (arrOf s)) (pendingOf s) (gallopOf s) (failedOf s)) >>= λ_=>(get:StateT SortSt Sem SortSt) >>= λs=>pure (failedOf s).isNone) Q st2:=λr st2 L F=>by
  have ar2:arrOf st2=arrOf st:=L.ar.trans aa;have fl2:failedOf st2=none:=L.fl.trans (fa.trans hfl)
  have lr:r.toList.length=na-k+m:=by
   have:=F λ_=>true;simp only[List.countP_true,qB2,zX,zY]at this;simpa using this
  have sp:=mQ r.toList (arrOf st2) (sa+k) 0 (by rw[ar2];lia);rw[ar2,qCx,lr]at sp;refine qAF (qA7 (qAF (qBW ?_)));have e3:(failedOf st2).isNone=true:=by rw[fl2];rfl
  show wpS _ _ _ _ (pure (failedOf st2).isNone) _ _;rw[e3,ar2];generalize hR:(r.toList.zipIdx.foldl (λa x=>match x with|(p,j)=>a.setIfInBounds (sa+k+j) p) (arrOf st))=R at sp;refine qAH (h _ (L.kd.trans ka) fl2 (L.pn.trans pa) ?_);show R.Perm (arrOf st);refine qC3.mpr (qa λp=>?_);have h1:=F p;have h2:=cd (a:=arrOf st) (show sa+k<=sa+na by lia) p;have h3:=cd (a:=arrOf st) (show sa+na<=sa+na+m by lia) p;have h4:=qAl (List.countP p) (qBb (sa+k) (arrOf st).toList);rw[qCB]at h4;rw[sp,qCB,qCB,show sa+k+(na-k+m)=sa+na+m by lia];lia
 show wpS _ _ _ _ (if na-k<=m then _ else _) _ _
 by_cases c3:na-k<=m
 .rw [qAC c3];exact qAF (tY (a:=(arrOf st).extract (sa+k) (sa+na)) (b:=(arrOf st).extract (sa+na) (sa+na+m)) C (ka.trans hk) (zJu al _ _) (zJu al _ _) (by rw[zX];lia) (by rw[zY];lia) λr st2 L F=>fin r st2 L F)
 .rw [qAB c3];exact qAF (uS (a:=(arrOf st).extract (sa+k) (sa+na)) (b:=(arrOf st).extract (sa+na) (sa+na+m)) C (ka.trans hk) (zJu al _ _) (zJu al _ _) (by rw[zX];lia) (by rw[zY];lia) λr st2 L F=>fin r st2 L F)
end
def Ch:List (Nat×Nat×Nat)->Nat->Nat->Prop
 |[],s,e=>s=e
 |(a,n,_)::r,s,e=>a=s/\1<=n/\Ch r (s+n) e
theorem Ch.app{P Q:List (Nat×Nat×Nat)}:∀{s e:Nat},Ch (P++Q) s e↔∃m,Ch P s m/\Ch Q m e:=by
 induction P with
 |nil=>intro s e;exact⟨λh=>⟨s,rfl,h⟩,λ⟨m,h1,h2⟩=>by have h1:s=m:=h1;rw[h1];exact h2⟩
 |cons x P ih=>
  obtain⟨a,n,q⟩:=x;intro s e;constructor
  .rintro ⟨h1,h2,h3⟩;obtain⟨m,k1,k2⟩:=ih.mp h3;exact⟨m,⟨h1,h2,k1⟩,k2⟩
  .rintro ⟨m,⟨h1,h2,h3⟩,h4⟩;exact⟨h1,h2,ih.mpr ⟨m,h3,h4⟩⟩
theorem Ch.bnd:∀{P:List (Nat×Nat×Nat)} {s e:Nat},Ch P s e->s+P.length<=e
 |[],s,e,h=>qCU h
 |(a,n,t)::r,s,e,h=>by
  have:=Ch.bnd h.2.2;have:=h.2.1;rw[qAa];lia
theorem jU(P:List α)(x y v:α)(T:List α):((P++x::y::T).set P.length v).eraseIdx (P.length+1)=P++v::T:=by
 induction P with
 |nil=>rfl
 |cons p P ih=>
  show p::((P++x::y::T).set P.length v).eraseIdx (P.length+1)=p::(P++v::T);rw[ih]
theorem two_at :∀{L:List α}{i:Nat},i+1<L.length->∃P x y T,L=P++x::y::T/\P.length=i
 |[],i,h=>by simp at h
 |[_],i,h=>by simp at h
 |a::b::L,0,_=>⟨[],a,b,L,rfl,rfl⟩
 |a::b::L,i+1,h=>by
  obtain⟨P,x,y,T,e,l⟩:=two_at (L:=b::L) (i:=i) (by simp at h ⊢;lia);exact⟨a::P,x,y,T,by rw[e];rfl,by simp[l]⟩
theorem lQ:∀{L L':List (Nat×Nat×Nat)} {s e:Nat},L'.map (λq=>(q.1,q.2.1))=L.map (λq=>(q.1,q.2.1))->Ch L s e->Ch L' s e
 |[],[],_,_,_,h=>h
 |[],_::_,_,_,h,_=>by simp at h
 |_::_,[],_,_,h,_=>by simp at h
 |(a,n,t)::r,(b,m,u)::r',s,e,h,c=>by
  simp at h;obtain⟨⟨h1,h2⟩,h3⟩:=h;obtain⟨c1,c2,c3⟩:=c;subst h1;subst h2;exact⟨c1,c2,lQ (by simpa using h3) c3⟩
theorem pU{f:Nat×Nat×Nat->Nat×Nat×Nat}(hf:∀q,(f q).1=q.1/\(f q).2.1=q.2.1)(p:Array (Nat×Nat×Nat))(i:Nat):(p.modify i f).toList.map (λq=>(q.1,q.2.1))=p.toList.map (λq=>(q.1,q.2.1)):=by
 apply List.ext_getElem?;intro k;rw[qAY,qAY,qAo,qAo,Array.getElem?_modify];split
 .cases h:p[k]? with
  |none=>rfl
  |some q=>
   have:=hf q;simp[this.1,this.2]
 .rfl
section
variable{prog:Program}{w:World}{A:Around}{E:Value->Shared->Prop}{s:Shared}{kd:SortKind}{κ:KeyKind}{a₀:Array Keyed}
structure Rn(kd:SortKind)(a₀:Array Keyed)(lo:Nat)(st:SortSt):Prop where
 kd:kindOf st=kd
 fl:failedOf st=none
 perm:(arrOf st).Perm a₀
 ch:Ch (pendingOf st).toList 0 lo
theorem Rn.all(R:Rn kd a₀ lo st)(h:∀x∈a₀.toList,Has κ x):All κ st:=λx hx=>h x ((qC3.mp R.perm).mem_iff.mp hx)
theorem jJ{Q:Bool->SortSt->Prop}(C:CmpOk prog w A s kd κ)(ha:∀x∈a₀.toList,Has κ x)(R:Rn kd a₀ lo st)(hl:lo<=a₀.size)(hi:i+1<(pendingOf st).size)
  (h:∀st',Rn kd a₀ lo st'->(pendingOf st').size+1=(pendingOf st).size->Q true st'):wpS (model prog w) A E s (mergeAt' i) Q st:=by
 obtain⟨P,⟨sa,na,pw⟩,⟨sb,nb,pw2⟩,T,e,l⟩:=two_at (L:=(pendingOf st).toList) (i:=i) (by simpa using hi);have hz:(arrOf st).size=a₀.size:=R.perm.size_eq;have ch:=R.ch;rw[e]at ch;obtain⟨m,c1,d1,d2,d3,d4,d5⟩:=Ch.app.mp ch;subst d1;subst d3;have b2:=d5.bnd
 have e1:(pendingOf st)[i]?=some (sa,na,pw):=by
  rw[<-qAo,e,<-l];simp
 have e2:(pendingOf st)[i+1]?=some (sa+na,nb,pw2):=by
  rw[<-qAo,e,<-l,qBJ (by lia)];simp
 refine kF C R.kd (R.all ha) e1 e2 d2 d4 (by lia) R.fl λst' k1 k2 k3 k4=>?_
 have ep:(pendingOf st').toList=P++(sa,na+nb,pw)::T:=by
  have hb:i+1<((pendingOf st).setIfInBounds i (sa,na+nb,pw)).size:=by rw[qDF];exact hi
  rw[k3,Array.eraseIdxIfInBounds,dif_pos hb,Array.toList_eraseIdx,Array.toList_setIfInBounds,e,<-l];exact jU P _ _ _ T
 refine h st' ⟨k1.trans R.kd,k2,k4.trans R.perm,?_⟩ ?_
 .rw [ep];refine Ch.app.mpr ⟨sa,c1,rfl,by lia,?_⟩;rw[show sa+(na+nb)=sa+na+nb by lia];exact d5
 .have h1:=qAl List.length ep;have h2:=qAl List.length e;simp at h1 h2;lia
theorem Rn.modify(R:Rn kd a₀ lo st){f:Nat×Nat×Nat->Nat×Nat×Nat}(hf:∀q,(f q).1=q.1/\(f q).2.1=q.2.1)(i:Nat):Rn kd a₀ lo (setPending st ((pendingOf st).modify i f)):=⟨R.kd,R.fl,R.perm,lQ (pU hf (pendingOf st) i) R.ch⟩
theorem mO(c:Prop)[Decidable c](a:Nat):(if c then a-1 else a)<=a:=by split<;>lia
theorem w_sort{Q:Unit->SortSt->Prop}(C:CmpOk prog w A s kd κ)(ha:∀x∈a₀.toList,Has κ x)(hk:kindOf st=kd)(hf:failedOf st=none)(hp:(arrOf st).Perm a₀)(hpn:pendingOf st=#[])(h1:1<=a₀.size)
  (h:∀st',failedOf st'=none->(arrOf st').Perm a₀->Q () st'):wpS (model prog w) A E s sortRuns' Q st:=by
 have hz0:(arrOf st).size=a₀.size:=hp.size_eq;have hz0p:(arrOf st).size=a₀.size:=hz0;unfold arrOf at hz0p;refine qAF (qBW ?_);have R0:Rn kd a₀ 0 st:=⟨hk,hf,hp,by rw[hpn];rfl⟩;refine qAF (qA3 (qA1 (I:=λx c st'=>∃lo,c=(none,lo)/\Rn kd a₀ lo st'/\lo<=a₀.size/\(x<=lo\/lo=a₀.size)) (Q:=λc st'=>∃lo,c=(none,lo)/\Rn kd a₀ a₀.size st') ?step ?fin ⟨0,rfl,R0,by lia,.inl (by lia)⟩) ?post)
 case fin=>
  rintro c st' ⟨lo,rfl,R,l1,l2⟩
  have:lo=a₀.size:=by
   have:max 0 (arrOf st).size=a₀.size:=by lia
   rcases l2 with z|z
   .lia
   .exact z
  subst this;exact⟨_,rfl,R⟩
 case step=>
  rintro x c st1 _ hx ⟨lo,rfl,R,l1,l2⟩;show wpS _ _ _ _ (if lo>=(arrOf st).size then _ else _) _ _
  by_cases g:lo>=(arrOf st).size
  .rw [qAC g];have:lo=a₀.size:=by lia
   subst this;exact qAH ⟨_,rfl,R⟩
  rw[qAB g];have hz1:(arrOf st1).size=a₀.size:=R.perm.size_eq;refine qAF (qp C R.kd (R.all ha) (by rw[hz0,hz1];lia) (by lia) λm st2 f2 m1 m2=>?_);have keepR:∀{st':SortSt},Fr st1 st'->Rn kd a₀ lo st':=λ{st'} f=>⟨f.kd.trans R.kd,f.fl.trans R.fl,f.perm.trans R.perm,by rw[f.pn];exact R.ch⟩
  have push:∀{n:Nat}{st4:SortSt},1<=n->Rn kd a₀ lo st4->Rn kd a₀ (lo+n) (setPending st4 ((pendingOf st4).push (lo,n,0))):=λ{n st4} n1 R4=>by
   refine⟨R4.kd,R4.fl,R4.perm,?_⟩;show Ch ((pendingOf st4).push (lo,n,0)).toList 0 (lo+n);rw[qCK];exact Ch.app.mpr ⟨lo,R4.ch,rfl,n1,rfl⟩
  have loop:∀(st4:SortSt)(pw:Nat),Rn kd a₀ lo st4->∀(R:ForInStep (Option Unit×Unit)->SortSt->Prop),(∀st',Rn kd a₀ lo st'->R (.done (none,())) st'/\R (.yield (none,())) st') ->
    wpS (model prog w) A E s ((get:StateT SortSt Sem SortSt) >>= λv=>match (if(pendingOf v).size>1 then(pendingOf v)[(pendingOf v).size-2]? else none)with
       |some (_,_,older)=>(if older<=pw then pure (ForInStep.done (none,()))else(mergeAt' ((pendingOf v).size-2) >>= λb=>if(!b)=true then pure (ForInStep.done (some (),()))else pure (ForInStep.yield (none,()))))
       |_=>pure (ForInStep.done (none,()))) R st4:=by
   intro st4 pw R4 Rr hR;refine qAF (qBW ?_)
   by_cases c1:(pendingOf st4).size>1
   .rw [qAC c1];rcases ho:(pendingOf st4)[(pendingOf st4).size-2]? with _|⟨o1,o2,o3⟩
    .exact qAH (hR st4 R4).1
    .show wpS _ _ _ _ (if o3<=pw then _ else _) _ _
     by_cases c2:o3<=pw
     .rw [qAC c2];exact qAH (hR st4 R4).1
     .rw [qAB c2];exact qAF (jJ C ha R4 l1 (by lia) λst5 R5 _=>qAH (hR st5 R5).2)
   .rw [qAB c1];exact qAH (hR st4 R4).1
  have ends:∀{n:Nat}{st5:SortSt},1<=n->Rn kd a₀ (lo+n) st5->lo+n<=a₀.size->∃l,((none,lo+n):Option Unit×Nat)=(none,l)/\Rn kd a₀ l st5/\l<=a₀.size/\(x+1<=l\/l=a₀.size):=λ{n st5} n1 R5 n2=>⟨_,rfl,R5,n2,.inl (by lia)⟩
  by_cases c1:m<minRun' (arrOf st).size (arrOf st).size 0
  .refine (show wpS _ _ _ _ (if m<minRun' (arrOf st).size (arrOf st).size 0 then _ else _) _ _ from ?_);rw[qAC c1];refine qAF (qBu (qBD ⟨rfl,?_⟩));refine qAF (uI (n:=min ((arrOf st).size-lo) (minRun' (arrOf st).size (arrOf st).size 0)) C (f2.kd.trans R.kd) ((R.all ha).fr f2) (by rw[f2.size,hz1];lia) λst3 f3=>?_);show wpS _ _ _ _ (if false=true then _ else _) _ _;rw[qAB (by decide)];have R3:=keepR (f2.trans f3);have n1:1<=min ((arrOf st).size-lo) (minRun' (arrOf st).size (arrOf st).size 0):=by lia
   have n2:lo+min ((arrOf st).size-lo) (minRun' (arrOf st).size (arrOf st).size 0)<=a₀.size:=by lia
   refine qAF (qBW ?_);rcases hb:(pendingOf st3).back? with _|⟨s1,q1,t1⟩
   .exact qAF (qA7 (qAH (ends n1 (push n1 R3) n2)))
   .refine qAF (qA3 (qA1 (I:=λy c st'=>c=(none,())/\Rn kd a₀ lo st') (Q:=λc st'=>c=(none,())/\Rn kd a₀ lo st') ?s2 (λc st' h=>h) ⟨rfl,R3⟩) ?p2)
    case p2=>
     rintro c st4 ⟨rfl,R4⟩;exact qAF (qA7 (qAF (qA7 (qAH (ends n1 (push n1 (R4.modify (f:=λx=>match x with|(t,len,_)=>(t,len,power' (arrOf st).size (2*s1+q1) (2*s1+q1+q1+min ((arrOf st).size-lo) (minRun' (arrOf st).size (arrOf st).size 0)) (arrOf st).size)) (λq=>⟨rfl,rfl⟩) ((pendingOf st4).size-1))) n2)))))
    case s2=>
     rintro y c st4 _ hy ⟨rfl,R4⟩;exact loop st4 _ R4 _ λst' R'=>⟨⟨rfl,R'⟩,⟨rfl,R'⟩⟩
  .refine (show wpS _ _ _ _ (if m<minRun' (arrOf st).size (arrOf st).size 0 then _ else _) _ _ from ?_);rw[qAB c1];have R3:=keepR f2;have n2:lo+m<=a₀.size:=by lia
   refine qAF (qBW ?_);rcases hb:(pendingOf st2).back? with _|⟨s1,q1,t1⟩
   .exact qAF (qA7 (qAH (ends m1 (push m1 R3) n2)))
   .refine qAF (qA3 (qA1 (I:=λy c st'=>c=(none,())/\Rn kd a₀ lo st') (Q:=λc st'=>c=(none,())/\Rn kd a₀ lo st') ?s2 (λc st' h=>h) ⟨rfl,R3⟩) ?p2)
    case p2=>
     rintro c st4 ⟨rfl,R4⟩;exact qAF (qA7 (qAF (qA7 (qAH (ends m1 (push m1 (R4.modify (f:=λx=>match x with|(t,len,_)=>(t,len,power' (arrOf st).size (2*s1+q1) (2*s1+q1+q1+m) (arrOf st).size)) (λq=>⟨rfl,rfl⟩) ((pendingOf st4).size-1))) n2)))))
    case s2=>
     rintro y c st4 _ hy ⟨rfl,R4⟩;exact loop st4 _ R4 _ λst' R'=>⟨⟨rfl,R'⟩,⟨rfl,R'⟩⟩
 case post=>
  rintro c st1 ⟨lo,rfl,R⟩;refine qAF (qA3 (qA1 (I:=λx c st'=>c=(none,())/\Rn kd a₀ a₀.size st') (Q:=λc st'=>c=(none,())/\Rn kd a₀ a₀.size st') ?s3 (λc st' h=>h) ⟨rfl,R⟩) ?p3)
  case p3=>
   rintro c st' ⟨rfl,R'⟩;exact qAH (h st' R'.fl R'.perm)
  case s3=>
   rintro y c st2 _ hy ⟨rfl,R2⟩;refine qAF (qBW ?_);show wpS _ _ _ _ (if(pendingOf st2).size<=1 then _ else _) _ _
   by_cases c1:(pendingOf st2).size<=1
   .rw [qAC c1];exact qAH ⟨rfl,R2⟩
   .rw [qAB c1];refine qAF (jJ C ha R2 (qAG _) ?_ λst5 R5 _=>qAH ⟨rfl,R5⟩);exact Nat.lt_of_le_of_lt (Nat.add_le_add_right (mO _ _) 1) (show(pendingOf st2).size-2+1<(pendingOf st2).size by lia)
end
end TimP
namespace ST
open PySem PyProof.Rows PySem.W
section
variable{prog:Program}{w:World}{A:Around}{E:Value->Shared->Prop}{s:Shared}
theorem nH{κ:PyProof.Rows.KeyKind}{kd:SortKind}{a:Addr}{vs:List Value}{n:Nat}{P:Fin->Shared->Prop}(ho:s.heap.get? a=some (seqObj "list" vs.toArray n))(hz:vs.length<=4096)
  (hS:∀h',(∀b o,b≠a->s.heap.get? b=some o->h'.get? b=some o)->bM prog w A κ kd vs {s with heap:=h'})
  (h:∀out:Array Value,out.toList.Perm vs->P (.done (.ret .none)) {s with heap:=sortedHeap s.heap a vs out}) :
  wpAny (model prog w) A (Builtin.«list.sort» ⟨[.ref a],[]⟩) P E s:=by
 rw[list_sort_plain];have hsl:(4096:Nat)<=sizeLine:=by decide +kernel
 have ha:a<s.heap.objs.size:=qAI ho;have hsz:vs.toArray.size=vs.length:=by simp
 refine qAA (listItems_at ho rfl ?_);refine qAA (listUpdate_at ho rfl ?_ (by lia) (qAi _));have h1:(s.heap.update a (Obj.mapSeq λ_=>#[])).get? a=some (seqObj "list" #[] _):=get?_update_seq ho λ_=>#[];refine qAA (seqEpoch_at h1 rfl ?_);refine qAA (wpAny_newTuple ?_ (by show vs.toArray.toList.length<=_;simp;lia));refine qAA (wpAny_newList ?_ (qAi _));refine qAy ?_;have h6:=qAM (seqObj "list" #[] 0) (qAM (seqObj "tuple" vs.toArray 0) h1);change wpAny (model prog w) A _ P E {s with heap:=((s.heap.update a (Obj.mapSeq λ_=>#[])).push (seqObj "tuple" vs.toArray 0)).push (seqObj "list" #[] 0)};dsimp only
 have S6:=hS (((s.heap.update a (Obj.mapSeq λ_=>#[])).push (seqObj "tuple" vs.toArray 0)).push (seqObj "list" #[] 0)) λb o hb q=>by
  refine qAM _ (qAM _ ?_);rw[qBq _ _ (qAh hb)];exact q
 by_cases c:vs.toArray.size<2
 .rw [qAC c,qAC c];refine qAA (qAE ?_);rw[StateT.run_pure];refine qAA (qAE ?_);dsimp only;refine qAA (seqEpoch_at h6 rfl ?_);refine qAA (listUpdate_at h6 rfl ?_ (qAi _) (by rw[Array.size_map];show(pairsOf vs).size<=_;rw[pairsOf_size];lia));simp only[bne_self_eq_false,qCe,qB7];have e:(arrOf (SortSt.mk' general' (vs.toArray.zip vs.toArray) #[] 7 none)).Perm (pairsOf vs):=Array.Perm.refl _;exact qAE (h _ (zI7 e))
 .rw [qAB c,qAB c];refine qAA (S6.kind (by lia) _ _ ?_)
  have W:=TimP.w_sort (E:=E) (a₀:=pairsOf vs) (st:=SortSt.mk' kd (vs.toArray.zip vs.toArray) #[] 7 none) (Q:=λ_ st'=>failedOf st'=none/\(arrOf st').Perm (pairsOf vs)) S6.cmp (λp hp=>by
   rw[pairsOf_toList]at hp;exact S6.has _ (mem_zip_self hp).2) rfl rfl (Array.Perm.refl _) rfl (by rw[pairsOf_size];lia) λst' q1 q2=>⟨q1,q2⟩
  refine qAA (qAv W ?_ λ_ _ e=>e);rintro⟨⟨⟩,st'⟩ s' ⟨rfl,q1,q2⟩;dsimp only;refine qAA (seqEpoch_at h6 rfl ?_);have zz:=(zI7 q2).length_eq;refine qAA (listUpdate_at h6 rfl ?_ (qAi _) (by simp at zz ⊢;lia));rw[q1];simp only[bne_self_eq_false,qCe,qB7];exact qAE (h _ (zI7 q2))
theorem w_sortedCP{κ:PyProof.Rows.KeyKind}{kd:SortKind}{v:Value}{Q:Value->Shared->Prop}{J:List Value->Shared->Prop}(hc:wpAny (model prog w) A.in1 (collect v) J E s)
  (hJ:∀vs s1,J vs s1->vs.length<=4096/\(∀h',Up s1.heap h'->bM prog w A.in1.in1 κ kd vs {s1 with heap:=h'}) /\
   ∀(out:List Value) c h',out.Perm vs->h'.get? s1.heap.objs.size=some (seqObj "list" out.toArray c)->Up s1.heap h'->Q (.ref s1.heap.objs.size) {s1 with heap:=h'}) :
  wpAny (model prog w) A (call (.builtin "sorted") [v]) Q E s:=by
 refine Calls.call_function_entry kind_sorted plain_sorted entry_sorted (args_sorted1 _) ?_;unfold Builtin.«sorted»;refine qAA (m:=checkCount "sorted" 1 1 _) (qAE ?_);refine qAA (qAv hc (λvs s1 j=>?_) λ_ _ x=>x);obtain⟨j1,j2,j3⟩:=hJ vs s1 j;have hsl:(4096:Nat)<=sizeLine:=by decide +kernel
 refine qAA (wpAny_newList ?_ (by lia));have hD:(s1.heap.push (seqObj "list" vs.toArray 0)).get? s1.heap.objs.size=some (seqObj "list" vs.toArray 0):=qAk _ rfl;change wpAny _ _ _ _ _ {s1 with heap:=s1.heap.push (seqObj "list" vs.toArray 0)};have ne:∀b o,s1.heap.get? b=some o->b≠s1.heap.objs.size:=λb o q=>qAQ (qAI q);refine qAA (qAy (qBy slot_list_sort ⟨_,hD,rfl⟩ entry_list_sort ?body (args_list_sort _)))
 case body=>
  refine nH (s:={s1 with heap:=s1.heap.push (seqObj "list" vs.toArray 0)}) hD j1 (λh' q=>j2 h' λb o e=>q b o (ne b o e) (qAM _ e)) λout p1=>?_;obtain⟨⟨c,g1⟩,g2⟩:=nk (out:=out) hD;refine⟨_,rfl,qAE ⟨_,rfl,j3 out.toList c _ p1 (by simpa using g1) λb o e=>g2 b o (ne b o e) (qAM _ e)⟩⟩
end
end ST
namespace L2
open PySem PySem.Spec PyProof.Rows
section
variable{X:Cx}{pins:List (Addr×Obj)}{s:Shared}{σ:St}{H:Hp}
theorem zIn{k:Nat}(hr:aB k X.A):zCz X (.builtin "sorted") (λxs H Q=>∃(a:Addr) (ys:List (List Str×Addr)),xs=[.ref a]/\H a=some (TSt X.prog X.w a ys)/\(∀p∈ys,oq X.K H p)/\(∀p∈ys,p.1≠[])/\ys.length<=306 /\ ∀(b:Addr) (zs:List (List Str×Addr)),H b=none->zs.Perm ys->Q (.ref b) (upd H b (.lst (zs.map λp=>V.ref p.2)))):=by
 intro pins s σ H xs us Q I r h;obtain⟨a,ys,rfl,ha,hk,hne,hc,q⟩:=h;obtain⟨u,rfl,rx⟩:=zI5 r
 cases rx
 obtain⟨⟨o,es,ep,t,z1,z2,z3,z4,z5,z6,z7,z8⟩,_⟩:=I.hok a _ ha;have Z:ST.SetX (PySem.strKind X.prog X.w) s.heap a ys o es ep t:=⟨z1,z2,z3,z4,z5,z6,z7,λp hp=>I.rowT (hk p hp),z8⟩
 refine ST.w_sortedCP (kd:=tuples' true) (κ:=ST.tupK λb=>(ys.find? λp=>p.2==b).map (·.1))
  (J:=λvs s1=>vs.Perm (ys.map λp=>Value.ref p.2)/\(∀b o,s.heap.get? b=some o->s1.heap.get? b=some o)/\s1.gens=s.gens/\s1.os=s.os)
  (ST.w_collect (A:=X.A.in1) hr.hd Z hc λs' vs v1 v2 v3 v4 _=>⟨v1,v2,v3,v4⟩) λvs s1 ⟨v1,v2,v3,v4⟩=>?_
 have hvl:vs.length=ys.length:=by rw[v1.length_eq,qAD]
 refine⟨by lia,λh' up=>ST.tups_sortable v1 (λp hp=>ST.key_kept (I.rowT (hk p hp)) λo e=>up _ o (v2 _ o e)) hne,λout c h' p1 p3 up=>?_⟩;obtain⟨zs,e1,e2⟩:=kQ _ (p1.trans v1);subst e2;have I1:Inv X pins σ H s1:=I.call' (ch:=[]) v4 (Un.kept v2) (I.hok.kept v2) (by rw[v3];exact I.bare) (λ_ z=>nomatch z)
 have hz:(zs.map λp=>V.ref p.2).length<=sizeLine:=by
  rw[qAD,e1.length_eq];exact qAW hc (by decide +kernel)
 exact⟨.ref s1.heap.objs.size,_,I1.laid (t':=s1.toks) up (qAG _) (show zBq X.prog X.w _ h' _ (.lst (zs.map λp=>V.ref p.2))from⟨hz,_,c,de zs,p3⟩),rfl,q _ zs (I1.hok.fresh (qAG _)) e1⟩
end
end L2
namespace My
open PySem L2
variable{P:Program}{w:World}{K:PySem.W.Frag}{mg:Str->Option Value}{base:Heap}{C:Addr}
variable{X:Cx}{n x:Str}{pos:Pos}{qs:List (List Str×Addr)}{f C d:Addr}{fd:FuncData}{H H':Hp}{ns:List Str}{sp:Sp}
theorem zG5(f:Str)(v:V):∀fs:List (Str×V),(aE f v fs).length<=fs.length+1
 |[]=>qAG _
 |(g,x)::r=>by
  unfold aE;split
  .exact qB6 _
  .have:=zG5 f v r;simp only[qAa];lia
theorem iu{P:Program}{w:World}{K:PySem.W.Frag}{k:Nat}(hr:aB k X.A)(hP:X.prog=P:=by rfl)(hw:X.w=w:=by rfl)(hK:X.K=K:=by rfl):zCz X (.type "set") (λxs H Q=>∃(l:Addr) (ks:List (List Str×Addr)),xs=[.ref l]/\SqL K H l (ks.map λp=>V.ref p.2)/\(∀p∈ks,oq K H p)/\ks.length<=306 /\ ∀a ys,H a=none->(∀p∈ys,p∈ks)->(∀p∈ks,p.1∈ys.map (·.1))->(ys.map (·.1)).Nodup->ys.length<=ks.length->Q (.ref a) (upd H a (TSt P w a ys))):=by
 subst hP hw hK;exact jX hr
theorem zIo{P:Program}{w:World}{K:PySem.W.Frag}{k:Nat}(hr:aB k X.A)(hP:X.prog=P:=by rfl)(hw:X.w=w:=by rfl)(hK:X.K=K:=by rfl):zCz X (.builtin "sorted") (λxs H Q=>∃(a:Addr) (ys:List (List Str×Addr)),xs=[.ref a]/\H a=some (TSt P w a ys)/\(∀p∈ys,oq K H p)/\(∀p∈ys,p.1≠[])/\ys.length<=306 /\ ∀(b:Addr) (zs:List (List Str×Addr)),H b=none->zs.Perm ys->Q (.ref b) (upd H b (.lst (zs.map λp=>V.ref p.2)))):=by
 subst hP hw hK;exact zIn hr
theorem eX{K:PySem.W.Frag}{es:List Expr}{k:Nat}{t:TGs}{n:Nat}(hc:X.calm=true)(h:PGs X es t)
  (hn:(assignEach es X.env).length=n:=by rfl) (hst:(assignEach es X.env).findIdx? (·.1)=none:=by rfl) (hK:X.K=K:=by rfl):PG X (.Tuple es k pos) (s0 K n t):=by
 subst hK;exact zIv hc h hn hst
theorem zJq :x∈told qs n↔∃q∈qs,snd q=n/\fst q=x:=by
 unfold told;simp only[qAe,qBZ,qC5];exact⟨λ⟨q,⟨a,b⟩,c⟩=>⟨q,a,b,c⟩,λ⟨q,a,b,c⟩=>⟨q,⟨a,b⟩,c⟩⟩
theorem gO{q q':List Str×Addr}(h:q.1=q'.1):fst q=fst q'/\snd q=snd q':=by unfold fst snd;rw[h];exact⟨rfl,rfl⟩
section
structure mC(ns:List Str)(qs:List (List Str×Addr))(r:Str->Nat):Prop where
 nm:∀n∈ns,zIp n
 nd:ns.Nodup
 few:ns.length<=20
 qfew:qs.length<=306
 qin:∀q∈qs,∀x∈q.1,x∈ns
 rk:∀q∈qs,r (fst q)<r (snd q)
structure u_(H:Hp)(J:JR):Prop where
 r:Fre H J.r
 p:Fre H J.p
 e:Fre H J.e
 z:∀q∈J.zs,Fre H q.2
 s:∀n∈J.D,Fre H (J.fa n)
inductive dU(C:Addr)(vs:List V)(H:Hp)(Q:VK)(u_3:XK):Prop
 |mk:∀(x dx l m:Addr)(ns:List Str) (qs:List (List Str×Addr)) (r:Str->Nat),vs=[.ref x,.ref l,.ref m]->H x=some (.ins C dx [])->Txs H l ns->bA H m qs->mC ns qs r->(∀J H',aD C H' x J->u_ H J->J.ns=ns->(∀k,k∈J.zs.map (·.1)↔k∈qs.map (·.1))->Kp [x] H H'->Q .non H')->dU C vs H Q u_3
abbrev zCk:Stmt:=dM (top 51) 0
theorem zGv:ag ["self","names","orders"] ["self","names","orders"] (zAg zCk):=fnS
theorem eI(F:Fun K "__init__" "Jobs.__init__" zCk f fd)(T:Txt K mg)(U:JC K mg C)(C_check_names:Cal P w K mg base "check_names" 2 ["names"] aZ)(C_check_parts:Cal P w K mg base "check_parts" 3 ["names","orders"] aX)
  (C_all_ahead:Cal P w K mg base "all_ahead" 2 ["names","told"] bn) (C_told_ahead:Cal P w K mg base "told_ahead" 1 ["names","orders"] ba):ak P w K mg base CX0 4 f fd ["self","names","orders"] (dU C):=by
 refine F.ok zGv (λvs H Q E h=>?_) (λcdv A outer s H vs Q E hr h=>?_)
 .obtain ⟨x,dx,l,m,ns,qs,r,rfl,_⟩:=h;rfl
 .obtain ⟨x,dx,l,m,ns,qs,r,rfl,hx,hl,hm,G,k⟩:=h;have HR_check_parts:=hr;have HR_check_names:=hr.mono (j:=2) (by decide);have HR_all_ahead:=hr.mono (j:=2) (by decide);have HR_told_ahead:=hr.mono (j:=1) (by decide)
  refine⟨_,(zAc (zA2 (zAh C_check_names HR_check_names rfl (zAa (pv 1) zAb))) (zAc (zA2 (zAh C_check_parts HR_check_parts rfl (zAa (pv 1) (zAa (pv 2) zAb))))
   (zAc (iQ (pv 0) (zA8 zBu (by rfl) T.z_list zCe (zAa (pv 1) zAb)) rfl)
   (zAc (iQ (pv 0) (zAi (zIo (P:=P) (w:=w) (K:=K) HR_told_ahead) (by rfl) T.z_sorted ku (zAa (zA8 (iu (P:=P) (w:=w) (K:=K) HR_told_ahead) (by rfl) T.z_set sO (zAa (zBn rfl (zBp (sc:=zAg zCk) rfl (by decide +kernel)) (ah.own (x:= "one") (ah.own (x:= "other") ah.nil)) (zAq (pv 2)) (fun _ _ _ _=>(eX (K:=K) (n:=2) rfl (zBf (pgB (i:=0)) (zBf (pgB (i:=1)) zD5)))) (fun _ _ _ _=>zCm) (fun _ _ _ _=>(zCa (zAa (pv 0) (zAa (pv 1) zAb))))) zAb)) zAb)) rfl)
   (zAe (iQ (pv 0) (zAh C_all_ahead HR_all_ahead rfl (zAa (zHo (pv 0) rfl) (zAa (zAh C_told_ahead HR_told_ahead rfl (zAa (zHo (pv 0) rfl) (zAa (zHo (pv 0) rfl) zAb))) zAb))) rfl)))))),?_⟩
  refine sk ?_;intro _ _ _ _ _;refine⟨_,rfl,l,ns,rfl,hl,G.few,G.nm,G.nd,λH1 k1=>?_⟩;have hm1:=hm.kp k1 (by simp) (by simp);refine⟨_,rfl,_,rfl,l,m,ns,qs,rfl,k1 l _ hl (by simp),hm1,G.qin,?_⟩;have hx1:=k1 x _ hx (by simp);refine⟨_,rfl,_,_,rfl,.inl (SqL.of (k1 l _ hl (by simp))),λr1 hr1=>?_⟩;have nxr:x≠r1:=ae hr1 hx1;refine⟨_,rfl,_,_,_,_,rfl,(ad nxr).trans hx1,U.cl,U.n_row,(by decide),?_⟩
  have hm2:∀o1 o2,bA (upd (upd H1 r1 o1) x o2) m qs:=λo1 o2=>
   ⟨(ad (zCp hm1.top hx1 (λz=>nomatch z))).trans ((ad (ae hr1 hm1.top)).trans hm1.top),λq hq=>(ad (zCp (hm1.row q hq) hx1 (λz=>nomatch z))).trans ((ad (ae hr1 (hm1.row q hq))).trans (hm1.row q hq)),hm1.two⟩
  have hrow2:∀o2,Txs (upd (upd H1 r1 (.lst (ns.map V.str))) x o2) r1 ns:=λo2=>(ad nxr.symm).trans ac;have k2:∀o1 o2,Kp [x] H (upd (upd H1 r1 o1) x o2):=λo1 o2=>Kp.put (Kp.new (k1.weak (by simp)) (k1.fre hr1 (by simp))) (by simp);have hx2:∀o1 o2,(upd (upd H1 r1 o1) x o2) x=some o2:=λo1 o2=>ac;have hm2:=hm2 (.lst (ns.map V.str)) (.ins C dx (aE "row" (.ref r1) []));have hrow2:=hrow2 (.ins C dx (aE "row" (.ref r1) []));have k2:=k2 (.lst (ns.map V.str)) (.ins C dx (aE "row" (.ref r1) []));have hx2:=hx2 (.lst (ns.map V.str)) (.ins C dx (aE "row" (.ref r1) []));generalize hH2:upd (upd H1 r1 (.lst (ns.map V.str))) x (.ins C dx (aE "row" (.ref r1) []))=H2 at hm2 hrow2 k2 hx2 ⊢
  refine⟨_,rfl,_,rfl,⟨_,SqL.of hm2.top⟩,λB hB=>zBc (qs.map λq=>V.ref q.2) (λi ys τ H3=>∃ks:List (List Str×Addr),(∃o0 o1,τ=[o0,o1])/\ys=(ks.map λq=>V.ref q.2)/\ks.map (·.1)=(qs.take i).map (·.1)/\(∀q∈ks,H3 q.2=some (.tup (q.1.map V.str)))/\(∀q∈ks,Fre H2 q.2)/\Kp [] H2 H3/\H3 B=some (.lst ys)) ⟨[],⟨_,_,rfl⟩,rfl,rfl,(λq h=>nomatch h),(λq h=>nomatch h),Kp.new Kp.refl hB,ac⟩ (λi ys τ H3 ⟨_,_,_,_,_,_,k3,_⟩=>SqL.of (k3 m _ hm2.top (by simp))) ?_ ?_⟩
  .rintro i v ys τ H3 hv ⟨ks,⟨o0,o1,rfl⟩,rfl,ek,hk,fk,k3,h3⟩;obtain⟨q,eq,rfl⟩:=eS hv;have mq:=qAJ eq;obtain⟨a,b,eab⟩:=hm2.two q mq
   have hrow:H3 q.2=some (.tup [.str a,.str b]):=by
    have:=k3 q.2 _ (hm2.row q mq) (by simp);rw[eab]at this;exact this
   refine⟨_,_,rfl,.inl (.inl hrow),rfl,_,_,rfl,_,_,rfl,rfl,?_⟩;have hlen:ks.length=(qs.take i).length:=by have:=qAl List.length ek;simpa using this
   refine⟨_,rfl,_,rfl,(by walk_at"ln"),λt ht=>?_⟩;have ft:Fre H3 t:=ht;have nBt:B≠t:=ae ft h3;refine⟨(ad nBt).trans h3,?_,ks++[([a,b],t)],⟨_,_,rfl⟩,?_,?_,λq' hq'=>?_,λq' hq'=>?_,?_,?_⟩
   .rw [qAD,hlen,qAU,qAK];have:=G.qfew;lia
   .rw [qAP];rfl
   .rw [qAP,ek,zAk eq,qAP,qAt,qAt,eab]
   .rcases qAR.mp hq' with z|z
    .exact (ad (zCp (hk q' z) h3 (λy=>nomatch y))).trans ((ad (ae ft (hk q' z))).trans (hk q' z))
    .rw [qAO.mp z];exact(ad nBt.symm).trans ac
   .rcases qAR.mp hq' with z|z
    .exact fk q' z
    .rw [qAO.mp z];exact k3.fre ft (by simp)
   .exact Kp.new (Kp.new k3 (k3.fre ft (by simp))) hB
   .exact ac
  .rintro ys τ H3 ⟨ks,_,rfl,ek,hk,fk,k3,h3⟩;have eT:qs.take (qs.map λq=>V.ref q.2).length=qs:=by rw[qAD,qAg]
   rw[eT]at ek;have hlen:ks.length=qs.length:=by have:=qAl List.length ek;simpa using this
   have ktwo:∀q∈ks,∃a b,q.1=[a,b]:=λq hq=>by
    have:q.1∈ks.map (·.1):=qAe.mpr ⟨q,hq,rfl⟩;rw[ek]at this;obtain⟨q',hq',e⟩:=qAe.mp this;rw[<-e];exact hm2.two q' hq'
   refine⟨B,ks,rfl,SqL.of h3,λq hq=>.inl (.inl (hk q hq)),by rw[hlen];have:=G.qfew;lia,λsa yk hsa y1 y2 y3 y4=>?_⟩;have fsa:Fre H3 sa:=hsa;refine⟨sa,yk,rfl,ac,λq hq=>.inl (.inl ((ad (ae fsa (hk q (y1 q hq)))).trans (hk q (y1 q hq)))),λq hq=>?_,by have:=G.qfew;lia,λp zs hp z1=>?_⟩
   .obtain ⟨a,b,e⟩:=ktwo q (y1 q hq);rw[e];simp
   have fp:Fre (upd H3 sa (TSt P w sa yk)) p:=hp;have zk:∀q∈zs,q∈ks:=λq hq=>y1 q (z1.mem_iff.mp hq)
   have zq:∀q∈zs,∃q'∈qs,q'.1=q.1:=λq hq=>by
    have:q.1∈ks.map (·.1):=qAe.mpr ⟨q,zk q hq,rfl⟩;rw[ek]at this;exact qAe.mp this
   have zin:∀q∈zs,∀x∈q.1,x∈ns:=λq hq x hx=>by
    obtain⟨q',h1,h2⟩:=zq q hq;exact G.qin q' h1 x (by rw[h2];exact hx)
   have zrk:∀q∈zs,r (fst q)<r (snd q):=λq hq=>by
    obtain⟨q',h1,h2⟩:=zq q hq;obtain⟨e1,e2⟩:=gO h2;rw[<-e1,<-e2];exact G.rk q' h1
   have zlen:zs.length<=306:=by rw[z1.length_eq];have:=G.qfew;lia
   have zset:∀k,k∈zs.map (·.1)↔k∈qs.map (·.1):=λk=>by
    rw[<-ek,(z1.map (·.1)).mem_iff]
    exact⟨λh=>by
     obtain⟨q,h1,h2⟩:=qAe.mp h;exact qAe.mpr ⟨q,y1 q h1,h2⟩,λh=>by
     obtain⟨q,h1,h2⟩:=qAe.mp h;rw[<-h2];exact y2 q h1⟩
   have k4:Kp [] H2 (upd (upd H3 sa (TSt P w sa yk)) p (.lst (zs.map λq=>V.ref q.2))):=by
    have h1:Kp [] H2 (upd H3 sa (TSt P w sa yk)):=Kp.new k3 (k3.fre fsa (by simp));exact Kp.new h1 (h1.fre fp (by simp))
   have hzs4:bA (upd (upd H3 sa (TSt P w sa yk)) p (.lst (zs.map λq=>V.ref q.2))) p zs:=⟨ac,λq hq=>by
    have h1:upd H3 sa (TSt P w sa yk) q.2=some (.tup (q.1.map V.str)):=(ad (ae fsa (hk q (zk q hq)))).trans (hk q (zk q hq));exact(ad (ae fp h1)).trans h1,λq hq=>ktwo q (zk q hq)⟩
   generalize hH4:upd (upd H3 sa (TSt P w sa yk)) p (.lst (zs.map λq=>V.ref q.2))=H4 at k4 hzs4 ⊢;have hx4:=k4 x _ hx2 (by simp);refine⟨_,rfl,_,_,_,_,rfl,hx4,U.cl,U.n_pairs,(by have:=zG5 "row" (V.ref r1) [];simp only[qBB]at this;lia),?_⟩;have hx5:(upd H4 x (.ins C dx (aE "pairs" (.ref p) (aE "row" (.ref r1) [])))) x=some (.ins C dx (aE "pairs" (.ref p) (aE "row" (.ref r1) []))):=ac;have hrow5:Txs (upd H4 x (.ins C dx (aE "pairs" (.ref p) (aE "row" (.ref r1) [])))) r1 ns:=(ad nxr.symm).trans (k4 r1 _ hrow2 (by simp));have hzs5:bA (upd H4 x (.ins C dx (aE "pairs" (.ref p) (aE "row" (.ref r1) [])))) p zs:=⟨(ad (zCp hzs4.top hx4 (λz=>nomatch z))).trans hzs4.top,λq hq=>(ad (zCp (hzs4.row q hq) hx4 (λz=>nomatch z))).trans (hzs4.row q hq),hzs4.two⟩;have k5:Kp [x] H (upd H4 x (.ins C dx (aE "pairs" (.ref p) (aE "row" (.ref r1) [])))):=Kp.put (k2.trans (k4.weak (by simp))) (by simp);generalize hH5:upd H4 x (.ins C dx (aE "pairs" (.ref p) (aE "row" (.ref r1) [])))=H5 at hx5 hrow5 hzs5 k5 ⊢
   have e_row:(aE "pairs" (.ref p) (aE "row" (.ref r1) [])).lookup ("row": Str)=some (.ref r1):=by
    rw[zA6,qAB (by decide +kernel),zA6,qAC rfl]
   have e_prs:(aE "pairs" (.ref p) (aE "row" (.ref r1) [])).lookup ("pairs": Str)=some (.ref p):=by
    rw[zA6,qAC rfl]
   refine⟨_,rfl,_,_,_,_,_,rfl,hx5,U.cl,U.n_row,e_row,_,rfl,_,_,_,_,_,rfl,hx5,U.cl,U.n_row,e_row,_,rfl,_,_,_,_,_,rfl,hx5,U.cl,U.n_pairs,e_prs,r1,p,ns,zs,rfl,hrow5,hzs5,G.nd,G.few,by lia,zin,λd la H6 DD k6=>?_⟩;refine⟨r1,d,ns,la,told zs,r,rfl,k6 r1 _ hrow5 (by simp),G.nd,G.few,DD.top,λn hn=>⟨DD.row n hn,qAW (gz zs n) (by lia),λy hy=>?_⟩,λe D fa S H7 FF all k7=>?_⟩
   .obtain ⟨q,h1,h2,h3⟩:=zJq.mp hy;obtain⟨a,b,eab⟩:=hzs5.two q h1;refine⟨?_,by rw[<-h2,<-h3];exact zrk q h1⟩;rw[<-h3];refine zin q h1 _ ?_;unfold fst;rw[eab];simp
   have k57:Kp [] H5 H7:=k6.trans k7;have hx7:=k57 x _ hx5 (by simp);refine⟨_,rfl,_,_,_,_,rfl,hx7,U.cl,U.n_above,?_,?_⟩
   .have h1:=zG5 "row" (V.ref r1) [];have h2:=zG5 "pairs" (V.ref p) (aE "row" (V.ref r1) []);simp only[qBB]at h1;lia
   have f2H:∀a,Fre H2 a->Fre H a:=λa ha=>k2.fre ha (nm1 λz=>by
    subst z;have:H2 a=some _:=hx2;unfold Fre at ha;rw[ha]at this;exact nomatch this)
   have k3p:Kp [] H2 (upd H3 sa (TSt P w sa yk)):=Kp.new k3 (k3.fre fsa (by simp));have fpx:Fre H2 p:=k3p.fre fp (by simp)
   have f52:∀a,Fre H5 a->Fre H2 a:=λa ha=>by
    have h1:Fre H4 a:=by
     have nax:a≠x:=λz=>by
      subst z;unfold Fre at ha;rw[ha]at hx5;exact nomatch hx5
     have:H5 a=H4 a:=by rw[<-hH5];exact ad nax
     unfold Fre at ha ⊢;rw[<-this];exact ha
    exact k4.fre h1 (by simp)
   have fex:Fre H2 e:=f52 e (k6.fre FF.fr (by simp));have ffx:∀n∈D,Fre H2 (fa n):=λn hn=>f52 _ (k6.fre (FF.frs n hn) (by simp));refine k ⟨dx,r1,p,e,ns,zs,D,fa,S⟩ _ ⟨ac,?_,⟨?_,λq hq=>?_,hzs5.two⟩,?_,all,λn hn=>?_,G.few,zlen,G.nd,zin,λn hn y=>FF.mem n (all n hn) y⟩ ⟨k1.fre hr1 (by simp),f2H p fpx,f2H e fex,λq hq=>f2H q.2 (fk q (zk q hq)),λn hn=>f2H _ (ffx n hn)⟩ rfl zset (Kp.put (k5.trans (k57.weak (by simp))) (by simp))
   .exact (ad nxr.symm).trans (k57 r1 _ hrow5 (by simp))
   .have h1:=k57 p _ hzs5.top (by simp);exact(ad (zCp h1 hx7 (λz=>nomatch z))).trans h1
   .have h1:=k57 _ _ (hzs5.row q hq) (by simp);exact(ad (zCp h1 hx7 (λz=>nomatch z))).trans h1
   .exact (ad (zCp FF.top hx7 (λz=>nomatch z))).trans FF.top
   .exact (ad (zCp (FF.row n hn) hx7 (λz=>nomatch z))).trans (FF.row n hn)
end
def zCc:List Str:=zEx.cps.toList.map λc=>⟨#[c]⟩
theorem zFd:zCc.length=26:=by
 unfold zCc;rw[zEw];simp
theorem gT:zCc.Nodup:=by decide +kernel
theorem kX(h:x∈zCc):zIp x:=by
 unfold zCc at h;rw[zEw]at h;obtain⟨c,hc,rfl⟩:=qAe.mp h;obtain⟨i,hi,rfl⟩:=qAe.mp hc;have:=qBH.mp hi;refine⟨qAG 1,by show 1<=8;decide,λd hd=>?_⟩;have:d=97+i:=by simpa using hd
 lia
theorem fz{found:List Str}(h:found.length<=20):(zCc.filter λx=>decide (x∉found))≠[]:=λz=>by
 have:zCc.length<=found.length:=zB3 gT λx hx=>by
  apply qBh;intro y;have:x∈zCc.filter λx=>decide (x∉found):=qBZ.mpr ⟨hx,qAV y⟩;rw[z]at this;exact nomatch this
 rw[zFd]at this;lia
section
inductive cv(vs:List V)(H:Hp)(Q:VK)(u_3:XK):Prop
 |mk:∀(p:Addr)(m:Int),vs=[.ref p,.int m]->zB9 H p->0<=m->m<=20->(∀(l:Addr)(ns:List Str)(H':Hp),Fre H l->Txs H' l ns->ns.length=m.toNat->ns.Nodup->(∀n∈ns,zIp n)->zB9 H' p->Kp [p] H H'->Q (.ref l) H')->cv vs H Q u_3
abbrev zJc:Stmt:=top 56
theorem zDi:ag ["_law_purse_here","_law_many","_law_letters","_law_found","_law_k","_law_word","_law_j"] ["_law_purse_here","_law_many"] (zAg zJc):=fnS
theorem m9(F:Fun K "_law_names" "_law_names" zJc f fd)(T:Txt K mg)(C_take:Cal P w K mg base "_law_take" 1 ["_law_purse_here","_law_many"] bo):ak P w K mg base CX0 2 f fd ["_law_purse_here","_law_many"] cv:=by
 refine F.ok zDi (λvs H Q E h=>?_) (λcdv A outer s H vs Q E hr h=>?_)
 .obtain ⟨p,m,rfl,_⟩:=h;rfl
 .obtain ⟨p,m,rfl,hP,h0,h1,k⟩:=h;have HR_take:=hr
  refine⟨_,(zAc (psS (i:=2) zDi.nd zAu) (zAc (psS (i:=3) zDi.nd (zAj zAb))
   (zAc (zA7 qAc rfl (zEr rfl T.z_range (zAa (pv 1) zAb)) (pgN (i:=4) zDi.nd)
    (zAc (psS (i:=5) zDi.nd zAu)
    (zAc (zA7 qAc rfl (zEr rfl T.z_range (zAa (zAn zCy zAd (zAn zFv (zAh C_take HR_take rfl (zAa (pv 0) (zAa zAd zAb))) (zAh C_take HR_take rfl (zAa (pv 0) (zAa zAd zAb))))) zAb)) (pgN (i:=6) zDi.nd)
     (zAe (psS (i:=5) zDi.nd (zAn gP (pv 5) (zBd sZ (pv 2) (zAh C_take HR_take rfl (zAa (pv 0) (zAa zAd zAb))) (λ_ _=>rfl))))))
    (zAc (zBk (zAr zFw (pv 5) (pv 3) (by rfl))
     (zAe (psS (i:=5) zDi.nd (zBd zA0 (zBn rfl (zBp (sc:=zAg zJc) rfl (by decide +kernel)) (ah.own (x:="_law_letter") (dtk (i:=3) rfl ah.nil)) (l_ (pv 2)) (λ_ _ _ _=>(pgB (i:=0))) (λ_ _ _ _=>(zCl (zAr (zD7 (K:=K)) (pv 0) (pv 1) (by rfl)))) (λ_ _ _ _=>(pv 0))) zAd (λ_ _=>rfl))))
     zAs)
    (zAe (zA2 (zD6 qAx qBz qB0 zCb (pv 3) (zAa (pv 5) zAb))))))))
   (zAe (zAw (pv 3)))))),?_⟩
  refine bE ?_;intro _ _ _ _;refine⟨(by walk_at"ln"),λl hl=>?_⟩;have fl:Fre H l:=hl;have npl:p≠l:=by obtain⟨a,b,e,_⟩:=hP;exact ae fl e
  have hP1:zB9 (upd H l (.lst [])) p:=hP.kp (M:=[]) (Kp.new Kp.refl fl) (by simp)
  refine⟨_,rfl,_,rfl,by lia,by lia,zDw (lo:=0) (n:=m.toNat) (λi σ H2=>∃(o4 o5 o6:Option V)(ws:List Str),σ=[some (.ref p),some (.int m),some (.str zEx),some (.ref l),o4,o5,o6]/\zB9 H2 p/\Kp [p] H H2/\Txs H2 l ws/\ws.length=i/\ws.Nodup/\∀s∈ws,zIp s)
   ⟨none,none,none,[],rfl,hP1,Kp.new Kp.refl fl,ac,rfl,qBC,λs h=>nomatch h⟩ ?_ ?_⟩
  .rintro i σ H2 hi ⟨o4,o5,o6,ws,rfl,P2,K2,R2,e2,n2,q2⟩;refine bE ?_;intro _ _ _ _;refine⟨_,rfl,p,2,rfl,P2,by decide,by decide,λd1 H3 a0 a1 P3 K3=>?_⟩;refine⟨_,rfl,p,8,rfl,P3,by decide,by decide,λd2 H4 b0 b1 P4 K4=>?_⟩;have hm0:0<=d1*d2:=Int.mul_nonneg a0 b0
   have hm1:d1*d2<=7:=by
    have:d1*d2<=1*7:=Int.mul_le_mul (by lia) (by lia) b0 (by decide);lia
   have K24:Kp [p] H2 H4:=K3.trans K4
   refine⟨_,_,rfl,rfl,(by walk_at"ml"),_,_,rfl,rfl,_,rfl,by lia,by lia,zDw (lo:=0) (n:=(1+d1*d2).toNat) (λn σ H7=>∃(o4 o6:Option V)(x:Str),σ=[some (.ref p),some (.int m),some (.str zEx),some (.ref l),o4,some (.str x),o6]/\zB9 H7 p/\Kp [p] H2 H7/\jx n x)
    ⟨_,_,_,rfl,P4,K24,rfl,(λc h=>absurd (show c∈([]:List Nat)from h) (by simp))⟩ ?_ ?_⟩
   .rintro n σ H7 hn ⟨o4,o6,x,rfl,P8,K7,W⟩;refine⟨_,rfl,_,rfl,_,rfl,p,26,rfl,P8,by decide,by decide,λd4 H8 e0 e1 P9 K8=>?_⟩;refine⟨_,_,_,rfl,rfl,by decide,iL e0 e1,_,_,rfl,rfl,?_,?_⟩
    .rw [W.1];show n+1<=sizeLine;rw[qAK];lia
    .exact ⟨_,_,_,rfl,P9,K7.trans K8,W.more (by lia) (by lia)⟩
   .rintro σ H7 ⟨o4,o6,x,rfl,P8,K7,W⟩;have h7:Txs H7 l ws:=K7 l _ R2 (nm1 npl.symm);have NX:zIp x:=⟨by have:=W.1;lia,by have:=W.1;lia,W.2⟩;refine⟨_,rfl,_,rfl,_,_,rfl,.inl (SqL.of h7),rfl,zDd ws,_,rfl,?_⟩;rw[qAB qAd,zH5];refine iz (λσ H8=>∃(y:Str),σ=[some (.ref p),some (.int m),some (.str zEx),some (.ref l),o4,some (.str y),o6]/\Kp [] H7 H8/\zIp y/\y∉ws) (λN hN=>aA (λc=>?_) (λc=>?_)) ?_
    .-- _law_word=[..][0]
     refine⟨_,rfl,_,rfl,λB hB=>fv (z:=zEx) (λi ys τ H8=>(∃o0,τ=[o0,some (.ref l)])/\ys=((zCc.take i).filter λx=>decide (x∉ws)).map V.str/\H8=upd H7 B (.lst ys)) ⟨⟨_,rfl⟩,rfl,rfl⟩ ?_ ?_⟩
     .rintro i c ys τ H8 hc ⟨⟨o0,rfl⟩,rfl,rfl⟩;have en:zCc[i]?=some ⟨#[c]⟩:=by unfold zCc;rw[qAY,hc];rfl
      refine⟨_,rfl,_,rfl,_,_,rfl,.inl (SqL.of ((ad (ae (show Fre H7 B from hB) h7)).trans h7)),rfl,zDd ws,_,rfl,?_⟩;rw[qAC rfl,zH5]
      have ed:(!decide ((⟨#[c]⟩:Str)∈ws))=decide ((⟨#[c]⟩:Str)∉ws):=by
       by_cases z:(⟨#[c]⟩:Str)∈ws
       .simp [z]
       .simp [z]
      rw[ed];refine aA (λc=>?_) (λc=>?_)
      .refine ⟨_,rfl,ac,?_,⟨_,rfl⟩,?_,zB7⟩
       .rw [qAD];exact zJ0 (by rw[zFd];decide)
       .rw [zHa (p:=λx=>decide (x∉ws)) en c,qAP];rfl
      .refine ⟨⟨_,rfl⟩,?_,?_⟩
       .rw [zJz (p:=λx=>decide (x∉ws)) en c]
       .rfl
     .rintro ys τ H8 ⟨_,rfl,rfl⟩;have eT:zCc.take zEx.length=zCc:=qBN (by rw[zFd];decide);rw[eT];have hne:=fz (found:=ws) (by lia)
      have hmm:∀y,y∈(zCc.filter λx=>decide (x∉ws))->zIp y/\y∉ws:=λy hy=>by
       have:=qBZ.mp hy;exact⟨kX this.1,qBm this.2⟩
      generalize (zCc.filter λx=>decide (x∉ws))=L at hne hmm
      obtain⟨y,r,rfl⟩:∃y r,L=y::r:=by
       cases L with
       |nil=>exact absurd rfl hne
       |cons y r=>exact⟨y,r,rfl⟩
      refine⟨_,_,_,.str y,rfl,rfl,SqL.of ac,zEj (by decide) rfl,?_⟩;exact hN _ _ ⟨y,rfl,Kp.new Kp.refl hB,(hmm y qAf).1,(hmm y qAf).2⟩
    .exact hN _ _ ⟨x,rfl,Kp.refl,NX,λz=>c (qAV z)⟩
    .rintro σ H8 ⟨y,rfl,K8,NY,ny⟩;have h8:Txs H8 l ws:=K8 l _ h7 (by simp);refine⟨_,rfl,.inl ⟨rfl,_,SqL.of h8⟩,_,rfl,_,_,_,rfl,rfl,h8,?_,?_⟩
     .rw [qAK,qAD];lia
     .refine ⟨_,_,_,ws++[y],rfl,(P8.kp K8 (by simp)).kp (M:=[l]) (Kp.put Kp.refl (by simp)) (nm1 npl),Kp.new (K2.trans (K7.trans (K8.weak (by simp)))) fl,?_,by simp[e2],?_,λs hs=>?_⟩
      .show upd H8 l _ l=some (.lst ((ws++[y]).map V.str));rw[ac,qAP];rfl
      .refine qBX.mpr ⟨n2,by simp,λa ha b hb=>?_⟩;rw[qAO.mp hb];rintro rfl;exact ny ha
      .rcases qAR.mp hs with z|z
       .exact q2 s z
       .rw [qAO.mp z];exact NY
  .rintro σ H2 ⟨o4,o5,o6,ws,rfl,P2,K2,R2,e2,n2,q2⟩;exact⟨_,rfl,k l ws H2 fl R2 e2 n2 q2 P2 K2⟩
end
structure ITs(H:Hp)(l:Addr)(ts:List ((Int×Int)×Addr)):Prop where
 top:H l=some (.lst (ts.map λt=>V.ref t.2))
 row:∀t∈ts,H t.2=some (.tup [.int t.1.1,.int t.1.2])
theorem ITs.kp{M:List Addr}{l:Addr}{ts:List ((Int×Int)×Addr)}(I:ITs H l ts)(k:Kp M H H')(h1:l∉M)(h2:∀t∈ts,t.2∉M):ITs H' l ts:=⟨k l _ I.top h1,λt ht=>k _ _ (I.row t ht) (h2 t ht)⟩
theorem nR(i:Nat):i*(i+1)+2*(i+1)=(i+1)*(i+2):=by
 rw[<-Nat.add_mul,Nat.mul_comm]
theorem uV(w:Int):inV (.int w) [.int 1,.int 2]=(decide (w=1)||decide (w=2)):=by
 show((1==w)||((2==w)||false))=_
 by_cases h1:w=1
 .subst h1;rfl
 .by_cases h2:w=2
  .subst h2;rfl
  .rw [qAZ h1,qAZ h2,qBG.mpr (qAh h1),qBG.mpr (qAh h2)];rfl
def jy(m:Int)(ts:List ((Int×Int)×Addr)):Prop:=∀t∈ts,0<=t.1.1/\t.1.1<t.1.2/\t.1.2<m
theorem aG{a:Addr}{o:HO}(h:H a=none):∃H',upd H a o=H'/\Kp [] H H'/\H' a=some o:=⟨_,rfl,Kp.new Kp.refl h,ac⟩
structure PB(H0:Hp)(p l:Addr)(m:Int)(H:Hp)(ts:List ((Int×Int)×Addr)):Prop where
 pu:zB9 H p
 kp:Kp [p] H0 H
 it:ITs H l ts
 fr:∀t∈ts,Fre H0 t.2
 ok:jy m ts
 pl:p≠l
 fl:Fre H0 l
section
variable{H0 H H':Hp}{p l t:Addr}{m a b:Int}{ts:List ((Int×Int)×Addr)}(B:PB H0 p l m H ts)
include B
theorem PB.go(k:Kp [p] H H')(P:zB9 H' p):PB H0 p l m H' ts:=⟨P,B.kp.trans k,B.it.kp k (nm1 B.pl.symm) λt ht=>nm1 (by obtain⟨x,y,e,_⟩:=B.pu;exact zCp (B.it.row t ht) e (λz=>nomatch z)),B.fr,B.ok,B.pl,B.fl⟩
theorem PB.go0(k:Kp [] H H'):PB H0 p l m H' ts:=B.go k.of0 (B.pu.kp k (by simp))
theorem PB.fre(f:H t=none):Fre H0 t:=B.kp.fre f (nm1 (by obtain⟨x,y,e,_⟩:=B.pu;exact(ae f e).symm))
theorem PB.add(ht:H t=some (.tup [.int a,.int b]))(ft:Fre H0 t)(h1:0<=a)(h2:a<b)(h3:b<m):PB H0 p l m (upd H l (.lst (ts.map (λt=>V.ref t.2)++[.ref t]))) (ts++[((a,b),t)]):=by
 have g:∀q∈ts++[((a,b),t)],H q.2=some (.tup [.int q.1.1,.int q.1.2])/\Fre H0 q.2/\0<=q.1.1/\q.1.1<q.1.2/\q.1.2<m:=λq hq=>by
  rcases qAR.mp hq with z|z
  .exact ⟨B.it.row q z,B.fr q z,B.ok q z⟩
  .rw [qAO.mp z];exact⟨ht,ft,h1,h2,h3⟩
 exact⟨B.pu.kp (M:=[l]) (Kp.put Kp.refl (by simp)) (nm1 B.pl),Kp.new B.kp B.fl,⟨by rw[ac,qAP];rfl,λq hq=>(ad (zCp (g q hq).1 B.it.top (λy=>nomatch y))).trans (g q hq).1⟩,λq hq=>(g q hq).2.1,λq hq=>(g q hq).2.2,B.pl,B.fl⟩
theorem PB.ext(c:Bool)(ht:H t=some (.tup [.int a,.int b]))(ft:Fre H0 t)(h:c=true->0<=a/\a<b/\b<m):∃ts1,PB H0 p l m (upd H l (.lst (ts.map (λt=>V.ref t.2)++(List.replicate (if c=true then(1:Int)else 0).toNat [V.ref t]).flatten))) ts1/\ts1.length<=ts.length+1:=by
 cases c with
 |true=>exact⟨_,B.add ht ft (h rfl).1 (h rfl).2.1 (h rfl).2.2,by rw[qAN];exact qAG _⟩
 |false=>
  refine⟨ts,?_,qB6 _⟩;show PB H0 p l m (upd H l (.lst (ts.map (λt=>V.ref t.2)++[]))) ts;rw[qAm];exact⟨B.pu.kp (M:=[l]) (Kp.put Kp.refl (by simp)) (nm1 B.pl),Kp.new B.kp B.fl,⟨ac,λq hq=>(ad (zCp (B.it.row q hq) B.it.top (λy=>nomatch y))).trans (B.it.row q hq)⟩,B.fr,B.ok,B.pl,B.fl⟩
end
section
inductive bR(vs:List V)(H:Hp)(Q:VK)(u_3:XK):Prop
 |mk:∀(p:Addr)(m way thin:Int),vs=[.ref p,.int m,.int way,.int thin]->zB9 H p->0<=m->m<=20->2<=thin->thin<=12->(∀(l:Addr) (ts:List ((Int×Int)×Addr)) (H':Hp),Fre H l->ITs H' l ts->(∀t∈ts,Fre H t.2)->ts.length<=190->jy m ts->zB9 H' p->Kp [p] H H'->Q (.ref l) H')->bR vs H Q u_3
abbrev eG:Stmt:=top 57
theorem zDh:ag ["_law_purse_here","_law_many","_law_way","_law_thin","_law_pairs_here","_law_j","_law_far","_law_i","_law_near"] ["_law_purse_here","_law_many","_law_way","_law_thin"] (zAg eG):=fnS
theorem nA(F:Fun K "_law_pairs" "_law_pairs" eG f fd)(T:Txt K mg)(C_take:Cal P w K mg base "_law_take" 1 ["_law_purse_here","_law_many"] bo):ak P w K mg base CX0 2 f fd ["_law_purse_here","_law_many","_law_way","_law_thin"] bR:=by
 refine F.ok zDh (λvs H Q E h=>?_) (λcdv A outer s H vs Q E hr h=>?_)
 .obtain ⟨p,m,way,thin,rfl,_⟩:=h;rfl
 .obtain ⟨p,m,way,thin,rfl,hP,h0,h1,t0,t1,k⟩:=h;have HR_take:=hr
  refine⟨_,(zAc (psS (i:=4) zDh.nd (zAj zAb)) (zAc (zA7 qAc rfl (kN rfl T.z_range (zAa zAd (zAa (pv 1) zAb))) (pgN (i:=5) zDh.nd)
    (zAc (psS (i:=6) zDh.nd zAd)
    (zAc (zBk (zAr zD8 (pv 2) zAd (zAv _))
     (zAc (psS (i:=6) zDh.nd (zAh C_take HR_take rfl (zAa (pv 0) (zAa (zAn zCy (zAn zE9 (pv 1) (pv 5)) zAd) zAb))))
     (zAe (zA2 (zD6 qAx qCi qCj zEv (pv 4) (zAa (zAn g_ (zAj (zAa (zCa (zAa (zAn zE9 (pv 5) zAd) (zAa (zAn zCy (zAn zE9 (pv 5) zAd) (pv 6)) zAb))) zAb)) (zA8 zEz (by rfl) T.z_int zIb (zAa (zCs gv (pv 6) zAd (zAv _)) zAb))) zAb)))))
     zAs)
    (zAc (zBk (zAr zD8 (pv 2) zAd (zAv _))
     (zAc (psS (i:=6) zDh.nd (zAh C_take HR_take rfl (zAa (pv 0) (zAa (zAn zCy (pv 5) zAd) zAb))))
     (zAe (zA2 (zD6 qAx qCi qCj zEv (pv 4) (zAa (zAn g_ (zAj (zAa (zCa (zAa (zAn zE9 (pv 5) (pv 6)) (zAa (pv 5) zAb))) zAb)) (zA8 zEz (by rfl) T.z_int zIb (zAa (zCs gv (pv 6) zAd (zAv _)) zAb))) zAb)))))
     zAs)
    (zAe (zA7 qAc rfl (zEr rfl T.z_range (zAa (zAn zFv (pv 5) (zA8 zEz (by rfl) T.z_int zIb (zAa (zCs zGr (pv 2) (zAj (zAa zAd (zAa zAd zAb))) (by rfl)) zAb))) zAb)) (pgN (i:=7) zDh.nd)
     (zAc (psS (i:=8) zDh.nd (t_ (zCs zFu (pv 2) zAd (zAv _)) (cu (zCs zD8 (zAn zCy (zAn zJi (pv 7) (pv 3)) zAd) (zAn zJi (pv 5) (pv 3)) (zAv _)))))
     (zAe (zBk (PW.pt (zHl (zBi (pv 8)) (zGg (zAr zD8 (zCs zD8 (zAh C_take HR_take rfl (zAa (pv 0) (zAa (pv 3) zAb))) zAd (zAv _)) (zCs zFu (pv 2) zAd (zAv _)) (zAv _)))))
      (zAe (zA2 (zD6 qAx qBz qB0 zCb (pv 4) (zAa (zCa (zAa (pv 7) (zAa (pv 5) zAb))) zAb))))
      zAs)))))))))
   (zAe (zAw (pv 4))))),?_⟩
  refine cy ?_;intro _ _ _;refine⟨(by walk_at"ln"),λl hl=>?_⟩;have npl:p≠l:=by obtain⟨a,b,e,_⟩:=hP;exact ae hl e
  have Kl:∀{M},Kp M H (upd H l (.lst [])):=Kp.new Kp.refl hl
  refine⟨_,rfl,_,_,rfl,⟨by decide,by decide,by lia,by lia⟩,zDw (lo:=1) (n:=(m-1).toNat) (λi σ H2=>∃(o5 o6 o7 o8:Option V) (ts:List ((Int×Int)×Addr)),σ=[some (.ref p),some (.int m),some (.int way),some (.int thin),some (.ref l),o5,o6,o7,o8]/\PB H p l m H2 ts/\ts.length*2<=i*(i+1)) ⟨none,none,none,none,[],rfl,⟨hP.kp (Kl (M:=[])) (by simp),Kl,⟨ac,(λt h=>nomatch h)⟩,(λt h=>nomatch h),(λt h=>nomatch h),npl,hl⟩,qAi _⟩ ?_ ?_⟩
  .rintro i σ H2 hi ⟨o5,o6,o7,o8,ts,rfl,B,e2⟩;refine bE ?_;intro _ _ _ _;have hi19:i<=18:=by lia
   have hle:ts.length*2<=19*20:=qAW e2 (Nat.mul_le_mul (by lia) (by lia));refine⟨_,rfl,rfl,_,rfl,iz (λσ H3=>∃(v6:Int) (ts1:List ((Int×Int)×Addr)),σ=[some (.ref p),some (.int m),some (.int way),some (.int thin),some (.ref l),some (.int (1+(i:Int))),some (.int v6),o7,o8]/\PB H p l m H3 ts1/\ts1.length<=ts.length+1/\(way≠1->ts1.length<=ts.length)) (λN hN=>aA (λc=>?_) (λc=>hN _ _ ⟨0,ts,rfl,B,qB6 _,λ_=>qAG _⟩)) ?_⟩
   .have cw:way=1:=by simpa using c
    refine⟨_,rfl,_,rfl,_,rfl,_,_,rfl,rfl,_,_,rfl,rfl,p,m-(1+(i:Int))+1,rfl,B.pu,by lia,by lia,λd H3 d0 d1 P3 K3=>?_⟩;have B:=B.go K3 P3;refine⟨_,rfl,.inl ⟨rfl,_,SqL.of B.it.top⟩,_,rfl,_,_,rfl,rfl,_,rfl,_,_,rfl,rfl,_,rfl,_,_,rfl,rfl,(by walk_at"ln"),λt ht=>?_⟩;have ft:=B.fre ht;obtain⟨H4,e4,k4,h4⟩:=aG (o:=.tup [.int (1+(i:Int)-1),.int (1+(i:Int)-1+d)]) ht;rw[e4];refine⟨(by walk_at"ln"),λq hq=>?_⟩;obtain⟨H5,e5,k5,h5⟩:=aG (o:=.lst [.ref t]) hq;rw[e5];refine⟨_,rfl,_,_,rfl,rfl,.inr ⟨_,rfl,_,_,_,rfl,rfl,h5,by split<;>decide,by split<;>decide,by rw[qAK];show 1*_<=_;split<;>decide,λr hr'=>?_⟩⟩;obtain⟨H6,e6,k6,h6⟩:=aG (o:=.lst (List.replicate (if decide (0<d)=true then(1:Int)else 0).toNat [V.ref t]).flatten) hr';rw[e6];have B:=(B.go0 k4).go0 (k5.trans k6);obtain⟨ts2,B2,l2⟩:=B.ext (decide (0<d)) ((k5.trans k6) _ _ h4 (by simp)) ft λz=>by have:=qBm z;lia
    refine⟨_,_,_,_,rfl,rfl,B.it.top,h6,?_,hN _ _ ⟨d,ts2,rfl,B2,by lia,λz=>absurd cw z⟩⟩;rw[qAD,dY,qAK];have:(if decide (0<d)=true then(1:Int)else 0).toNat<=1:=by split<;>decide
    simp only[qAa,qBB];lia
   .rintro σ H4 ⟨v6,ts1,rfl,B,e3,e4⟩;refine⟨_,rfl,rfl,_,rfl,iz (λσ H3=>∃(v6:Int) (ts2:List ((Int×Int)×Addr)),σ=[some (.ref p),some (.int m),some (.int way),some (.int thin),some (.ref l),some (.int (1+(i:Int))),some (.int v6),o7,o8]/\PB H p l m H3 ts2/\ts2.length<=ts.length+1/\(way≠1->way≠2->ts2.length<=ts.length)) (λN hN=>aA (λc=>?_) (λc=>hN _ _ ⟨v6,ts1,rfl,B,e3,λz _=>e4 z⟩)) ?_⟩
    .have cw:way=2:=by simpa using c
     have e5:=e4 (by lia);refine⟨_,rfl,_,rfl,_,_,rfl,rfl,p,1+(i:Int)+1,rfl,B.pu,by lia,by lia,λd H3 d0 d1 P3 K3=>?_⟩;have B:=B.go K3 P3;refine⟨_,rfl,.inl ⟨rfl,_,SqL.of B.it.top⟩,_,rfl,_,rfl,_,_,rfl,rfl,_,rfl,(by walk_at"ln"),λt ht=>?_⟩;have ft:=B.fre ht;obtain⟨H4,e4,k4,h4⟩:=aG (o:=.tup [.int (1+(i:Int)-d),.int (1+(i:Int))]) ht;rw[e4];refine⟨(by walk_at"ln"),λq hq=>?_⟩;obtain⟨H5,e5,k5,h5⟩:=aG (o:=.lst [.ref t]) hq;rw[e5];refine⟨_,rfl,_,_,rfl,rfl,.inr ⟨_,rfl,_,_,_,rfl,rfl,h5,by split<;>decide,by split<;>decide,by rw[qAK];show 1*_<=_;split<;>decide,λr hr'=>?_⟩⟩;obtain⟨H6,e6,k6,h6⟩:=aG (o:=.lst (List.replicate (if decide (0<d)=true then(1:Int)else 0).toNat [V.ref t]).flatten) hr';rw[e6];have B:=(B.go0 k4).go0 (k5.trans k6);obtain⟨ts2,B2,l2⟩:=B.ext (decide (0<d)) ((k5.trans k6) _ _ h4 (by simp)) ft λz=>by have:=qBm z;lia
     refine⟨_,_,_,_,rfl,rfl,B.it.top,h6,?_,hN _ _ ⟨d,ts2,rfl,B2,by lia,λ_ z=>absurd cw z⟩⟩;rw[qAD,dY,qAK];have:(if decide (0<d)=true then(1:Int)else 0).toNat<=1:=by split<;>decide
     simp only[qAa,qBB];lia
    .rintro σ H5 ⟨v6,ts2,rfl,B,e5,e6⟩;refine⟨_,rfl,_,rfl,(by walk_at"ln"),λb hb=>?_⟩;obtain⟨H6,e7,k6,h6⟩:=aG (o:=.lst [.int 1,.int 2]) hb;rw[e7];refine⟨_,_,rfl,.inl (SqL.of h6),rfl,rfl,.inr ⟨_,rfl,?_⟩⟩;rw[qAC rfl,uV]
     have hb2:(if(!(decide (way=1)||decide (way=2)))=true then(1:Int)else 0)=0\/((if(!(decide (way=1)||decide (way=2)))=true then(1:Int)else 0)=1/\way≠1/\way≠2):=by
      by_cases z:way=1
      .left;simp[z]
      .by_cases y:way=2
       .left;simp[y]
       .right;simp[z,y]
     generalize (if(!(decide (way=1)||decide (way=2)))=true then(1:Int)else 0)=nn at hb2 ⊢;have hm:(1+(i:Int))*nn=0\/((1+(i:Int))*nn=1+i/\ts2.length<=ts.length):=hb2.imp (λz=>by rw[z];lia) λ⟨z,y,x⟩=>⟨by rw[z];lia,e6 y x⟩;refine⟨_,_,rfl,rfl,.inl ⟨by lia,by lia⟩,_,rfl,by lia,by lia,zDw (lo:=0) (n:=((1+(i:Int))*nn).toNat) (λa σ H6=>∃(o7 o8:Option V) (ts3:List ((Int×Int)×Addr)),σ=[some (.ref p),some (.int m),some (.int way),some (.int thin),some (.ref l),some (.int (1+(i:Int))),some (.int v6),o7,o8]/\PB H p l m H6 ts3/\ts3.length<=ts2.length+a) ⟨_,_,ts2,rfl,B.go0 k6,qAG _⟩ ?_ ?_⟩
     .rintro a σ H7 ha ⟨o7',o8',ts3,rfl,B,e8⟩;refine bG ?_;intro _ _;have ha':(a:Int)<1+i:=by lia
      refine p0 (λσ H8=>∃bN:Bool,σ=[some (.ref p),some (.int m),some (.int way),some (.int thin),some (.ref l),some (.int (1+(i:Int))),some (.int v6),some (.int (0+(a:Int))),some (.bl bN)]/\H8=H7) (λN hN=>⟨_,rfl,rfl,_,rfl,aA (λc=>hN _ _ ⟨true,rfl,rfl⟩) (λc=>⟨_,rfl,_,rfl,_,_,rfl,rfl,⟨by lia,by lia⟩,_,_,rfl,rfl,_,rfl,_,rfl,_,_,rfl,rfl,⟨by lia,by lia⟩,rfl,hN _ _ ⟨_,rfl,rfl⟩⟩)⟩) ?_;rintro σ H8 ⟨bN,rfl,rfl⟩;refine⟨_,rfl,_,rfl,aA (λc=>⟨_,rfl,_,rfl,p,thin,rfl,B.pu,by lia,by lia,λd H9 d0 d1 P9 K9=>?_⟩) (λc=>⟨_,_,ts3,rfl,B,by lia⟩)⟩;have B:=B.go K9 P9;refine⟨rfl,_,rfl,rfl,rfl,_,rfl,aA (λc=>⟨_,rfl,.inl ⟨rfl,_,SqL.of B.it.top⟩,_,rfl,_,rfl,(by walk_at"ln"),λt ht=>?_⟩) (λc=>⟨_,_,ts3,rfl,B,by lia⟩)⟩;have ft:=B.fre ht;obtain⟨H10,e10,k10,h10⟩:=aG (o:=.tup [.int (0+(a:Int)),.int (1+(i:Int))]) ht;rw[e10];have B:=B.go0 k10;refine⟨_,_,_,rfl,rfl,B.it.top,by rw[qAD,qAK];lia,_,_,_,rfl,B.add h10 ft (by lia) (by lia) (by lia),?_⟩;rw[qAN];simp only[qAa,qBB];lia
     .rintro σ H7 ⟨o7',o8',ts3,rfl,B,e8⟩;refine⟨_,_,_,_,ts3,rfl,B,?_⟩;have:=nR i;show _<=(i+1)*(i+2);rw[<-this];lia
  .rintro σ H2 ⟨o5,o6,o7,o8,ts,rfl,B,e2⟩;have hle:(m-1).toNat*((m-1).toNat+1)<=19*20:=Nat.mul_le_mul (by lia) (by lia);exact⟨_,rfl,k l ts H2 B.fl B.it B.fr (by lia) B.ok B.pu B.kp⟩
end
theorem zH6{α:Type}[BEq α][LawfulBEq α]:∀{L:List α}{i:Nat}{x:α},L.Nodup->L[i]?=some x->L.idxOf x=i
 |[],i,x,_,h=>by simp at h
 |y::L,0,x,_,h=>by
  have:y=x:=qAb h;subst this;simp
 |y::L,i+1,x,hn,h=>by
  rw[qCZ]at h;obtain⟨h1,h2⟩:=qBI.mp hn;have hne:y≠x:=λz=>h1 (z▸qAJ h);rw[List.idxOf_cons,qBG.mpr hne];show L.idxOf x+1=i+1;rw[zH6 h2 h]
theorem cS{α β:Type}{f:α->β}:∀{L:List α},L.Nodup->(∀a∈L,∀b∈L,f a=f b->a=b)->(L.map f).Nodup
 |[],_,_=>qBC
 |x::L,h,hi=>by
  obtain⟨h1,h2⟩:=qBI.mp h;rw[qAt];refine qBI.mpr ⟨λz=>?_,cS h2 λa ha b hb=>hi a (qAX _ ha) b (qAX _ hb)⟩;obtain⟨y,hy,e⟩:=qAe.mp z;rw[hi y (qAX _ hy) x qAf e]at hy;exact h1 hy
theorem zHu{K:PySem.W.Frag}{c e:Addr}{xs:List V}{Q:VK}(h1:SqL K H c xs)(h2:SqL K H e [])(h:∀bb:Bool,(bb=true->xs≠[])->Q (.bl bb) H):aO K 8 false (.ref c) (.ref e) H Q\/aP K true (.ref c) (.ref e) H Q:=by
 by_cases z:xs=[]
 .subst z;exact .inl ⟨c,e,_,_,rfl,rfl,h1,h2,rfl,(λi x y h=>by simp at h),h false (λz=>nomatch z)⟩
 .refine .inr ⟨c,e,_,_,rfl,rfl,h1,h2,λy=>z (qBx.mp y),h true λ_=>z⟩
structure du(Is:List Int)(m:Nat):Prop where
 len:Is.length=m
 nd:Is.Nodup
 lt:∀x∈Is,0<=x/\x<m
theorem du.put{Is:List Int}{m:Nat}(S:du Is m)(d:Nat):du (Is.take d++(m:Int)::Is.drop d) (m+1):=by
 have hp:=ST.ins_perm Is d (m:Int);refine⟨by rw[hp.length_eq,qAa,S.len],hp.nodup_iff.mpr (qBI.mpr ⟨λz=>?_,S.nd⟩),λx hx=>?_⟩
 .have:=(S.lt _ z).2;lia
 .rcases qAT.mp (hp.mem_iff.mp hx)with z|z
  .subst z;lia
  .have:=S.lt x z;lia
def cn(ns:List Str)(Is:List Int):List Str:=Is.map λk=>ns.getD k.toNat Str.empty
theorem n9{Is:List Int}(hn:ns.Nodup)(S:du Is ns.length):(cn ns Is).Nodup:=by
 refine cS S.nd λa ha b hb e=>?_;have h1:=S.lt a ha;have h2:=S.lt b hb;have e1:ns.getD a.toNat Str.empty=ns[a.toNat]'(by lia):=by rw[qBg,qAq (by lia)];rfl
 have e2:ns.getD b.toNat Str.empty=ns[b.toNat]'(by lia):=by rw[qBg,qAq (by lia)];rfl
 rw[e1,e2]at e;have:=(List.getElem_inj hn).mp e;lia
theorem fF{Is:List Int}(S:du Is ns.length){i:Int}(h0:0<=i)(h1:i<ns.length):∃s n,Is[i.toNat]?=some s/\0<=s/\ns[s.toNat]?=some n/\(cn ns Is)[i.toNat]?=some n:=by
 have hi:i.toNat<Is.length:=by rw[S.len];lia
 have hs:=S.lt Is[i.toNat] (qB8 hi);have hs':Is[i.toNat].toNat<ns.length:=by lia
 refine⟨Is[i.toNat],ns[Is[i.toNat].toNat],qAq hi,hs.1,qAq hs',?_⟩;unfold cn;rw[qAY,qAq hi];show some (ns.getD _ _)=_;rw[qBg,qAq hs'];rfl
theorem eh{α β:Type}(f:α->β)(L:List α)(d:Nat)(x:α):(L.map f).take d++f x::(L.map f).drop d=(L.take d++x::L.drop d).map f:=by
 rw[qAP,qAt,qBk,qBl]
theorem ui{ts:List ((Int×Int)×Addr)}{i:Nat}{v:V}(h:(ts.map λq=>V.ref q.2)[i]?=some v):∃q,ts[i]?=some q/\v= .ref q.2:=by
 rw[qAY]at h;obtain⟨n,e,r⟩:=qBU.mp h;exact⟨n,e,r.symm⟩
section
inductive dS(vs:List V)(H:Hp)(Q:VK)(u_3:XK):Prop
 |mk:∀(p:Addr)(mo:Int),vs=[.ref p,.int mo]->0<=mo->mo<=20->zB9 H p->(∀(t l m:Addr)(ns:List Str) (qs:List (List Str×Addr)) (r:Str->Nat) (H':Hp),(ns.length:Int)<=mo->qs.length<=192->H' t=some (.tup [.ref l,.ref m])->Fre H t->Fre H l->Fre H m->(∀q∈qs,Fre H q.2)->Txs H' l ns->bA H' m qs->mC ns qs r->zB9 H' p->Kp [p] H H'->Q (.ref t) H')->dS vs H Q u_3
abbrev dQ:Stmt:=top 58
theorem zDz:ag ["_law_purse_here","_law_most","_law_many","_law_names_here","_law_way","_law_thin","_law_pairs_here","_law_k","_law_spots"] ["_law_purse_here","_law_most"] (zAg dQ):=fnS
theorem pV(F:Fun K "_law_jobs" "_law_jobs" dQ f fd)(T:Txt K mg)(C_take:Cal P w K mg base "_law_take" 1 ["_law_purse_here","_law_many"] bo)(C_names:Cal P w K mg base "_law_names" 2 ["_law_purse_here","_law_many"] cv)
  (C_pairs:Cal P w K mg base "_law_pairs" 2 ["_law_purse_here","_law_many","_law_way","_law_thin"] bR):ak P w K mg base CX0 3 f fd ["_law_purse_here","_law_most"] dS:=by
 refine F.ok zDz (λvs H Q E h=>?_) (λcdv A outer s H vs Q E hr h=>?_)
 .obtain ⟨p,mo,rfl,_⟩:=h;rfl
 .obtain ⟨p,mo,rfl,mo0,mo1,hP,k⟩:=h;have HR_names:=hr;have HR_pairs:=hr;have HR_take:=hr.mono (j:=1) (by decide)
  refine⟨_,(zAc (psS (i:=2) zDz.nd (zAh C_take HR_take rfl (zAa (pv 0) (zAa (zAn zCy (pv 1) zAd) zAb)))) (zAc (psS (i:=3) zDz.nd (zAh C_names HR_names rfl (zAa (pv 0) (zAa (pv 2) zAb))))
   (zAc (psS (i:=4) zDz.nd (zAh C_take HR_take rfl (zAa (pv 0) (zAa zAd zAb))))
   (zAc (psS (i:=5) zDz.nd (zBd zA0 (zAj (zAa zAd (zAa zAd (zAa zAd (zAa zAd (zAa zAd zAb)))))) (zAh C_take HR_take rfl (zAa (pv 0) (zAa zAd zAb))) (fun _ _=>rfl)))
   (zAc (psS (i:=6) zDz.nd (zAh C_pairs HR_pairs rfl (zAa (pv 0) (zAa (pv 2) (zAa (pv 4) (zAa (pv 5) zAb))))))
   (zAc (zA7 qAc rfl (zEr rfl T.z_range (zAa (zAn zFv (zA8 zEz (by rfl) T.z_int zIb (zAa (zCs (zEt HR_take) (pv 6) (zAj zAb) (zAv _)) zAb)) (zAh C_take HR_take rfl (zAa (pv 0) (zAa zAd zAb)))) zAb)) (pgN (i:=7) zDz.nd)
    (zAe (zA2 (zD6 qAx qC8 qC9 zHv (pv 6) (zAa (zAh C_take HR_take rfl (zAa (pv 0) (zAa (zAn zCy (zAi zAp (by rfl) T.z_len zBy (zAa (pv 6) zAb)) zAd) zAb))) (zAa (zBd zA0 (pv 6) (zAh C_take HR_take rfl (zAa (pv 0) (zAa (zAi zAp (by rfl) T.z_len zBy (zAa (pv 6) zAb)) zAb))) (λ_ _=>rfl)) zAb))))))
   (zAc (psS (i:=8) zDz.nd (zAj zAb))
   (zAc (zA7 qAc rfl (zEr rfl T.z_range (zAa (pv 2) zAb)) (pgN (i:=7) zDz.nd)
    (zAe (zA2 (zD6 qAx qC8 qC9 zHv (pv 8) (zAa (zAh C_take HR_take rfl (zAa (pv 0) (zAa (zAn zCy (pv 7) zAd) zAb))) (zAa (pv 7) zAb))))))
   (zAe (zAw (zCa (zAa (pv 3) (zAa (zBn rfl (zBp (sc:=zAg dQ) rfl (by decide +kernel)) (ah.own (x:="_law_i") (ah.own (x:="_law_j") (dtk (i:=3) rfl (dtk (i:=8) rfl ah.nil)))) (zAq (pv 6)) (λ_ _ _ _=>(eX (K:=K) (n:=2) rfl (zBf (pgB (i:=0)) (zBf (pgB (i:=1)) zD5)))) (λ_ _ _ _=>zCm) (λ_ _ _ _=>(zCa (zAa (zBd (zG8 (K:=K)) (pv 2) (zBd (zG8 (K:=K)) (pv 3) (pv 0) (λ_ _=>rfl)) (λ_ _=>rfl)) (zAa (zBd (zG8 (K:=K)) (pv 2) (zBd (zG8 (K:=K)) (pv 3) (pv 1) (λ_ _=>rfl)) (λ_ _=>rfl)) zAb))))) zAb))))))))))))),?_⟩
  refine so ?_;intro _ _ _ _ _ _ _ _ _;refine⟨_,rfl,_,rfl,_,_,rfl,rfl,p,mo+1,rfl,hP,by lia,by lia,λm H1 m0 m1 P1 K1=>?_⟩;refine⟨_,rfl,_,rfl,p,m,rfl,P1,m0,by lia,λl ns H2 fl hl en nd nm P2 K2=>?_⟩;have npl:p≠l:=by obtain⟨a,b,e,_⟩:=P1;exact ae fl e
  refine⟨_,rfl,p,6,rfl,P2,by decide,by decide,λway H3 w0 w1 P3 K3=>?_⟩;refine⟨(by walk_at"ln"),λb hb=>?_⟩;have fb:Fre H3 b:=hb;have npb:p≠b:=by obtain⟨x,y,e,_⟩:=P3;exact ae fb e
  refine⟨_,rfl,p,5,rfl,P3.kp (M:=[]) (Kp.new Kp.refl fb) (by simp),by decide,by decide,λd H4 d0 d1 P4 K4=>?_⟩
  obtain⟨th,hth,th2,th12⟩:∃th:Int,([V.int 2,.int 3,.int 4,.int 6,.int 12])[d.toNat]?=some (.int th)/\2<=th/\th<=12:=by
   have:d=0\/d=1\/d=2\/d=3\/d=4:=by lia
   rcases this with rfl|rfl|rfl|rfl|rfl
   .exact ⟨2,rfl,by decide,by decide⟩
   .exact ⟨3,rfl,by decide,by decide⟩
   .exact ⟨4,rfl,by decide,by decide⟩
   .exact ⟨6,rfl,by decide,by decide⟩
   .exact ⟨12,rfl,by decide,by decide⟩
  refine⟨_,_,_,.int th,rfl,rfl,SqL.of (K4 b _ ac (nm1 npb.symm)),zEj d0 hth,?_⟩;have K34:Kp [p] H3 H4:=Kp.trans (Kp.new Kp.refl fb) K4;have K14:Kp [p] H1 H4:=K2.trans (K3.trans K34);have hl4:Txs H4 l ns:=(K3.trans K34) l _ hl (nm1 npl.symm);refine⟨_,rfl,_,rfl,_,rfl,_,rfl,p,m,way,th,rfl,P4,m0,by lia,th2,th12,λc ts H5 fc I5 ft5 tl5 ok5 P5 K5=>?_⟩;have npc:p≠c:=by obtain⟨x,y,e,_⟩:=P4;exact ae fc e
  have hl5:Txs H5 l ns:=K5 l _ hl4 (nm1 npl.symm);have nlc:l≠c:=ae fc hl4;have K05:Kp [p] H H5:=K1.trans (K14.trans K5);have fcH:Fre H c:=(K1.trans K14).fre fc (nm1 npc.symm);have flH:Fre H l:=K1.fre fl (nm1 npl.symm);refine⟨_,rfl,(by walk_at"ln"),λe he=>?_⟩;have fe:Fre H5 e:=he;have npe:p≠e:=by obtain⟨x,y,q,_⟩:=P5;exact ae fe q
  have k5e:Kp [] H5 (upd H5 e (.lst [])):=Kp.new Kp.refl fe;have I5e:=I5.kp k5e (by simp) (by simp);refine zHu (xs:=ts.map λt=>V.ref t.2) (SqL.of I5e.top) (SqL.of ac) λbb hbb=>?_;refine .inr ⟨bb,rfl,?_⟩;refine⟨_,rfl,p,3,rfl,P5.kp k5e (by simp),by decide,by decide,λdd H6 dd0 dd1 P6 K6=>?_⟩;have K56:Kp [p] H5 H6:=Kp.trans (k5e.weak (by simp)) K6;have ntp:∀t∈ts,t.2∉[p]:=λt ht=>nm1 (by obtain⟨x,y,q,_⟩:=P4;exact(ae (ft5 t ht) q).symm);have I6:ITs H6 c ts:=I5e.kp K6 (nm1 npc.symm) ntp
  have hmul:(if bb=true then(1:Int)else 0)*dd=0\/((if bb=true then(1:Int)else 0)*dd=dd/\ts≠[]):=by
   cases bb with
   |false=>left;rw[qAB (by decide)];lia
   |true=>right;rw[qAC rfl];exact⟨by lia,λz=>hbb rfl (by rw[z];rfl)⟩
  have hml:(if bb=true then(1:Int)else 0)=0\/(if bb=true then(1:Int)else 0)=1:=by cases bb<;>simp
  generalize (if bb=true then(1:Int)else 0)=n01 at hmul hml ⊢
  refine⟨_,_,rfl,rfl,?_,_,rfl,by rcases hmul with z|⟨z,_⟩<;>lia,by rcases hmul with z|⟨z,_⟩<;>lia,zDw (lo:=0) (n:=(n01*dd).toNat) (λi σ H7=>∃(o7 o8:Option V) (ts':List ((Int×Int)×Addr)),σ=[some (.ref p),some (.int mo),some (.int m),some (.ref l),some (.int way),some (.int th),some (.ref c),o7,o8]/\zB9 H7 p/\Kp [p] H H7/\Txs H7 l ns/\ITs H7 c ts'/\(∀t∈ts',t∈ts)/\ts'.length=ts.length+i)
   ⟨_,_,ts,rfl,P6,K05.trans K56,K56 l _ hl5 (nm1 npl.symm),I6,λt h=>h,rfl⟩ ?_ ?_⟩
  .rcases hml with z|z
   .exact Or.inl ⟨by lia,by lia⟩
   .exact Or.inl ⟨by lia,by lia⟩
  .rintro i σ H7 hi ⟨o7,o8,ts',rfl,P7,K7,hl7,I7,s7,e7⟩
   have ne:ts≠[]:=by
    rcases hmul with z|⟨_,z⟩
    .rw [z]at hi;exact absurd hi (Nat.not_lt_zero _)
    .exact z
   have pos:0<ts'.length:=by
    have:=qB1.mpr ne;lia
   have ntp':∀t∈ts',t.2∉[p]:=λt ht=>ntp t (s7 t ht);have nlc':l≠c:=nlc;refine⟨_,rfl,.inl ⟨rfl,_,SqL.of I7.top⟩,_,rfl,_,rfl,_,_,rfl,.inl (SqL.of I7.top),_,_,rfl,rfl,p,_,rfl,P7,?_,?_,λd1 H8 x0 x1 P8 K8=>?_⟩
   .lia
   .rw [qAD];have:i<3:=by rcases hmul with z|⟨z,_⟩<;>lia
    lia
   have I8:ITs H8 c ts':=I7.kp K8 (nm1 npc.symm) ntp';refine⟨_,rfl,_,rfl,_,rfl,_,_,rfl,.inl (SqL.of I8.top),p,_,rfl,P8,?_,?_,λd2 H9 y0 y1 P9 K9=>?_⟩
   .rw [qAD];lia
   .rw [qAD];have:i<3:=by rcases hmul with z|⟨z,_⟩<;>lia
    lia
   have I9:ITs H9 c ts':=I8.kp K9 (nm1 npc.symm) ntp';rw[qAD]at x1 y1;obtain⟨t,et⟩:∃t,ts'[d2.toNat]?=some t:=⟨ts'[d2.toNat]'(by lia),qAq (by lia)⟩;have evt:(ts'.map λt=>V.ref t.2)[d2.toNat]?=some (V.ref t.2):=by rw[qAY,et];rfl
   refine⟨_,_,_,.ref t.2,rfl,rfl,SqL.of I9.top,zEj y0 evt,_,_,_,_,rfl,rfl,I9.top,?_,x0,?_,?_⟩
   .rw [qAD,qAK];have:i<3:=by rcases hmul with z|⟨z,_⟩<;>lia
    lia
   .rw [qAD];lia
   .have hp:=ST.ins_perm ts' d1.toNat t;refine⟨_,_,ts'.take d1.toNat++t::ts'.drop d1.toNat,rfl,P9.kp (M:=[c]) (Kp.put Kp.refl (by simp)) (nm1 npc),Kp.new (K7.trans (K8.trans K9)) fcH,(ad nlc).trans ((K8.trans K9) l _ hl7 (nm1 npl.symm)),⟨?_,λu hu=>?_⟩,λu hu=>?_,?_⟩
    .rw [ac,eh (λt:(Int×Int)×Addr=>V.ref t.2)]
    .have hu':u∈ts':=by
      rcases qAT.mp (hp.mem_iff.mp hu)with z|z
      .rw [z];exact qAJ et
      .exact z
     exact(ad (zCp (I9.row u hu') I9.top (λy=>nomatch y))).trans (I9.row u hu')
    .rcases qAT.mp (hp.mem_iff.mp hu)with z|z
     .rw [z];exact s7 t (qAJ et)
     .exact s7 u z
    .rw [hp.length_eq,qAa,e7];lia
  .rintro σ H7 ⟨o7,o8,ts',rfl,P7,K7,hl7,I7,s7,e7⟩;have hts:ts'.length<=192:=by rcases hmul with z|⟨z,_⟩<;>lia
   refine⟨(by walk_at"ln"),λg hg=>?_⟩;have fg:Fre H7 g:=hg;have npg:p≠g:=by obtain⟨x,y,q,_⟩:=P7;exact ae fg q
   have nlg:l≠g:=ae fg hl7;have ncg:c≠g:=ae fg I7.top;have fgH:Fre H g:=K7.fre fg (nm1 npg.symm);have k7g:Kp [] H7 (upd H7 g (.lst [])):=Kp.new Kp.refl fg;have ntp':∀t∈ts',t.2∉[p]:=λt ht=>ntp t (s7 t ht)
   refine⟨_,rfl,_,rfl,by lia,by lia,zDw (lo:=0) (n:=m.toNat) (λi σ H8=>∃(o7:Option V)(Is:List Int),σ=[some (.ref p),some (.int mo),some (.int m),some (.ref l),some (.int way),some (.int th),some (.ref c),o7,some (.ref g)]/\zB9 H8 p/\Kp [p] H H8/\Txs H8 l ns/\ITs H8 c ts'/\H8 g=some (.lst (Is.map V.int))/\du Is i)
    ⟨_,[],rfl,P7.kp k7g (by simp),Kp.new K7 fgH,k7g l _ hl7 (by simp),I7.kp k7g (by simp) (by simp),ac,rfl,qBC,(λx h=>nomatch h)⟩ ?_ ?_⟩
   .rintro i σ H8 hi ⟨o7,Is,rfl,P8,K8,hl8,I8,hg8,S8⟩;refine⟨_,rfl,.inl ⟨rfl,_,SqL.of hg8⟩,_,rfl,_,rfl,_,_,rfl,rfl,p,_,rfl,P8,?_,?_,λd1 H9 x0 x1 P9 K9=>?_⟩
    .lia
    .lia
    have hg9:=K9 g _ hg8 (nm1 npg.symm);refine⟨_,rfl,_,_,_,_,rfl,rfl,hg9,?_,x0,?_,?_⟩
    .rw [qAD,S8.len,qAK];lia
    .rw [qAD,S8.len];lia
    .have e1:(Is.map V.int).take d1.toNat++V.int (0+(i:Int))::(Is.map V.int).drop d1.toNat=(Is.take d1.toNat++(i:Int)::Is.drop d1.toNat).map V.int:=by
      rw[Int.zero_add];exact eh V.int Is d1.toNat (i:Int)
     rw[e1];have hl9:=K9 l _ hl8 (nm1 npl.symm);have I9:=I8.kp K9 (nm1 npc.symm) ntp';exact⟨_,_,rfl,P9.kp (M:=[g]) (Kp.put Kp.refl (by simp)) (nm1 npg),Kp.new (K8.trans K9) fgH,(ad nlg).trans hl9,⟨(ad ncg).trans I9.top,λu hu=>(ad (zCp (I9.row u hu) hg9 (λy=>nomatch y))).trans (I9.row u hu)⟩,ac,S8.put _⟩
   .rintro σ H8 ⟨o7,Is,rfl,P8,K8,hl8,I8,hg8,S8⟩;rw[<-en]at S8;have hmn:(ns.length:Int)=m:=by rw[en];lia
    refine⟨_,rfl,_,rfl,_,rfl,⟨_,SqL.of I8.top⟩,λB hB=>zBc (ts'.map λt=>V.ref t.2) (λi ys τ H9=>∃ks:List (List Str×Addr),(∃o0 o1,τ=[o0,o1,some (.ref l),some (.ref g)])/\ys=(ks.map λq=>V.ref q.2)/\ks.length=i/\(∀q∈ks,H9 q.2=some (.tup (q.1.map V.str))/\Fre H q.2/\∃(a b:Str)(x y:Nat),q.1=[a,b]/\x<y/\(cn ns Is)[x]?=some a/\(cn ns Is)[y]?=some b)/\Kp [] H8 H9/\H9 B=some (.lst ys)) ⟨[],⟨_,_,rfl⟩,rfl,rfl,(λq h=>nomatch h),Kp.new Kp.refl hB,ac⟩ (λi ys τ H9 ⟨_,_,_,_,_,k9,_⟩=>SqL.of (k9 c _ I8.top (by simp))) ?_ ?_⟩
    .rintro i v ys τ H9 hv ⟨ks,⟨o0,o1,rfl⟩,rfl,ek,hk,k9,h9⟩;obtain⟨t,eq,rfl⟩:=ui hv;have mt:=qAJ eq;have okt:=ok5 t (s7 t mt);have hrow:H9 t.2=some (.tup [.int t.1.1,.int t.1.2]):=k9 t.2 _ (I8.row t mt) (by simp);refine⟨_,_,rfl,.inl (.inl hrow),rfl,_,_,rfl,_,_,rfl,rfl,?_⟩;obtain⟨s1,n1,a1,a2,a3,a4⟩:=fF S8 okt.1 (by lia);obtain⟨s2,n2,b1,b2,b3,b4⟩:=fF S8 (i:=t.1.2) (by lia) (by lia);have hl9:=k9 l _ hl8 (by simp);have hg9:=k9 g _ hg8 (by simp);have ai:∀{x:Int}{s:Int},0<=x->Is[x.toNat]?=some s->atI (Is.map V.int) x=some (.int s):=λh0 h=>zEj h0 (by rw[qAY,h];rfl);have an:∀{x:Int}{n:Str},0<=x->ns[x.toNat]?=some n->atI (ns.map V.str) x=some (.str n):=λh0 h=>zEj h0 (by rw[qAY,h];rfl);refine⟨_,rfl,_,rfl,_,rfl,_,_,_,_,rfl,rfl,SqL.of hg9,ai okt.1 a1,_,_,_,_,rfl,rfl,SqL.of hl9,an a2 a3,_,rfl,_,rfl,_,rfl,_,_,_,_,rfl,rfl,SqL.of hg9,ai (by lia) b1,_,_,_,_,rfl,rfl,SqL.of hl9,an b2 b3,(by walk_at"ln"),λu hu=>?_⟩;have fu:Fre H9 u:=hu;have nBu:B≠u:=ae fu h9;have hu8:Fre H8 u:=k9.fre fu (by simp);have npu:p≠u:=by obtain⟨x,y,q,_⟩:=P8;exact ae hu8 q
     have fuH:Fre H u:=K8.fre hu8 (nm1 npu.symm);refine⟨(ad nBu).trans h9,?_,ks++[([n1,n2],u)],⟨_,_,rfl⟩,?_,by rw[qAN,ek];rfl,λq hq=>?_,Kp.new (Kp.new k9 (k9.fre fu (by simp))) hB,ac⟩
     .have:=(qAL.mp eq).1;rw[qAD,ek,qAK];lia
     .rw [qAP];rfl
     .rcases qAR.mp hq with z|z
      .obtain ⟨z1,z2⟩:=hk q z;exact⟨(ad (zCp z1 h9 (λy=>nomatch y))).trans ((ad (ae fu z1)).trans z1),z2⟩
      .rw [qAO.mp z];exact⟨(ad nBu.symm).trans ac,fuH,n1,n2,t.1.1.toNat,t.1.2.toNat,rfl,by lia,a4,b4⟩
    .rintro ys τ H9 ⟨ks,_,rfl,ek,hk,k9,h9⟩;rw[qAD]at ek;refine⟨(by walk_at"ln"),λt ht=>?_⟩;have ft:Fre H9 t:=ht;have k10:Kp [] H9 (upd H9 t (.tup [.ref l,.ref B])):=Kp.new Kp.refl ft;have ft8:Fre H8 t:=k9.fre ft (by simp);have npt:p≠t:=by obtain⟨x,y,q,_⟩:=P8;exact ae ft8 q
     have npB:p≠B:=by obtain⟨x,y,q,_⟩:=P8;exact ae (show Fre H8 B from hB) q
     have rnd:=n9 nd S8
     have rin:∀{x:Nat}{a:Str},(cn ns Is)[x]?=some a->a∈ns:=λ{x a} h=>by
      obtain⟨s,hs,e⟩:=qAe.mp (qAJ h);have:=S8.lt s hs;rw[<-e,qBg,qAq (by lia)];exact qB8 _
     refine k t l B ns ks (λn=>(cn ns Is).idxOf n) _ (by rw[en];lia) (by lia) ac (K8.fre ft8 (nm1 npt.symm)) flH (K8.fre (show Fre H8 B from hB) (nm1 npB.symm)) (λq hq=>(hk q hq).2.1) ((k9.trans k10) l _ hl8 (by simp)) ⟨k10 B _ h9 (by simp),λq hq=>k10 _ _ (hk q hq).1 (by simp),λq hq=>?_⟩ ⟨nm,nd,by rw[en];lia,by lia,λq hq x hx=>?_,λq hq=>?_⟩ (P8.kp (k9.trans k10) (by simp)) (K8.trans ((k9.trans k10).weak (by simp)))
     .obtain ⟨a,b,x,y,e,_⟩:=(hk q hq).2.2;exact⟨a,b,e⟩
     .obtain ⟨a,b,i,j,e,_,h1,h2⟩:=(hk q hq).2.2;rw[e]at hx;rcases qAT.mp hx with z|z
      .rw [z];exact rin h1
      .rw [qAO.mp z];exact rin h2
     .obtain ⟨a,b,i,j,e,hij,h1,h2⟩:=(hk q hq).2.2;have e1:fst q=a:=by unfold fst;rw[e];rfl
      have e2:snd q=b:=by unfold snd;rw[e];rfl
      rw[e1,e2,zH6 rnd h1,zH6 rnd h2];exact hij
end
structure Mth(P:Program)(w:World)(K:PySem.W.Frag)(mg:Str->Option Value)(base:Heap)(C:Addr)(m:Str)(k:Nat)(ps:List Str)(sp:Sp):Prop where
 to:∃(f:Addr)(fd:FuncData),px K C m f/\zDe K fd ps []/\ak P w K mg base CX0 k f fd ps sp
theorem gL{m:Str}{k:Nat}{ps:List Str}{o e:Expr}{es:List Expr}{apos pos:Pos}{ta:TE}{t:TA}{pl:Sem Bool}(M:Mth X.prog X.w X.K X.mg X.base C m k ps sp)(c:Cls X.K C)(hr:aB k X.A)(he:PE X o ta)(ha:PA X (e::es) t)
  (hst:starEach (e::es) X.env=(false,eval e X.env)::starEach es X.env:=by rfl) (hpl:(backTo pos (starEach es X.env)).any (·.1)=false:=by rfl)
  (ht:eval (.Call (.Attribute o m apos) (e::es) [] pos) X.env=(do
   let ov<-eval o X.env
   standAt apos.atName
   let(f,first)<-holding [ov] (getMethod ov m pl)
   callWith pos f first (backTo pos (starEach (e::es) X.env)) (backToKw pos (keywordEach [] X.env))):=by rfl):PE X (.Call (.Attribute o m apos) (e::es) [] pos) (i9 C m sp [] E0 ta t):=by
 obtain⟨f,fd,h1,h2,h3⟩:=M.to;exact oU he c h1 h3 hr h2 .nil jl ha hst hpl ht
theorem dm{m:Str}{k:Nat}{ps:List Str}{o:Expr}{apos:Pos}{ta:TE}{pl:Sem Bool}(M:Mth X.prog X.w X.K X.mg X.base C m k ps sp)(c:Cls X.K C)(hr:aB k X.A)(he:PE X o ta)
  (ht:eval (.Call (.Attribute o m apos) [] [] pos) X.env=(do
   let ov<-eval o X.env
   standAt apos.atName
   let(f,first)<-holding [ov] (getMethod ov m pl)
   callWith pos f first (backTo pos (starEach [] X.env)) (backToKw pos (keywordEach [] X.env))):=by rfl):PE X (.Call (.Attribute o m apos) [] [] pos) (i9 C m sp [] E0 ta cz):=by
 obtain⟨f,fd,h1,h2,h3⟩:=M.to;exact oC he c h1 h3 hr h2 .nil jl ht
structure Mkr(P:Program)(w:World)(K:PySem.W.Frag)(mg:Str->Option Value)(base:Heap)(C:Addr)(x:Str)(k:Nat)(ps:List Str)(sp:Sp):Prop where
 to:∃(f:Addr)(fd:FuncData),Mk K C f/\mg x=some (.ref C)/\zDe K fd ps []/\ak P w K mg base CX0 k f fd ps sp
theorem nV{k:Nat}{ps:List Str}{e:Expr}{es:List Expr}{p:Pos}{t:TA}(M:Mkr X.prog X.w X.K X.mg X.base C x k (("self": Str)::ps) sp)(hr:aB (k+1) X.A)(hg:Gl X x)(ha:PA X (e::es) t)
  (hdb:(x==("__debug__": Str))=false:=by decide) (he:starEach (e::es) X.env=(false,eval e X.env)::starEach es X.env:=by rfl) (hpl:(backTo pos (starEach es X.env)).any (·.1)=false:=by rfl):PE X (.Call (.Name x p) (e::es) [] pos) (qW C sp [] E0 t):=by
 obtain⟨f,fd,h1,h2,h3,h4⟩:=M.to;exact pQ h1 h4 hr hg h2 h3 .nil jl ha hdb he hpl
def TA(qs:List (List Str×Addr))(a b:Str):Prop:=∃q∈qs,fst q=a/\snd q=b
inductive Way(qs:List (List Str×Addr)):Str->Str->Prop
 |one {a b:Str}:TA qs a b->Way qs a b
 |more {a b c:Str}:Way qs a b->TA qs b c->Way qs a c
theorem TA.to(two:∀q∈qs,∃a b,q.1=[a,b])(qin:∀q∈qs,∀x∈q.1,x∈ns){a b:Str}(h:TA qs a b):a∈ns/\b∈ns:=by
 obtain⟨q,hq,rfl,rfl⟩:=h;obtain⟨a,b,e⟩:=two q hq;unfold fst snd;rw[e];exact⟨qin q hq a (by rw[e];simp),qin q hq b (by rw[e];simp)⟩
theorem Way.to(two:∀q∈qs,∃a b,q.1=[a,b])(qin:∀q∈qs,∀x∈q.1,x∈ns){a b:Str}(h:Way qs a b):a∈ns/\b∈ns:=by
 induction h with
 |one h=>exact h.to two qin
 |more _ h ih=>exact⟨ih.1,(h.to two qin).2⟩
theorem uU{j:Addr}{J:JR}{r:Str->Nat}(A:aD C H j J)(G:mC J.ns qs r)(hz:∀k,k∈J.zs.map (·.1)↔k∈qs.map (·.1))(hn:n∈J.ns):x∈J.S n↔Way qs x n:=by
 have tk:∀n x,x∈told J.zs n↔TA qs x n:=λn x=>by
  rw[zJq];constructor
  .rintro ⟨q,h1,h2,h3⟩;obtain⟨q',h4,h5⟩:=qAe.mp ((hz q.1).mp (qAe.mpr ⟨q,h1,rfl⟩));obtain⟨e1,e2⟩:=gO h5;exact⟨q',h4,e1.trans h3,e2.trans h2⟩
  .rintro ⟨q,h1,h2,h3⟩;obtain⟨q',h4,h5⟩:=qAe.mp ((hz q.1).mpr (qAe.mpr ⟨q,h1,rfl⟩));obtain⟨e1,e2⟩:=gO h5;exact⟨q',h4,e2.trans h3,e1.trans h2⟩
 have tin:∀n x,TA qs x n->x∈J.ns/\r x<r n:=λn x h=>by
  have hT:=(tk n x).mpr h;obtain⟨q,q1,q2,q3⟩:=zJq.mp hT;obtain⟨a,b,e⟩:=A.prs.two q q1;refine⟨?_,?_⟩
  .rw [<-q3];refine A.zin q q1 _ ?_;unfold fst;rw[e];simp
  .obtain ⟨q',h1,h2,h3⟩:=h;rw[<-h2,<-h3];exact G.rk q' h1
 constructor
 .have:∀(b:Nat)(n:Str),r n<=b->n∈J.ns->∀x,x∈J.S n->Way qs x n:=by
   intro b
   induction b with
   |zero=>
    intro n hb hn x hx;rcases(A.mem n hn x).mp hx with z|⟨m,z,_⟩
    .exact .one ((tk n x).mp z)
    .have:=(tin n m ((tk n m).mp z)).2;lia
   |succ b ih=>
    intro n hb hn x hx;rcases(A.mem n hn x).mp hx with z|⟨m,z,z'⟩
    .exact .one ((tk n x).mp z)
    .have h1:=tin n m ((tk n m).mp z);exact .more (ih m (by lia) h1.1 x z') ((tk n m).mp z)
  exact this (r n) n (qAG _) hn x
 .intro w
  induction w with
  |one h=>exact(A.mem _ hn _).mpr (.inl ((tk _ _).mpr h))
  |more _ h ih=>exact(A.mem _ hn _).mpr (.inr ⟨_,(tk _ _).mpr h,ih (tin _ _ h).1⟩)
structure DS(H0 H:Hp)(d:Addr)(ns:List Str)(la:Str->Addr)(L:Str->List Str):Prop where
 top:H d=some (.dK (dT1 ns λn=>.ref (la n)))
 row:∀n∈ns,aK H (la n) (L n)
 ne:∀n∈ns,la n≠d
 fr:Fre H0 d
 frs:∀n∈ns,Fre H0 (la n)
theorem kW{K:PySem.W.Frag}{c e:Addr}{xs:List V}{Q:VK}(h1:SqL K H c xs)(h2:SqL K H e [])(h:Q (.bl (decide (xs≠[]))) H):aO K 8 false (.ref c) (.ref e) H Q\/aP K true (.ref c) (.ref e) H Q:=by
 by_cases z:xs=[]
 .subst z;exact .inl ⟨c,e,_,_,rfl,rfl,h1,h2,rfl,(λi x y h=>by simp at h),h⟩
 .rw [qAV z]at h;exact .inr ⟨c,e,_,_,rfl,rfl,h1,h2,λy=>z (qBx.mp y),h⟩
def aU(H:Hp)(a:Addr):Nat:=match H a with
 |some (.lst xs)=>xs.length
 |some (.dK kvs)=>kvs.length
 |_=>0
theorem zI6{a:Addr}{xs:List V}(h:H a=some (.lst xs)):aU H a=xs.length:=by unfold aU;rw[h]
theorem eY{a:Addr}{kvs:List (Key×V)}(h:H a=some (.dK kvs)):aU H a=kvs.length:=by unfold aU;rw[h]
theorem gp(B:List Str)(x:Str)(g:Str->V):dT1 (B++[x]) g=dT1 B g++[(.inr x,g x)]:=by unfold dT1;rw[qAP];rfl
theorem zEa(B:List Str)(g:Str->V):(dT1 B g).length=B.length:=by unfold dT1;rw[qAD]
structure DR(H:Hp)(d:Addr)(ns:List Str)(la:Str->Addr)(L:Str->List Str):Prop where
 top:H d=some (.dK (dT1 ns λn=>.ref (la n)))
 row:∀n∈ns,aK H (la n) (L n)
theorem DS.rd{H0:Hp}{la:Str->Addr}{L:Str->List Str}(D:DS H0 H d ns la L):DR H d ns la L:=⟨D.top,D.row⟩
theorem DR.kp0{la:Str->Addr}{L:Str->List Str}(D:DR H d ns la L)(k:Kp [] H H'):DR H' d ns la L:=⟨k d _ D.top (by simp),λn hn=>k _ _ (D.row n hn) (by simp)⟩
theorem DR.get{la:Str->Addr}{L:Str->List Str}(D:DR H d ns la L){y:Str}(hy:y∈ns):aH H d (.str y) (some (.ref (la y))):=by
 have:=aH.k (k:=Sum.inr y) D.top;rw[zCh,qAC hy]at this;exact this
def zB0(qs:List (List Str×Addr))(n:Str):List Str:=(qs.filter λq=>decide (fst q=n)).map snd
theorem zF0{y:Str}:y∈zB0 qs n↔TA qs n y:=by
 unfold zB0 TA;simp only[qAe,qBZ,qC5];exact⟨λ⟨q,⟨a,b⟩,c⟩=>⟨q,a,b,c⟩,λ⟨q,a,b,c⟩=>⟨q,⟨a,b⟩,c⟩⟩
theorem zFy(qs:List (List Str×Addr))(n:Str):(zB0 qs n).length<=qs.length:=by
 unfold zB0;rw[qAD];exact qBe _ _
structure NR(H:Hp)(d:Addr)(ns:List Str)(na:Str->Addr)(f:Str->List Str):Prop where
 top:H d=some (.dK (dT1 ns λn=>.ref (na n)))
 row:∀n∈ns,Txs H (na n) (f n)
theorem NR.kp{M:List Addr}{na:Str->Addr}{f:Str->List Str}(D:NR H d ns na f)(k:Kp M H H')(h1:d∉M)(h2:∀n∈ns,na n∉M):NR H' d ns na f:=⟨k d _ D.top h1,λn hn=>k _ _ (D.row n hn) (h2 n hn)⟩
theorem NR.get{na:Str->Addr}{f:Str->List Str}(D:NR H d ns na f){y:Str}(hy:y∈ns):aH H d (.str y) (some (.ref (na y))):=by
 have:=aH.k (k:=Sum.inr y) D.top;rw[zCh,qAC hy]at this;exact this
structure BK(qs:List (List Str×Addr))(ns:List Str)(n:Str)(B W:List Str):Prop where
 nd:B.Nodup
 sub:∀x∈B,x∈ns
 way:∀x∈B,Way qs n x
 wl:∀x∈W,Way qs n x
 c0:∀y,TA qs n y->y∈B\/y∈W
 cl:∀x∈B,∀y,TA qs x y->y∈B\/y∈W
 cap:W.length+307*(20-B.length)<=6447
theorem BK.start(h:qs.length<=306):BK qs ns n [] (zB0 qs n) :=
 ⟨qBC,(λx h=>nomatch h),(λx h=>nomatch h),λx h=>.one (zF0.mp h),λy h=>.inr (zF0.mpr h),(λx h=>nomatch h),by
  have:=zFy qs n;simp only[qBB];lia⟩
theorem BK.old{x0:Str}{B W:List Str}(b:BK qs ns n B (W++[x0]))(h:x0∈B):BK qs ns n B W:=by
 have mv:∀y,(y∈B\/y∈W++[x0])->y∈B\/y∈W:=λy hy=>by
  rcases hy with z|z
  .exact .inl z
  .rcases qAR.mp z with z|z
   .exact .inr z
   .rw [qAO.mp z];exact .inl h
 refine⟨b.nd,b.sub,b.way,λx hx=>b.wl x (qAp _ hx),λy hy=>mv y (b.c0 y hy),λx hx y hy=>mv y (b.cl x hx y hy),?_⟩;have:=b.cap;rw[qAN,qAn]at this;lia
theorem BK.new{x0:Str}{B W:List Str}(b:BK qs ns n B (W++[x0]))(h:x0∉B)(hx:x0∈ns)(hn:ns.length<=20)(hq:qs.length<=306):BK qs ns n (B++[x0]) (W++zB0 qs x0)/\(W++zB0 qs x0).length+307*(20-(B++[x0]).length)<W.length+1+307*(20-B.length):=by
 have nd:(B++[x0]).Nodup:=qBX.mpr ⟨b.nd,by simp,λa ha d hd=>by
  rw[qAO.mp hd];exact λz=>h (z▸ha)⟩
 have sub:∀x∈B++[x0],x∈ns:=λx h=>by
  rcases qAR.mp h with z|z
  .exact b.sub x z
  .rw [qAO.mp z];exact hx
 have w0:Way qs n x0:=b.wl x0 (by simp)
 have mv:∀y,(y∈B\/y∈W++[x0])->y∈B++[x0]\/y∈W++zB0 qs x0:=λy hy=>by
  rcases hy with z|z
  .exact .inl (qAp _ z)
  .rcases qAR.mp z with z|z
   .exact .inr (qAp _ z)
   .exact .inl (qAs _ z)
 have less:(W++zB0 qs x0).length+307*(20-(B++[x0]).length)<W.length+1+307*(20-B.length):=by
  have h1:=zB3 nd sub;have h2:=zFy qs x0;simp only[qAN,qAn]at *
  lia
 refine⟨⟨nd,sub,λx hx=>?_,λx hx=>?_,λy hy=>mv y (b.c0 y hy),λx hx y hy=>?_,?_⟩,less⟩
 .rcases qAR.mp hx with z|z
  .exact b.way x z
  .rw [qAO.mp z];exact w0
 .rcases qAR.mp hx with z|z
  .exact b.wl x (qAp _ z)
  .exact .more w0 (zF0.mp z)
 .rcases qAR.mp hx with z|z
  .exact mv y (b.cl x z y hy)
  .rw [qAO.mp z]at hy;exact .inr (qAs _ (zF0.mpr hy))
 .have:=b.cap;rw[qAN,qAn]at this;lia
theorem BK.all{B:List Str}(b:BK qs ns n B [])(x:Str):x∈B↔Way qs n x:=by
 refine⟨b.way x,λh=>?_⟩
 induction h with
 |one h=>exact(b.c0 _ h).elim id (λz=>nomatch z)
 |more _ h ih=>exact(b.cl _ ih _ h).elim id (λz=>nomatch z)
theorem gJ{b:Addr}{la:Str->Addr}(h:n∉ns):dT1 ns (λn=>V.ref (la n))++[(Sum.inr n,V.ref b)]=dT1 (ns++[n]) (λx=>V.ref (if x=n then b else la x)):=by
 rw[gp,qAC rfl];congr 1;exact zH9 λx hx=>by rw[qAB (show¬x=n from λz=>h (z▸hx))]
section
inductive bw(vs:List V)(H:Hp)(Q:VK)(u_3:XK):Prop
 |mk:∀(l m:Addr)(ns:List Str) (qs:List (List Str×Addr)),vs=[.ref l,.ref m]->Txs H l ns->bA H m qs->ns.Nodup->ns.length<=20->qs.length<=306->(∀q∈qs,∀x∈q.1,x∈ns)->(∀d la L H',DS H H' d ns la L->(∀n∈ns,(L n).Nodup/\∀x,x∈L n↔Way qs n x)->Kp [] H H'->Q (.ref d) H')->bw vs H Q u_3
abbrev zG4:Stmt:=top 59
theorem zC7:ag ["_law_names_here","_law_orders","_law_near","_law_name","_law_found","_law_waiting","_law_here"] ["_law_names_here","_law_orders"] (zAg zG4):=fnS
theorem kP(F:Fun K "_law_behind" "_law_behind" zG4 f fd)(T:Txt K mg):ak P w K mg base CX0 1 f fd ["_law_names_here","_law_orders"] bw:=by
 refine F.ok zC7 (λvs H Q E h=>?_) (λcdv A outer s H vs Q E hr h=>?_)
 .obtain ⟨l,m,ns,qs,rfl,_⟩:=h;rfl
 .obtain ⟨l,m,ns,qs,rfl,hl,hm,hN,hn,hz,hq,k⟩:=h;have hu:=zF2 hr
  refine⟨_,(zAc (psS (i:=2) zC7.nd zBv) (zAc (zA7 qAc rfl (zAq (pv 0)) (pgN (i:=3) zC7.nd)
    (zAe (zD4 hu (pv 2) (pv 3) (zBn rfl (zBp (sc:=zAg zG4) rfl (by decide +kernel)) (ah.own (x:="_law_one") (ah.own (x:="_law_other") (dtk (i:=3) rfl ah.nil))) (zAq (pv 1)) (λ_ _ _ _=>(eX (K:=K) (n:=2) rfl (zBf (pgB (i:=0)) (zBf (pgB (i:=1)) zD5)))) (λ_ _ _ _=>(zCl (zAr zD8 (pv 0) (pv 2) (zAv _)))) (λ_ _ _ _=>(pv 1))) rfl)))
   (zAc (psS (i:=4) zC7.nd zBv)
   (zAc (zA7 qAc rfl (zAq (pv 0)) (pgN (i:=3) zC7.nd)
    (zAc (zD4 hu (pv 4) (pv 3) zBv rfl)
    (zAc (psS (i:=5) zC7.nd (zA8 zBu (by rfl) T.z_list zCe (zAa (zB8 hu (pv 2) (pv 3) (fun _ _=>rfl)) zAb)))
    (zAe (zJf qAc (zAr (zEt hr) (pv 5) (zAj zAb) (zAv _))
     (zAc (psS (i:=6) zC7.nd (nJ qAx PySem.F.slot_list_pop PySem.F.type_list_pop nG (pv 5)))
     (zAe (zBk (zEg (zDa hu (pv 6) (zB8 hu (pv 4) (pv 3) (fun _ _=>rfl))))
      (zAc (zD4 hu (zB8 hu (pv 4) (pv 3) (fun _ _=>rfl)) (pv 6) zEs rfl)
      (zAe (zA2 (zD6 qAx qCi qCj zEv (pv 5) (zAa (zB8 hu (pv 2) (pv 6) (λ_ _=>rfl)) zAb)))))
      zAs))))))))
   (zAe (zAw (pv 4))))))),?_⟩
  refine sk ?_;intro _ _ _ _ _;refine λd0 hd0=>?_;have fd0:Fre H d0:=hd0
  refine⟨_,rfl,_,rfl,⟨_,SqL.of ((Kp.new (M:=[]) Kp.refl fd0) l _ hl (by simp))⟩,zA3 (λi σ H2=>(∃o3 o4 o5 o6:Option V,σ=[some (.ref l),some (.ref m),some (.ref d0),o3,o4,o5,o6])/\Kp [] H H2/\∃na,NR H2 d0 (ns.take i) na (zB0 qs)) ⟨⟨_,_,_,_,rfl⟩,Kp.new Kp.refl fd0,λ_=>0,ac,(λn h=>nomatch h)⟩ (λi σ H2 _ ⟨_,k2,_⟩=>SqL.of (k2 l _ hl (by simp))) ?_ ?_⟩
  .rintro i v σ H2 hv ⟨⟨o3,o4,o5,o6,rfl⟩,k2,na,N⟩;obtain⟨n,en,rfl⟩:=zA9 hv;have ni:=zE4 hN en;have hm2:=hm.kp k2 (by simp) (by simp)
   refine⟨_,rfl,_,rfl,⟨_,SqL.of hm2.top⟩,λB hB=>zBt (qs.map λq=>V.ref q.2) (λi ys τ H3=>(∃o0 o1,τ=[o0,o1,some (.str n)])/\ys=(zB0 (qs.take i) n).map V.str/\H3=upd H2 B (.lst ys)) ⟨⟨_,_,rfl⟩,rfl,rfl⟩ (λi ys τ H3 ⟨_,_,z⟩=>by subst z;exact SqL.of ((Kp.new (M:=[]) Kp.refl hB) _ _ hm2.top (by simp))) ?_ ?_⟩
   .rintro i v ys τ H3 hv ⟨⟨o0,o1,rfl⟩,rfl,rfl⟩;obtain⟨q,eq,rfl⟩:=eS hv;have mq:=qAJ eq;obtain⟨x,y,exy⟩:=hm.two q mq
    have hrow:(upd H2 B (.lst ((zB0 (qs.take i) n).map V.str))) q.2=some (.tup [.str x,.str y]):=by
     have:=(Kp.new (l:=B) (o:=.lst ((zB0 (qs.take i) n).map V.str)) (M:=[]) Kp.refl hB) q.2 _ (hm2.row q mq) (by simp);rw[exy]at this;exact this
    have e1:fst q=x:=(by unfold fst;rw[exy];rfl);have e2:snd q=y:=(by unfold snd;rw[exy];rfl);refine⟨_,_,rfl,.inl (.inl hrow),rfl,_,_,rfl,_,_,rfl,rfl,?_⟩;refine⟨_,rfl,_,rfl,rfl,_,rfl,aA (λc=>?_) (λc=>?_)⟩
    .have c':x=n:=by simpa using c
     refine⟨_,rfl,ac,?_,⟨_,_,rfl⟩,?_,zB7⟩
     .have:=zFy (qs.take i) n;rw[qAU]at this;rw[qAD,qAK];lia
     .have:zB0 (qs.take (i+1)) n=zB0 (qs.take i) n++[y]:=by
       unfold zB0;rw[zHa eq (qAV (e1.trans c')),qAP,qAt,e2];rfl
      rw[this,qAP];rfl
    .have c':¬x=n:=λz=>c (by simpa using z);refine⟨⟨_,_,rfl⟩,?_,?_⟩
     .have:zB0 (qs.take (i+1)) n=zB0 (qs.take i) n:=by
       unfold zB0;rw[zJz eq (by rw[e1];simpa using c')]
      rw[this]
     .rfl
   .rintro ys τ H3 ⟨_,rfl,rfl⟩;have eT:qs.take (qs.map λq=>V.ref q.2).length=qs:=by rw[qAD,qAg]
    rw[eT];have fB:Fre H2 B:=hB;have nB:d0≠B:=ae fB N.top;have k3:Kp [] H2 (upd H2 B (.lst ((zB0 qs n).map V.str))):=Kp.new Kp.refl fB;have hd3:=k3 d0 _ N.top (by simp);refine⟨_,rfl,_,rfl,_,_,rfl,bz.k (k:=Sum.inr n) hd3 ?_,?_⟩
    .rw [zEa,qAU,qAK];lia
    rw[zD3 _ ni,gJ ni,<-zAk en];refine⟨⟨_,_,_,_,rfl⟩,Kp.new (k2.trans k3) fd0,λx=>if x=n then B else na x,ac,λx hx=>?_⟩;show Txs _ (if x=n then B else na x) (zB0 qs x)
    by_cases z:x=n
    .rw [qAC z,z];exact(ad nB.symm).trans ac
    .rw [qAB z];rw[zAk en]at hx;rcases qAR.mp hx with y|y
     .have h1:=k3 _ _ (N.row x y) (by simp);exact(ad (zCp h1 hd3 (λz=>nomatch z))).trans h1
     .exact absurd (qAO.mp y) z
  .rintro σ H1 ⟨⟨o3,o4,o5,o6,rfl⟩,k1,na,N⟩;have eT:ns.take (ns.map V.str).length=ns:=by rw[qAD,qAg]
   rw[eT]at N;refine λd hd=>?_;have fd1:Fre H1 d:=hd;have fd:Fre H d:=k1.fre fd1 (by simp);have nd0:d0≠d:=ae fd1 N.top;have N1:NR (upd H1 d (.dK [])) d0 ns na (zB0 qs):=N.kp (M:=[]) (Kp.new Kp.refl fd1) (by simp) (by simp)
   refine⟨_,rfl,_,rfl,⟨_,SqL.of ((Kp.new (M:=[]) k1 fd) l _ hl (by simp))⟩,zA3 (λi σ H2=>(∃o3 o5 o6:Option V,σ=[some (.ref l),some (.ref m),some (.ref d0),o3,some (.ref d),o5,o6])/\Kp [] H H2/\Kp [d] H1 H2/\∃la L,DS H H2 d (ns.take i) la L/\∀n∈ns.take i,(L n).Nodup/\∀x,x∈L n↔Way qs n x) ⟨⟨_,_,_,rfl⟩,Kp.new k1 fd,Kp.put Kp.refl (by simp),λ_=>0,λ_=>[],⟨ac,(λn h=>nomatch h),(λn h=>nomatch h),fd,(λn h=>nomatch h)⟩,(λn h=>nomatch h)⟩ (λi σ H2 _ ⟨_,k2,_⟩=>SqL.of (k2 l _ hl (by simp))) ?_ ?_⟩
   .rintro i0 v σ H2 hv ⟨⟨o3,o5,o6,rfl⟩,k2,q2,la,L,D,hL⟩;refine cy ?_;intro _ _ _;obtain⟨n,en,rfl⟩:=zA9 hv;have mn:=qAJ en;have ni:=zE4 hN en;have nnd:∀x∈ns,na x≠d:=λx hx=>ae fd1 (N.row x hx);have N2:NR H2 d0 ns na (zB0 qs):=N.kp q2 (nm1 nd0) (λx hx=>nm1 (nnd x hx));refine λb hb=>?_;have fb:Fre H2 b:=hb;have ndb:d≠b:=ae fb D.top;have fbH:Fre H b:=k2.fre fb (by simp);refine⟨_,rfl,_,rfl,_,_,rfl,bz.k (k:=Sum.inr n) ((ad ndb).trans D.top) ?_,?_⟩
    .rw [zEa,qAU,qAK];lia
    rw[zD3 _ ni,gJ ni,<-zAk en];have k3:Kp [] H (upd (upd H2 b (.dK [])) d (.dK (dT1 (ns.take (i0+1)) (λx=>.ref (if x=n then b else la x))))):=Kp.new (Kp.new k2 fbH) fd;have q3:Kp [d] H2 (upd (upd H2 b (.dK [])) d (.dK (dT1 (ns.take (i0+1)) (λx=>.ref (if x=n then b else la x))))):=Kp.put (Kp.new Kp.refl fb) (by simp);have hd3:(upd (upd H2 b (.dK [])) d (.dK (dT1 (ns.take (i0+1)) (λx=>.ref (if x=n then b else la x))))) d=some (.dK (dT1 (ns.take (i0+1)) (λx=>.ref (if x=n then b else la x)))):=ac;have hb3:(upd (upd H2 b (.dK [])) d (.dK (dT1 (ns.take (i0+1)) (λx=>.ref (if x=n then b else la x))))) b=some (.dK []):=(ad ndb.symm).trans ac;generalize upd (upd H2 b (.dK [])) d (.dK (dT1 (ns.take (i0+1)) (λx=>.ref (if x=n then b else la x))))=H3 at k3 q3 hd3 hb3 ⊢;have N3:NR H3 d0 ns na (zB0 qs):=N2.kp q3 (nm1 nd0) (λx hx=>nm1 (nnd x hx));have hs3:∀x∈ns.take i0,aK H3 (la x) (L x):=λx hx=>q3 _ _ (D.row x hx) (nm1 (D.ne x hx));have nlb:∀x∈ns.take i0,la x≠b:=λx hx=>ae fb (D.row x hx);refine⟨_,rfl,_,rfl,_,_,rfl,N3.get mn,_,_,rfl,.inl (SqL.of (N3.row n mn)),λwa hwa=>?_⟩;have fw:Fre H3 wa:=hwa;have k4:Kp [] H3 (upd H3 wa (.lst ((zB0 qs n).map V.str))):=Kp.new Kp.refl fw;have hw4:Txs (upd H3 wa (.lst ((zB0 qs n).map V.str))) wa (zB0 qs n):=ac;have nwb:b≠wa:=ae fw hb3;have nwd:d≠wa:=ae fw hd3;have fwH:Fre H wa:=k3.fre fw (by simp);generalize upd H3 wa (.lst ((zB0 qs n).map V.str))=H4 at k4 hw4 ⊢;have hb4:aK H4 b []:=k4 b _ hb3 (by simp);have hd4:=k4 d _ hd3 (by simp);have N4:NR H4 d0 ns na (zB0 qs):=N3.kp k4 (by simp) (by simp);have k04:=k3.trans k4;have nab:∀x∈ns,na x∉[b,wa]:=λx hx=>nm2 (zCp (N3.row x hx) hb3 (λz=>nomatch z)) (ae fw (N3.row x hx));have n0b:d0∉[b,wa]:=nm2 (ae fb N2.top) (ae fw N3.top)
    have gd:∀{Hx:Hp},Hx d=some (.dK (dT1 (ns.take (i0+1)) (λx=>.ref (if x=n then b else la x))))->aH Hx d (.str n) (some (.ref b)):=λh=>by
     have h1:=aH.k (k:=Sum.inr n) h;rw[zCh,qAC (by rw[zAk en];simp),qAC rfl]at h1;exact h1
    refine gy (λσ H5=>(∃o6:Option V,σ=[some (.ref l),some (.ref m),some (.ref d0),some (.str n),some (.ref d),some (.ref wa),o6])/\Kp [b,wa] H4 H5/\∃B W,aK H5 b B/\Txs H5 wa W/\BK qs ns n B W) (λ_ H5=>307*(20-aU H5 b)+aU H5 wa)
     ⟨⟨_,rfl⟩,Kp.refl,[],zB0 qs n,hb4,hw4,BK.start hz⟩ ?_ (λσ H Q Q' hq hc=>?_)
    .rintro σ H5 ⟨⟨o6',rfl⟩,k5,B,W,hB,hW,I5⟩;refine⟨_,rfl,(by walk_at"ln"),λe he=>?_⟩;have fe:Fre H5 e:=he;have k5e:Kp [] H5 (upd H5 e (.lst [])):=Kp.new Kp.refl fe;have hB6:aK (upd H5 e (.lst [])) b B:=k5e b _ hB (by simp);have hW6:Txs (upd H5 e (.lst [])) wa W:=k5e wa _ hW (by simp);have hE6:(upd H5 e (.lst [])) e=some (.lst []):=ac;have k46:Kp [b,wa] H4 (upd H5 e (.lst [])):=λc o h z=>k5e c o (k5 c o h z) (by simp);generalize upd H5 e (.lst [])=H6 at k5e hB6 hW6 hE6 k46 ⊢;refine kW (SqL.of hW6) (SqL.of hE6) ?_;refine⟨_,rfl,aA (λc=>?_) (λc=>?_)⟩
     .obtain ⟨W0,x0,rfl⟩:∃W0 x0,W=W0++[x0]:=by
       have:W≠[]:=λz=>by rw[z]at c;exact absurd c (by decide)
       exact⟨W.dropLast,W.getLast this,(List.dropLast_concat_getLast this).symm⟩
      have eW:(W0++[x0]).map V.str=W0.map V.str++[.str x0]:=by rw[qAP];rfl
      have hW6:H6 wa=some (.lst (W0.map V.str++[.str x0])):=by rw[<-eW];exact hW6
      have cap0:=I5.cap;rw[qAN,qAn]at cap0;have hx0:x0∈ns:=((I5.wl x0 (by simp)).to hm.two hq).2;refine⟨_,rfl,.inl ⟨rfl,_,SqL.of hW6⟩,_,_,.str x0,rfl,rfl,hW6,(by simp),?_⟩;rw[List.dropLast_concat];have k7:Kp [b,wa] H4 (upd H6 wa (.lst (W0.map V.str))):=Kp.put k46 (by simp);have hW7:Txs (upd H6 wa (.lst (W0.map V.str))) wa W0:=ac;have hB7:aK (upd H6 wa (.lst (W0.map V.str))) b B:=(ad nwb).trans hB6;generalize upd H6 wa (.lst (W0.map V.str))=H7 at k7 hW7 hB7 ⊢;have s3:aU H5 b=B.length:=by rw[eY hB,zEa]
      have s4:aU H5 wa=W0.length+1:=by rw[zI6 hW,qAD,qAN];rfl
      obtain⟨o,g1,g2⟩:=zEm hB7 x0;have hd7:=k7 d _ hd4 (nm2 ndb nwd);refine⟨_,rfl,_,rfl,_,rfl,_,_,rfl,gd hd7,_,o,rfl,g1,_,rfl,?_⟩;rw[g2];refine aA (λc2=>?_) (λc2=>?_)
      .have c2':x0∉B:=by simpa using c2
       obtain⟨I7,less⟩:=I5.new c2' hx0 hn hz;refine⟨_,rfl,_,rfl,_,_,rfl,gd hd7,_,rfl,_,_,rfl,bz.k (k:=Sum.inr x0) hB7 ?_,?_⟩
       .have:=zB3 I5.nd I5.sub;rw[zEa,qAK];lia
       rw[zD3 _ c2',<-gp B x0 λ_=>.bl true];have hW8:Txs (upd H7 b (.dK (dT1 (B++[x0]) λ_=>.bl true))) wa W0:=(ad nwb.symm).trans hW7;have k8:Kp [b,wa] H4 (upd H7 b (.dK (dT1 (B++[x0]) λ_=>.bl true))):=Kp.put k7 (by simp);have hB8:aK (upd H7 b (.dK (dT1 (B++[x0]) λ_=>.bl true))) b (B++[x0]):=ac;generalize upd H7 b (.dK (dT1 (B++[x0]) λ_=>.bl true))=H8 at k8 hW8 hB8 ⊢;have N8:NR H8 d0 ns na (zB0 qs):=N4.kp k8 n0b nab;refine⟨_,rfl,.inl ⟨rfl,_,SqL.of hW8⟩,_,rfl,_,rfl,_,_,rfl,N8.get hx0,_,_,_,_,rfl,rfl,hW8,N8.row x0 hx0,?_,?_⟩
       .have:=zFy qs x0;rw[qAD,qAD,qAK];lia
       have hW9:∀Hx:Hp,Txs (upd Hx wa (.lst (W0.map V.str++(zB0 qs x0).map V.str))) wa (W0++zB0 qs x0):=λHx=>by
        show upd _ wa _ wa=some (.lst ((W0++zB0 qs x0).map V.str));rw[ac,qAP]
       refine⟨⟨⟨_,rfl⟩,Kp.put k8 (by simp),B++[x0],W0++zB0 qs x0,(ad nwb).trans hB8,hW9 _,I7⟩,?_⟩;have s1:∀o,aU (upd H8 wa o) b=(B++[x0]).length:=λo=>by rw[eY ((ad nwb).trans hB8),zEa]
       have s2:aU (upd H8 wa (.lst (W0.map V.str++(zB0 qs x0).map V.str))) wa=(W0++zB0 qs x0).length:=by rw[zI6 (hW9 H8),qAD]
       show 307*(20-aU _ b)+aU _ wa<307*(20-aU H5 b)+aU H5 wa;rw[s1,s2,s3,s4];lia
      .have c2':x0∈B:=by simpa using c2
       refine⟨⟨⟨_,rfl⟩,k7,B,W0,hB7,hW7,I5.old c2'⟩,?_⟩;have s1:aU H7 b=B.length:=by rw[eY hB7,zEa]
       have s2:aU H7 wa=W0.length:=by rw[zI6 hW7,qAD]
       show 307*(20-aU H7 b)+aU H7 wa<307*(20-aU H5 b)+aU H5 wa;rw[s1,s2,s3,s4];lia
     .have eW:W=[]:=by
       cases W with
       |nil=>rfl
       |cons _ _=>exact absurd (qAV (by simp)) c
      subst eW;have k6:Kp [] H H6:=λc o h _=>k46 c o (k04 c o h (by simp)) (nm2 (ae fbH h) (ae fwH h))
      have q6:Kp [d] H1 H6:=λc o h z=>by
       have h2:=q2 c o h z;have h3:=q3 c o h2 z;exact k46 c o (k4 c o h3 (by simp)) (nm2 (ae fb h2) (ae fw h3))
      have hd6:=k46 d _ hd4 (nm2 ndb nwd)
      have cs:∀x,x∈ns.take (i0+1)->(x∈ns.take i0/\x≠n)\/x=n:=λx h=>by
       rw[zAk en]at h;rcases qAR.mp h with z|z
       .exact .inl ⟨z,λy=>ni (y▸z)⟩
       .exact .inr (qAO.mp z)
      refine⟨⟨_,_,_,rfl⟩,k6,q6,λx=>if x=n then b else la x,λx=>if x=n then B else L x,⟨hd6,λx hx=>?_,λx hx=>?_,D.fr,λx hx=>?_⟩,λx hx=>?_⟩
      .show aK H6 (if x=n then b else la x) (if x=n then B else L x);rcases cs x hx with⟨z1,z2⟩|z
       .rw [qAB z2,qAB z2];have h3:=hs3 x z1;exact k46 _ _ (k4 _ _ h3 (by simp)) (nm2 (nlb x z1) (ae fw h3))
       .rw [qAC z,qAC z];exact hB6
      .show (if x=n then b else la x)≠d;rcases cs x hx with⟨z1,z2⟩|z
       .rw [qAB z2];exact D.ne x z1
       .rw [qAC z];exact ndb.symm
      .show Fre H (if x=n then b else la x);rcases cs x hx with⟨z1,z2⟩|z
       .rw [qAB z2];exact D.frs x z1
       .rw [qAC z];exact fbH
      .show (if x=n then B else L x).Nodup/\∀y,y∈(if x=n then B else L x)↔_;rcases cs x hx with⟨z1,z2⟩|z
       .rw [qAB z2];exact hL x z1
       .rw [qAC z,z];exact⟨I5.nd,I5.all⟩
    .obtain ⟨x,e,h1,h2⟩:=hc;refine⟨x,e,h1,λl hl=>?_⟩;rcases h2 l hl with⟨a,c,xs,ys,q1,q2,q3,q4,q5,q6,b,q7,q8⟩|⟨a,c,xs,ys,q1,q2,q3,q4,q5,b,q7,q8⟩
     .exact .inl ⟨a,c,xs,ys,q1,q2,q3,q4,q5,q6,b,q7,hq _ _ q8⟩
     .exact .inr ⟨a,c,xs,ys,q1,q2,q3,q4,q5,b,q7,hq _ _ q8⟩
   .rintro σ H2 ⟨⟨o3,o5,o6,rfl⟩,k2,q2,la,L,D,hL⟩;rw[eT]at D hL;exact⟨_,rfl,k d la L H2 D hL k2⟩
end
theorem oz{K:PySem.W.Frag}:PySem.W.kitOne K (.type "int") (.type "bool")=some false:=by rfl
section
inductive bK(vs:List V)(H:Hp)(Q:VK)(u_3:XK):Prop
 |mk:∀(n:Int),vs=[.int n]->Q (.bl true) H->bK vs H Q u_3
abbrev zE1:Stmt:=top 26
theorem zHj:ag ["thing"] ["thing"] (zAg zE1):=fnS
theorem fX(F:Fun K "is_whole" "is_whole" zE1 f fd)(T:Txt K mg):ak P w K mg base CX0 1 f fd ["thing"] bK:=by
 refine F.ok zHj (λvs H Q E h=>?_) (λcdv A outer s H vs Q E hr h=>?_)
 .obtain ⟨n,rfl,_⟩:=h;rfl
 .obtain ⟨n,rfl,k⟩:=h;refine⟨_,(zAe (zAw (dL (zAi zBg (by rfl) T.z_isinstance zAl (zAa (pv 0) (zAa (zBw (by rfl) T.z_int zIb (v:=.ty "int") rfl) zAb))) (cu (oH (zAi zBg (by rfl) T.z_isinstance zAl (zAa (pv 0) (zAa (zBw (by rfl) T.z_bool jH (v:=.ty "bool") rfl) zAb)))))))),?_⟩;exact⟨_,rfl,_,_,_,_,rfl,ao.int n,zA1,_,rfl,bp ⟨_,rfl,_,_,_,_,rfl,ao.int n,oz,_,rfl,k⟩⟩
inductive bJ(vs:List V)(H:Hp)(Q:VK)(u_3:XK):Prop
 |mk:∀(b:Int),vs=[.int b]->1<=b->Q .non H->bJ vs H Q u_3
abbrev zB4:Stmt:=top 29
theorem zEf:ag ["benches"] ["benches"] (zAg zB4):=fnS
theorem zEh(F:Fun K "check_benches" "check_benches" zB4 f fd)(C_is_whole:Cal P w K mg base "is_whole" 1 ["thing"] bK):ak P w K mg base CX0 2 f fd ["benches"] bJ:=by
 refine F.ok zEf (λvs H Q E h=>?_) (λcdv A outer s H vs Q E hr h=>?_)
 .obtain ⟨n,rfl,_⟩:=h;rfl
 .obtain ⟨n,rfl,h1,k⟩:=h
  refine⟨_,(zAe (zBk (PW.pt (zEk (zBm (zBi (zAh C_is_whole hr rfl (zAa (pv 0) zAb)))) (zDv (zAr fQ (pv 0) zAd (zAv _))))) (zAe zAz) zAs)),?_⟩
  refine⟨_,rfl,n,rfl,_,rfl,aw ⟨_,rfl,_,_,rfl,rfl,_,rfl,?_⟩⟩;rw[qAZ (by lia)];exact aw k
end
end My
namespace L2
open PySem PySem.Spec PyProof.Rows
variable{H:Hp}{h h':Heap}{a xa:Addr}{pos:Pos}{g:TG}{σ:St}{scope:Scope}{X:Cx}{elt iter:Expr}{tt:TT}{te:TE}
def Itz(K:PySem.W.Frag)(a b:Addr):It :=
 ⟨λi H=>∃xs ys x y,SqL K H a xs/\SqL K H b ys/\xs[i]?=some x/\ys[i]?=some y,λi H v H'=>∃t x y,v= .ref t/\H t=none/\H'=upd H t (.tup [x,y])/\(∀xs,SqL K H a xs->xs[i]?=some x)/\∀ys,SqL K H b ys->ys[i]?=some y,λi H=>∃xs ys,SqL K H a xs/\SqL K H b ys/\(xs.length<=i\/ys.length<=i)⟩
theorem mV{fs ex:List Addr}(k:∀b u,b∉ex->h.get? b=some u->h'.get? b=some u):Un fs ex H H h h' :=
 ⟨λb ob q _ _ hx=>k b ob hx q,λb ob q _ _ hx=>⟨ob.slots,k b ob hx q⟩,λ_ _ _ n _=>n,λb ob q hx=>⟨ob,k b ob hx q⟩,λ_ _ q=>q,λ_ _ _ q=>q,λ_ ps q=>⟨#[],by rw[q];simp⟩⟩
theorem jc{P:Program}{w:World}{ex:List Addr}(x:HOk P w H h)(k:∀b u,b∉ex->h.get? b=some u->h'.get? b=some u)(hex:∀b∈ex,H b=none):HOk P w H h':=λb u e=>
 (x b u e).stay (λc v hc q=>k c v (λz=>by
  have hz:=hex c z;rcases hc with y|y
  .rw [y,e]at hz;cases hz
  .rw [y]at hz;cases hz) q) (λ_ q=>q) λ_ _ q=>q
structure jC(z TI TO i1 i2:Addr):Prop where
 TIz:TI≠z
 TOz:TO≠z
 i1z:i1≠z
 i2z:i2≠z
 TITO:TI≠TO
 TIi1:TI≠i1
 TIi2:TI≠i2
 TOi1:TO≠i1
 TOi2:TO≠i2
 i12:i1≠i2
theorem gf(n:Nat):jC (n+4) (n+2) (n+3) n (n+1):=⟨qAQ (by lia),qAQ (by lia),qAQ (by lia),qAQ (by lia),qAQ (by lia),qA4 (by lia),qA4 (by lia),qA4 (by lia),qA4 (by lia),qAQ (by lia)⟩
def jI(z TI TO i1 i2 a b:Addr)(i:Nat)(h:Heap):Prop:=IsZip h z TI TO .none/\IsPair h TI (.ref i1) (.ref i2)/\(∃p q,IsPair h TO p q)/\h.IsListIter i1 a i/\h.IsListIter i2 b i
theorem jI.apart{z TI TO i1 i2 b:Addr}{i:Nat}{xs ys:Array Value}(D:jC z TI TO i1 i2)(Z:jI z TI TO i1 i2 a b i h)(ha:h.IsList a xs)(hb:h.IsList b ys):ZipApart z TI TO i1 i2 a b:=by
 obtain⟨s1,_,⟨p,q,s3⟩,⟨o4,s4,c4,_⟩,⟨o5,s5,c5,_⟩⟩:=Z;obtain⟨oa,ga,ca,_⟩:=ha;obtain⟨ob,gb,cb,_⟩:=hb;refine⟨D.TIz,D.TOz,D.i1z,D.i2z,D.TITO,D.TIi1,D.TIi2,D.TOi1,D.TOi2,D.i12,?_,?_,?_,?_,?_,?_,?_,?_⟩
 .exact λe=>by rw[e,s1]at ga;cases ga;simp at ca
 .exact λe=>by rw[e,s3]at ga;cases ga;simp at ca
 .exact λe=>by rw[e,s4]at ga;cases ga;rw[c4]at ca;simp at ca
 .exact λe=>by rw[e,s5]at ga;cases ga;rw[c5]at ca;simp at ca
 .exact λe=>by rw[e,s1]at gb;cases gb;simp at cb
 .exact λe=>by rw[e,s3]at gb;cases gb;simp at cb
 .exact λe=>by rw[e,s4]at gb;cases gb;rw[c4]at cb;simp at cb
 .exact λe=>by rw[e,s5]at gb;cases gb;rw[c5]at cb;simp at cb
theorem nP{P:Program}{w:World}{K:PySem.W.Frag}{elts:List Expr}{kk:Nat}{tp:Pos}(a b z TI TO i1 i2:Addr)(D:jC z TI TO i1 i2):fE P w K (.Tuple elts kk tp) (Itz K a b) [z,TI,TO,i1,i2] z (jI z TI TO i1 i2 a b) where
 mem:=by simp
 obj:=λi h st c hc=>by
  obtain⟨s1,s2,⟨p,q,s3⟩,⟨o4,s4,_,d4⟩,⟨o5,s5,_,d5⟩⟩:=st;have cs:c=z\/c=TI\/c=TO\/c=i1\/c=i2:=by simpa using hc
  rcases cs with e|e|e|e|e
  .rw [e];exact⟨_,s1,λv y=>by cases y⟩
  .rw [e];exact⟨_,s2,λv y=>by cases y⟩
  .rw [e];exact⟨_,s3,λv y=>by cases y⟩
  .rw [e];exact⟨o4,s4,λv y=>by rw[d4]at y;cases y⟩
  .rw [e];exact⟨o5,s5,λv y=>by rw[d5]at y;cases y⟩
 keep:=λi h h' ⟨s1,s2,⟨p,q,s3⟩,s4,s5⟩ k=>⟨k z (by simp) _ s1,k TI (by simp) _ s2,⟨p,q,k TO (by simp) _ s3⟩,s4.at λo y=>k i1 (by simp) o y,s5.at λo y=>k i2 (by simp) o y⟩
 item:=by
  intro X hP hw hK hc i pins s σ H E I hf st hg;subst hP hw hK;obtain⟨xs,ys,x,y,hq1,hq2,hx,hy⟩:=hg;obtain⟨its1,rv1,p1,_⟩:=I.list hq1;obtain⟨its2,rv2,p2,_⟩:=I.list hq2;obtain⟨u,hu,ru⟩:=rv1.get hx;obtain⟨v,hv,rv⟩:=rv2.get hy;have D':=st.apart D p1.isList p2.isList;obtain⟨s1,s2,⟨p,q,s3⟩,s4,s5⟩:=st;have hn:∀c∈[z,TI,TO,i1,i2],H c=none:=λc hc=>(hf c hc).1;refine wpAny_pyNext_zip_item D' s1 s2 s3 s4 s5 p1.isList p2.isList (x:=u) (y:=v) (by simpa using hu) (by simpa using hv) λk a1 a2 a3 a4 a5 a6 a7=>?_;refine⟨_,rfl,wpAny_letOwnedTupleGo_zip a1 λk2 z2 b2=>?_⟩;have b2:Heap.SameBut z k k2:=b2;have zsz:z<s.heap.objs.size:=qAI s1
  have lts:∀c∈[z,TI,TO,i1,i2],c≠s.heap.objs.size:=λc hc=>by
   have cs:c=z\/c=TI\/c=TO\/c=i1\/c=i2:=by simpa using hc
   rcases cs with e|e|e|e|e
   .rw [e];exact qAQ zsz
   .rw [e];exact qAQ (qAI s2)
   .rw [e];exact qAQ (qAI s3)
   .obtain ⟨o,g,_⟩:=s4;rw[e];exact qAQ (qAI g)
   .obtain ⟨o,g,_⟩:=s5;rw[e];exact qAQ (qAI g)
  have t2:k2.get? s.heap.objs.size=some {cls:=.type "tuple",data:=.seq #[u,v]}:=b2.extBut _ _ (qA4 zsz) a5;have on:∀c o,c∉[z,TI,TO,i1,i2]->s.heap.get? c=some o->k2.get? c=some o:=λc o nc g=>b2.extBut c o (λe=>nc (by simp[e])) (a7 c o (λe=>nc (by simp[e])) (λe=>nc (by simp[e])) (λe=>nc (by simp[e])) (λe=>nc (by simp[e])) g);have new:zBq X.prog X.w (upd H s.heap.objs.size (.tup [x,y])) k2 s.heap.objs.size (.tup [x,y]):=⟨by show(2:Nat)<=sizeLine;decide,[u,v],.cons ru (.cons rv .nil),⟨_,t2,rfl,_,rfl⟩⟩
  have I2:Inv X pins σ (upd H s.heap.objs.size (.tup [x,y])) {s with heap:=k2}:=I.call' (ch:=[z,TI,TO,i1,i2]) rfl (jm on (qAG _) (I.hok.fresh (qAG _))) (gI I.hok on hn (qAG _) new) I.bare λc hc=>by
   obtain⟨_,f1,_,f3,f4,f5⟩:=hf c hc;exact⟨f3,f1,f4,f5⟩
  refine⟨.ref s.heap.objs.size,_,I2,rfl,⟨_,x,y,rfl,I.hok.fresh (qAG _),rfl,λzs hz=>by rw[I.list_inj hz hq1];exact hx,λzs hz=>by rw[I.list_inj hz hq2];exact hy⟩,⟨z2,b2.extBut _ _ D.TIz (a7 _ _ D.TIz D.TITO D.TIi1 D.TIi2 s2),⟨u,v,b2.extBut _ _ D.TOz a2⟩,a3.extBut b2.extBut D.i1z,a4.extBut b2.extBut D.i2z⟩,λc hc=>?_⟩;rw[ad (lts c hc)];exact hn c hc
 done:=by
  intro X hP hw hK hc i pins s σ H E I hf st hg;subst hP hw hK;obtain⟨xs,ys,hq1,hq2,hx⟩:=hg;obtain⟨its1,rv1,p1,_⟩:=I.list hq1;obtain⟨its2,rv2,p2,_⟩:=I.list hq2;have l1:=rv1.length;have l2:=rv2.length;have D':=st.apart D p1.isList p2.isList;obtain⟨s1,s2,⟨p,q,s3⟩,s4,s5⟩:=st;have hn:∀c∈[z,TI,TO,i1,i2],H c=none:=λc hc=>(hf c hc).1;refine wpAny_pyNext_zip_end (I.ok.hd hc) D' s1 s2 s3 s4 s5 p1.isList p2.isList ?_ λh' eb=>⟨rfl,?_⟩
  .rcases hx with z|z
   .exact .inl (by simp;lia)
   .exact .inr (by simp;lia)
  .have on:∀c o,c∉[z,TI,TO,i1,i2]->s.heap.get? c=some o->h'.get? c=some o:=λc o nc g=>eb c o (λe=>nc (by simp[e])) (λe=>nc (by simp[e])) (λe=>nc (by simp[e])) (λe=>nc (by simp[e])) g
   exact I.call' (s':={s with heap:=h'}) (ch:=[z,TI,TO,i1,i2]) rfl (mV on) (jc I.hok on hn) I.bare λc hc=>by
    obtain⟨_,f1,_,f3,f4,f5⟩:=hf c hc;exact⟨f3,f1,f4,f5⟩
 self:=λ_ _ _ _ _ ⟨s1,_⟩ h=>qDA s1 h
section
variable{X:Cx}{elts:List Expr}{kk:Nat}{tp:Pos}
inductive qT(K:PySem.W.Frag)(R:It->Hp->Prop)(vs:List V)(H1:Hp):Prop
 |mk:∀a b,vs=[.ref a,.ref b]->(∃xs,SqL K H1 a xs)->(∃ys,SqL K H1 b ys)->R (Itz K a b) H1->qT K R vs H1
def u7(K:PySem.W.Frag)(ta:TA):TI:=λσ H R=>ta σ H λvs H1=>qT K R vs H1
theorem gw:bootBuiltins "zip"=some (.type "zip"):=by decide +kernel
theorem iN{a b:Expr}{ta:TA}{p:Pos}(hg:Gl X "zip")(hm:X.mg "zip"=none)(ha:PA X [a,b] ta)(he:starEach [a,b] X.env=(false,eval a X.env)::starEach [b] X.env:=by rfl)(hpl:(backTo pos (starEach [b] X.env)).any (·.1)=false:=by rfl):PI X (.Tuple elts kk tp) (.Call (.Name "zip" p) [a,b] [] pos) (u7 X.K ta):=by
 intro pins s σ H R I h;refine Call_ (zHz I hg hm gw (qCT (thn (ha pos pins s σ H _ I h) λus s1 ⟨vs,H1,I1,r1,q1⟩=>?_) he hpl));obtain⟨a,b,e,⟨xs,hq1⟩,⟨ys,hq2⟩,q⟩:=q1;subst e
 obtain⟨u,v,rfl,ru,rv⟩:∃u v,us=[u,v]/\am (.ref a) u/\am (.ref b) v:=by
  cases r1 with
  |cons ra r2=>cases r2 with
   |cons rb r3=>cases r3;exact⟨_,_,rfl,ra,rb⟩
 cases ru
 cases rv
 obtain⟨its1,r1,p1,_⟩:=I1.list hq1;obtain⟨its2,r2,p2,_⟩:=I1.list hq2;refine call_zip_2 p1.isList p2.isList λh' e1 e2 e3 e4 e5 e6 e7=>qDA e1 ?_;refine⟨s1.heap.objs.size+4,[s1.heap.objs.size+4,s1.heap.objs.size+2,s1.heap.objs.size+3,s1.heap.objs.size,s1.heap.objs.size+1],_,_,H1,rfl,I1.kept (t':=s1.toks) e7,nP a b (s1.heap.objs.size+4) (s1.heap.objs.size+2) (s1.heap.objs.size+3) s1.heap.objs.size (s1.heap.objs.size+1) (gf _),⟨e1,e2,⟨_,_,e3⟩,e4,e5⟩,λc hc=>?_,q⟩;have cs:c=s1.heap.objs.size+4\/c=s1.heap.objs.size+2\/c=s1.heap.objs.size+3\/c=s1.heap.objs.size\/c=s1.heap.objs.size+1:=by simpa using hc
 have ge:s1.heap.objs.size<=c:=by
  rcases cs with e|e|e|e|e<;>(rw[e];lia)
 exact I1.fpOk ge (I1.hok.fresh ge)
theorem dG{K:PySem.W.Frag}{b:Addr}{xs ys:List V}{tb:TS}{D:a_}(Pv:Nat->St->Hp->Prop)(h0:Pv 0 σ H)(hl:∀i σ H,Pv i σ H->SqL K H a xs/\SqL K H b ys)
  (hs:∀i x y σ H t,xs[i]?=some x->ys[i]?=some y->Pv i σ H->H t=none->g (.ref t) σ (upd H t (.tup [x,y])) λσ2 H2=>tb {D with nx:=Pv (i+1),ct:=Pv (i+1),bk:=D.nx} σ2 H2) (hd:∀i σ H,(xs.length<=i\/ys.length<=i)->Pv i σ H->D.nx σ H) :
  ∃W:Nat->Nat->St->Hp->Prop,(∃m,W 0 m σ H)/\∀i m σ H,W i m σ H ->
   ((Itz K a b).stop i H/\D.nx σ H)\/((Itz K a b).go i H/\∃N:St->Hp->Prop,(∀σ' H',N σ' H'->∃m',m'<m/\W (i+1) m' σ' H')/\∀x H',(Itz K a b).yld i H x H'->g x σ H' λσ2 H2=>tb {D with nx:=N,ct:=N,bk:=D.nx} σ2 H2):=by
 refine⟨λi m σ H=>m=xs.length-i/\Pv i σ H,⟨xs.length,by simp,h0⟩,?_⟩;rintro i m σ H ⟨rfl,p⟩;obtain⟨q1,q2⟩:=hl i σ H p
 by_cases h1:i<xs.length
 .by_cases h2:i<ys.length
  .refine .inr ⟨⟨xs,ys,xs[i],ys[i],q1,q2,by simp[h1],by simp[h2]⟩,Pv (i+1),λσ' H' p'=>⟨xs.length-(i+1),by lia,rfl,p'⟩,λv H' y=>?_⟩;obtain⟨t,x,y,rfl,hn,rfl,y1,y2⟩:=y;exact hs i x y σ H t (y1 xs q1) (y2 ys q2) p hn
  .exact .inl ⟨⟨xs,ys,q1,q2,.inr (by lia)⟩,hd i σ H (.inr (by lia)) p⟩
 .exact .inl ⟨⟨xs,ys,q1,q2,.inl (by lia)⟩,hd i σ H (.inl (by lia)) p⟩
end
def aN(A:Around)(h:Heap):Prop:=∃b o vs,A.handled=some (.ref b)/\h.get? b=some o/\o.data= .fields vs/\vs[2]?=some .none
theorem zJ1:entryFor table "proto.unchain"=some Builtin.«proto.unchain»:=entryFor_of_fast (by kernel_rfl)
section
variable{prog:Program}{w:World}{A:Around}{E:Value->Shared->Prop}{s:Shared}{α:Type}{Q:α->Shared->Prop}
theorem lE{oa:Obj}{es:Array Value}(hot:aN A s.heap)(ha:s.heap.get? a=some oa)(da:oa.data= .fields es)(sz:2<es.size)(na:A.handled≠some (.ref a))
  (hE:∀h',Heap.SameBut a s.heap h'->(∃o,h'.get? a=some o/\o.cls=oa.cls)->E (.ref a) {s with heap:=h'}):wpAny (model prog w) A (raiseNew (.ref a):Sem α) Q E s:=by
 obtain⟨b,o,vs,hh,hb,db,v2⟩:=hot;have nba:b≠a:=λz=>na (by rw[hh,z]);unfold raiseNew;refine qAA (wpAny_handled ?_);rw[hh];show wpAny _ _ (if(Value.ref b != Value.ref a)=true then _ else _) _ _ _;rw[qAC (by simp[nba])];refine qAA (qAy (wpAny_runValue (qBv zJ1 ?_)));show wpAny _ _ (field (.ref b) 2 >>= _) _ _ _;refine qAA (qBE hb db v2 ?_);show wpAny _ _ (if(Value.none==Value.none)=true then _ else _) _ _ _;rw[qAC (by rfl)];refine qAE ?_;refine qAA ?_;unfold updateField;refine qAA (qB4 ha ?_);rw[da];show wpAny _ _ (if 2<es.size then _ else _) _ _ _;rw[qAC sz];refine wpAny_update ha (wpAny_throw (hE _ (qAr ..) ⟨_,qA9 _ ha (qBd (qAu da _)),qCA _ _⟩))
theorem aN.keep{h h':Heap}(x:aN A h)(k:∀b o,(∃vs,o.data= .fields vs/\vs[2]?=some .none)->A.handled=some (.ref b)->h.get? b=some o->h'.get? b=some o):aN A h':=by
 obtain⟨b,o,vs,e1,e2,e3,e4⟩:=x;exact⟨b,o,vs,e1,k b o ⟨vs,e3,e4⟩ e1 e2,e3,e4⟩
theorem aN.at1(x:aN A h):aN A.in1 h:=x
theorem fC(hot:aN A s.heap)(hE:∀h' e,(∀b o,s.heap.get? b=some o->h'.get? b=some o)->(∃o,h'.get? e=some o/\o.cls= .type "StopIteration")->E (.ref e) {s with heap:=h'}):wpAny (model prog w) A (newExc (.type "StopIteration") [] >>= λe=>(raiseNew e:Sem α)) Q E s:=by
 refine qAA ?_;simp only[newExc,newTuple];refine qAA (qBa ?_ (by size_fits));refine qAA (m:=firstArgMember _ _) (qCM (a:=Value.none) (by first|rfl|(simp only[firstArgMember];rfl)) ?_);refine qBa ?_ (by size_fits)
 have lt:∀b,A.handled=some (.ref b)->b<s.heap.objs.size:=λb e=>by
  obtain⟨c,o,vs,e1,e2,_⟩:=hot;rw[e1]at e
  cases e
  exact qAI e2
 refine lE (hot.keep λb o _ _ e=>qAM _ (qAM _ e)) (qAk _ rfl) rfl (by rw[Array.size_append];show 2<6+_;lia) (λe=>?_) λh' sb ho=>hE h' _ (λb o e=>sb.extBut b o ?_ (qAM _ (qAM _ e))) ho
 .have:=lt _ e;rw[qBR]at this;exact absurd this (qCN.mpr (qB6 _))
 .have:=qAI e;rw[qBR];exact qAQ (qBs this)
theorem zEu{it l:Addr}{i:Nat}{items}{Q:Value->Shared->Prop}(hot:aN A s.heap)(nh:A.handled≠some (.ref it))
  (hit:s.heap.IsListIter it l i) (hl:s.heap.IsList l items) (hx:items[i]?=none)
  (hE:∀h' e,Heap.ExtBut it s.heap h'->(∃o,h'.get? e=some o/\o.cls= .type "StopIteration")->E (.ref e) {s with heap:=h'}):wpAny (model prog w) A (Builtin.SmallTypes.nextOf (.ref it)) Q E s:=by
 obtain⟨o,ho,hc,hd⟩:=id hit;obtain⟨ol,hol,_,nl,hdl⟩:=hl;unfold Builtin.SmallTypes.nextOf;refine qAA (qCc (name:=Str.ofString "__next__") hit.typeIs slot_listiter_next (qBy slot_listiter_next hit.typeIs entry_listiter_next ?_ (args_listiter_next _)));show wpAny _ _ (field (.ref it) 0 >>= _) _ _ s;refine qAA (qBE ho hd (x:=.ref l) rfl ?_);show wpAny _ _ (if(Value.ref l==Value.none)=true then _ else _) _ _ s;rw[qAB (show¬((Value.ref l==Value.none)=true)from qAd)];show wpAny _ _ (field (.ref it) 1 >>= _) _ _ s;refine qAA (qBE ho hd (x:=.int i 0) rfl ?_);show wpAny _ _ (seqItems? (.ref l) >>= _) _ _ s;refine qAA (qCO hol hdl ?_);simp only[qCp,hx];refine qAA (qBD (qAA (qA6 ho hd (by simp) ?_)));exact fC (aN.keep (h:=s.heap) hot λb o _ e x=>(qAr ..).extBut b o (λz=>nh (by rw[<-z];exact e)) x) λh' e k he=>hE h' e (λb o nb x=>k b o ((qAr ..).extBut b o nb x)) he
theorem zIl{it t:Addr}{i:Nat}{items}{Q:Option Value->Shared->Prop}(hot:aN A s.heap)(nh:A.handled≠some (.ref it))
  (hit:IsTupIter s.heap it t i) (ht:IsTup s.heap t items) (hx:items[i]?=none)
  (hQ:∀h',Heap.ExtBut it s.heap h'->Q none {s with heap:=h'}):wpAny (model prog w) A (pyNext (.ref it)) Q E s:=by
 obtain⟨o,ho,hc,hd⟩:=id hit;obtain⟨ol,hol,_,nl,hdl⟩:=ht;unfold pyNext;refine qAA (qB9 (qCc (name:=Str.ofString "__next__") hit.typeIs slot_tupleiter_next (qBy slot_tupleiter_next hit.typeIs entry_tupleiter_next ?_ (args_tupleiter_next _))));show wpAny _ _ (field (.ref it) 0 >>= _) _ _ s;refine qAA (qBE ho hd (x:=.ref t) rfl ?_);show wpAny _ _ (if(Value.ref t==Value.none)=true then _ else _) _ _ s;rw[qAB (show¬((Value.ref t==Value.none)=true)from qAd)];show wpAny _ _ (field (.ref it) 1 >>= _) _ _ s;refine qAA (qBE ho hd (x:=.int i 0) rfl ?_);show wpAny _ _ (seqItems? (.ref t) >>= _) _ _ s;refine qAA (qCO hol hdl ?_);simp only[qCp,hx];refine qAA (qBD (qAA (qA6 ho hd (by simp) ?_)));refine fC (aN.keep (h:=s.heap) hot λb o _ e x=>(qAr ..).extBut b o (λz=>nh (by rw[<-z];exact e)) x) λh' e k he=>?_;obtain⟨oe,hoe,hce⟩:=he;refine qAA (qCP (T:="StopIteration") (b:=true) ⟨oe,hoe,hce⟩ isSubtype_stop ?_);exact qAE (hQ _ λb o nb x=>k b o ((qAr ..).extBut b o nb x))
theorem zHc{t:Addr}{items:Array Value}{Q:List Value->Shared->Prop}(hot:aN A s.heap)(ht:IsTup s.heap t items)
  (hQ:∀h',Heap.ExtBut s.heap.objs.size s.heap h'->Q items.toList {s with heap:=h'}):wpAny (model prog w) A (unpackItems (.ref t) items.size none) Q E s:=by
 have hlt:t≠s.heap.objs.size:=by obtain⟨o,ho,_⟩:=ht;exact qAQ (qAI ho)
 have nh:A.handled≠some (.ref s.heap.objs.size):=λz=>by
  obtain⟨b,o,vs,e1,e2,_⟩:=hot;rw[e1]at z
  cases z
  exact absurd (qAI e2) (qA2 _)
 unfold unpackItems;refine qAA ?_
 .unfold notIterableAtAll;refine qAA (qCv ht.typeIs slot_tuple_iter.lookup ?_);refine qAE ?_;simp only[qCe,qB7];refine qAA (qAy (iter_tuple ht ?_));refine qAA (qAy (draw_tuple hlt items.size 0 _ _ ⟨_,qAk _ rfl,rfl,rfl⟩ (ht.push _) (by lia) λh₁ hit₁ hs₁=>?_));rw[show List.take items.size (List.drop 0 items.toList)=items.toList by rw[List.drop_zero];exact qBN (by simp),qAB (by simp)];refine qAA (qAy (zIl (aN.keep (h:=s.heap) hot λb o _ e x=>hs₁.extBut b o (λz=>nh (by rw[<-z];exact e)) (qAM _ x)) nh hit₁ ((ht.push _).extBut hs₁.extBut hlt) (by simp) λh₂ he₂=>?_));simp only[Option.isSome_none,qCe,qB7];refine qAE (hQ h₂ λb o hb e=>he₂ b o hb (hs₁.extBut b o hb (qAM _ e)))
theorem zGx{env:Env}{elts:List Expr}{x1}{pos:Pos}{t:Addr}{items:Array Value}{Q:Unit->Shared->Prop}(hot:aN A s.heap)(ht:IsTup s.heap t items)
  (hn:(assignEach elts env).length=items.size) (hstar:(assignEach elts env).findIdx? (·.1)=none)
  (h:∀h',Heap.ExtBut s.heap.objs.size s.heap h'->wpAny (model prog w) A (assignInOrder ((assignEach elts env).map (·.2)) items.toList) Q E {s with heap:=h'}) :
  wpAny (model prog w) A (assign (.Tuple elts x1 pos) env (.ref t)) Q E s:=by
 rw[assign_Tuple];refine qAA (qCm ?_);unfold unpack;rw[hn,hstar];exact qAA (qAy (zHc hot ht h))
end
section
variable{prog:Program}{w:World}{A:Around}{E:Value->Shared->Prop}{s:Shared}
theorem aN.but{c:Addr}(x:aN A h)(n:A.handled≠some (.ref c))(k:Heap.ExtBut c h h'):aN A h':=x.keep λb o _ e y=>k b o (λz=>n (by rw[<-z];exact e)) y
theorem dD{z TI TO i1 i2 l1 l2:Addr}{k1 k2:Nat}{xs ys:Array Value}{a b:Value}{Q:Fin->Shared->Prop}(hot:aN A s.heap)(nz:A.handled≠some (.ref z))(nO:A.handled≠some (.ref TO))(n1:A.handled≠some (.ref i1))(n2:A.handled≠some (.ref i2))(D:ZipApart z TI TO i1 i2 l1 l2)
  (hz:IsZip s.heap z TI TO .none) (hTI:IsPair s.heap TI (.ref i1) (.ref i2)) (hTO:IsPair s.heap TO a b)
  (h1:s.heap.IsListIter i1 l1 k1) (h2:s.heap.IsListIter i2 l2 k2) (hl1:s.heap.IsList l1 xs) (hl2:s.heap.IsList l2 ys) (hend:xs[k1]?=none\/ys[k2]?=none)
  (hE:∀h' e,(∀c o,c≠z->c≠TO->c≠i1->c≠i2->s.heap.get? c=some o->h'.get? c=some o)->(∃o,h'.get? e=some o/\o.cls= .type "StopIteration")->E (.ref e) {s with heap:=h'}) :
  wpAny (model prog w) A (Builtin.«zip.__next__» ⟨[.ref z],[]⟩) Q E s:=by
 show wpAny _ _ (field (.ref z) 2 >>= _) _ _ _;refine qAA (qBE hz rfl (x:=.bool false) rfl ?_);show wpAny _ _ (field (.ref z) 3 >>= _) _ _ _;refine qAA (qBE hz rfl (x:=.ref TI) rfl ?_);refine qAA (qCO hTI rfl ?_);show wpAny _ _ (Builtin.SmallTypes.ownedTupleIsFree (.ref z) >>= _) _ _ _;refine qAA ?_;unfold Builtin.SmallTypes.ownedTupleIsFree;refine qAA (qBE hz rfl (x:=.none) rfl (qAE ?_));simp only[if_true];refine qAA (qBD ?_);refine qAA (qBE hz rfl (x:=.ref TO) rfl ?_);refine qAA (wpAny_setField_rec hz (by simp) λh₁ hz₁ hs₁=>?_)
 replace hz₁:IsZip h₁ z TI TO .ellipsis:=hz₁
 have t1:aN A h₁:=hot.but nz hs₁.extBut;refine qAA ?_;simp only[List.zipIdx_cons,List.zipIdx_nil,List.forIn_cons,List.forIn_nil];refine qAA (qAA (wpAny_onRaise ?_));show wpAny _ _ (Builtin.SmallTypes.nextOf (.ref i1) >>= _) _ _ _
 cases hx:xs[k1]? with
 |none=>
  refine qAA (zEu t1 n1 (h1.extBut hs₁.extBut D.i1z) (hl1.extBut hs₁.extBut D.l1z) hx λh₂ e hs₂ he=>?_);obtain⟨oe,hoe,hce⟩:=he;have hz₂:IsZip h₂ z TI TO .ellipsis:=hs₂ _ _ D.i1z.symm hz₁;have hez:e≠z:=λx=>by subst x;rw[hz₂]at hoe;cases hoe;simp at hce
  exact wpAny_setField_rec hz₂ (by simp) λh₃ _ hs₃=>hE h₃ e (λc o c1 _ c3 _ x=>hs₃.extBut _ _ c1 (hs₂ _ _ c3 (hs₁.extBut _ _ c1 x))) ⟨oe,hs₃.extBut _ _ hez hoe,hce⟩
 |some x=>
  have hy:ys[k2]?=none:=by rcases hend with h|h;rw[hx]at h;cases h;exact h
  refine qAA (wpAny_nextOf_list_item (h1.extBut hs₁.extBut D.i1z) (hl1.extBut hs₁.extBut D.l1z) hx λh₂ h1₂ hs₂=>qAE ?_);have hTO₂:IsPair h₂ TO a b:=hs₂.extBut _ _ D.TOi1 (hs₁.extBut _ _ D.TOz hTO);refine qAA (qCO hTO₂ rfl ?_);refine qAA (wpAny_updateSeq_pair hTO₂ λh₃ hTO₃ hs₃=>?_);refine qAA (wpAny_letGo (qAE ?_));refine qAA (qAA (wpAny_onRaise ?_));show wpAny _ _ (Builtin.SmallTypes.nextOf (.ref i2) >>= _) _ _ _;have t3:aN A h₃:=(t1.but n1 hs₂.extBut).but nO hs₃.extBut;refine qAA (zEu t3 n2 (((h2.extBut hs₁.extBut D.i2z).extBut hs₂.extBut D.i12.symm).extBut hs₃.extBut D.TOi2.symm) (((hl2.extBut hs₁.extBut D.l2z).extBut hs₂.extBut D.l2i1).extBut hs₃.extBut D.l2TO) hy λh₄ e hs₄ he=>?_);obtain⟨oe,hoe,hce⟩:=he;have hz₄:IsZip h₄ z TI TO .ellipsis:=hs₄ _ _ D.i2z.symm (hs₃.extBut _ _ D.TOz.symm (hs₂.extBut _ _ D.i1z.symm hz₁));have hez:e≠z:=λx=>by subst x;rw[hz₄]at hoe;cases hoe;simp at hce
  exact wpAny_setField_rec hz₄ (by simp) λh₅ _ hs₅=>hE h₅ e (λc o c1 c2 c3 c4 x=>hs₅.extBut _ _ c1 (hs₄ _ _ c4 (hs₃.extBut _ _ c2 (hs₂.extBut _ _ c3 (hs₁.extBut _ _ c1 x))))) ⟨oe,hs₅.extBut _ _ hez hoe,hce⟩
theorem zIh{z TI TO i1 i2 l1 l2:Addr}{k1 k2:Nat}{xs ys:Array Value}{a b:Value}{Q:Option Value->Shared->Prop}(hot:aN A s.heap)(nz:A.handled≠some (.ref z))(nO:A.handled≠some (.ref TO))(n1:A.handled≠some (.ref i1))(n2:A.handled≠some (.ref i2))(D:ZipApart z TI TO i1 i2 l1 l2)
  (hz:IsZip s.heap z TI TO .none) (hTI:IsPair s.heap TI (.ref i1) (.ref i2)) (hTO:IsPair s.heap TO a b)
  (h1:s.heap.IsListIter i1 l1 k1) (h2:s.heap.IsListIter i2 l2 k2) (hl1:s.heap.IsList l1 xs) (hl2:s.heap.IsList l2 ys) (hend:xs[k1]?=none\/ys[k2]?=none)
  (hQ:∀h',(∀c o,c≠z->c≠TO->c≠i1->c≠i2->s.heap.get? c=some o->h'.get? c=some o)->Q none {s with heap:=h'}):wpAny (model prog w) A (pyNext (.ref z)) Q E s:=by
 have hT:s.TypeIs (.ref z) "zip":= ⟨_,hz,rfl⟩;unfold pyNext;refine qAA (qB9 (qCc (name:=Str.ofString "__next__") hT F.slot_zip_next (qBy F.slot_zip_next hT F.entry_zip_next (dD hot.at1 nz nO n1 n2 D hz hTI hTO h1 h2 hl1 hl2 hend λh' e hk he=>?_) (F.args_zip_next_1 _))));obtain⟨o,ho,hc⟩:=he;refine qAA (qCP (T:="StopIteration") (b:=true) ⟨o,ho,hc⟩ isSubtype_stop ?_);exact qAE (hQ _ hk)
end
def j6(A:Around):Around:={A with handled:=none}
theorem kH{A:Around}{env:Env}{v:Value}(h:A.handled=some v):((j6 A).deeper env).mark (some v)=A.deeper env:=by
 cases A
 cases h
 rfl
structure gG(P:Program)(w:World)(K:PySem.W.Frag)(mg:Str->Option Value)(base:Heap)(k:Nat)(f:Addr)(fd:FuncData)(ps:List Str)(sp:Addr->Sp):Prop where
 len:∀a vs H Q E,sp a vs H Q E->vs.length=ps.length
 run:∀(A:Around)(outer:List Env)(s:Shared)(H:Hp)(args:Args)(us:List Value)(vs:List V)(Q:VK)(E:XK)(a:Addr),aB k (j6 A)->A.handled=some (.ref a)->f_ P w K mg base A outer s H->BindsTo s fd args (ps.zip us)->aj vs us->sp a vs H Q E ->
  codeAny (model P w) A (.call (.ref f) args) (CR CX0 outer P w H s Q E) s
theorem sR{P:Program}{w:World}{K:PySem.W.Frag}{mg:Str->Option Value}{base:Heap}{k:Nat}{f:Addr}{name qual:Str}{params:Arguments}{body:List Stmt}{dV kV doc pm cdv ct oc:Value}{an od:Option Addr}
  {osl:Array (Option Value)} {N ps:List Str} {sp:Addr->Sp} (lk:K.lookup f=some ⟨oc,od,.func (PySem.W.fnOf name qual params body scope dV kV doc pm an cdv ct),osl⟩) (hcd:PySem.W.codeIn K cdv qual=true) (S:ag N ps scope)
  (len:∀a vs H Q E,sp a vs H Q E->vs.length=ps.length)
  (hbody:∀(A:Around) (outer:List Env) (s:Shared) (H:Hp) (vs:List V) (Q:VK) (E:XK) (a:Addr),aB k (A.deeper (envOfC qual scope s.heap.objs.size f cdv))->sp a vs H Q E ->
   ∃t,PSs ((aM CX0 P w K mg base N qual scope f cdv A outer s H E).hnd a) body t/\t {nx:=λ_ H'=>Q .non H',rt:=Q} (start N vs) H) :
  gG P w K mg base (k+1) f (PySem.W.fnOf name qual params body scope dV kV doc pm an cdv ct) ps sp:=by
 refine⟨len,λA outer s H args us vs Q E a hr hh e0 hb r hsp=>?_⟩;have hl:=len _ _ _ _ _ hsp;have KX:K.In s.heap:=e0.mod.kin.keeps λb o e=>(e0.bs b o e).1;have lim:s.heap.NoLimit:=e0.mod.nolimit.keeps λb o e=>(e0.bs b o e).1
 have hkind:∀y∈ps.zip us,scope.names.lookup y.1=some .local\/(scope.names.lookup y.1=some .cell/\((cellsFrom (s.heap.objs.size+1) scope.names []).lookup y.1).isSome=true):=λ⟨n,v⟩ hy=>by
  rcases S.par n (qCn hy).1 with q|q
  .exact .inl q
  .exact .inr ⟨q,qCo _ _ _ (.inl q)⟩
 refine codeAny_call_function hr.depth (KX _ _ lk) rfl S.co S.gen rfl (PySem.W.codeRec_of KX hcd) (hb _ _ _ _ ?_);refine wpAny_newFunctionEnv_cells S.kind hkind λenv he s1 x=>?_;subst he;refine⟨lim.keeps x.toInCall.keep,codeAny_func ?_⟩;obtain⟨t,ht,hq⟩:=hbody (j6 A) outer s H vs Q E a (hr.deeper _) hsp;have I:=(cO (CX:=CX0) (E:=E) (A:=j6 A) (qual:=qual) (f:=f) (cd:=cdv) S rfl ⟨e0.frames,e0.mod,e0.bs,e0.bsz,e0.funs,e0.frf,e0.hok,e0.bare⟩ hl r x).to_hnd (a:=a);have q:=ht [] s1 (start N vs) H _ I hq;have eA:((aM CX0 P w K mg base N qual scope f cdv (j6 A) outer s H E).hnd a).A=A.deeper (envOfC qual scope s.heap.objs.size f cdv):=kH hh;rw[eA]at q;refine qAv q (λfl s' hs=>?_) λe s' hs=>hs.elim
 have fin:∀{σ':St}{H':Hp}{v:V}{u:Value},Inv ((aM CX0 P w K mg base N qual scope f cdv (j6 A) outer s H E).hnd a) [] σ' H' s'->am v u->Q v H'->CE outer P w H s Q u s' :=
  λ{σ' H' v u} J rv q=>⟨v,H',J.os,J.bare,J.base,J.hok,rv,q⟩
 cases fl with
 |ret u=>
  obtain⟨v,σ',H',J,rv,q⟩:=hs;exact fin J rv q
 |next=>
  obtain⟨σ',H',J,q⟩:=hs;exact fin (v:=V.non) (u:=Value.none) J rfl q
 |brk=>
  obtain⟨_,_,_,q⟩:=hs;exact False.elim q
 |cont=>
  obtain⟨_,_,_,q⟩:=hs;exact False.elim q
structure sG(P:Program)(w:World)(K:PySem.W.Frag)(mg:Str->Option Value)(base:Heap)(x:Str)(k:Nat)(ps:List Str)(sp:Addr->Sp):Prop where
 to:∃(f:Addr)(fd:FuncData),mg x=some (.ref f)/\PySem.W.keepIn K (.ref f)=true/\zDe K fd ps []/\gG P w K mg base k f fd ps sp
theorem oJ{x:Str}{k:Nat}{ps:List Str}{sp:Addr->Sp}{e:Expr}{es:List Expr}{p pos:Pos}{t:TA}(C:sG X.prog X.w X.K X.mg X.base x k ps sp)(hr:aB k X.A)(hg:Gl X x)(ha:PA (X.hnd a) (e::es) t)
  (hdb:(x==("__debug__": Str))=false:=by decide) (he:starEach (e::es) X.env=(false,eval e X.env)::starEach es X.env:=by rfl) (hpl:(backTo pos (starEach es X.env)).any (·.1)=false:=by rfl) :
  PE (X.hnd a) (.Call (.Name x p) (e::es) [] pos) (lW (sp a) [] E0 t):=by
 obtain⟨f,fd,hm,hk,hb,F⟩:=C.to;intro pins s σ H Q I h;refine qCG (zFj I hg hm ?_ hdb);refine qCW (h₀:=X.base) I.ok.mod.kin hk (thn (ha pos pins s σ H _ I h) λus s1 ⟨vs,H1,I1,r,q⟩=>⟨I1.kIn,?_⟩) he hpl;have q:sp a (vs++[]) H1 Q E0:=q;rw[qAm]at q;have hl:(us++[]).length=ps.length:=by rw[qAm,<-r.length];exact F.len _ _ _ _ _ q
 have hB:=hb s1 us I1.kIn hl;rw[qAm]at hB;refine qCF (qBf (F.run (X.hnd a).A X.stack s1 H1 ⟨us,[]⟩ us vs Q E0 a ⟨rfl,hr.dp,hr.un,hr.gd⟩ rfl I1.env0 hB r q) λr s' hq=>?_)
 cases r with
 |error e=>exact hq.elim
 |ok fl=>
  cases fl with
  |ret u=>exact I1.after hq
  |next=>exact False.elim hq
  |brk=>exact False.elim hq
  |cont=>exact False.elim hq
def mS(a:Addr)(H:Hp):Prop:=∃C dd,H a=some (bC a C dd)
theorem mS.at{pins:List (Addr×Obj)}{s:Shared}(h:mS a H)(I:Inv X pins σ H s)(hh:X.A.handled=some (.ref a)):aN X.A s.heap:=by
 obtain⟨C,dd,e⟩:=h;obtain⟨⟨o,e1,e2,e3,vs,e4,e5⟩,_⟩:=(show zBq _ _ _ _ _ (bC a C dd)from I.hok a _ e);exact⟨a,o,vs,hh,e1,e4,e5⟩
structure mm(xa:Addr)(P:Program)(w:World)(K:PySem.W.Frag)(tg:Expr)(J:It)(fp:List Addr)(it:Addr)(tn:Nat->Heap->Prop):Prop where
 mem:it∈fp
 obj:∀i h,tn i h->∀b∈fp,∃o,h.get? b=some o/\∀v,o.data≠.cell v
 keep:∀i h h',tn i h->(∀b∈fp,∀o,h.get? b=some o->h'.get? b=some o)->tn i h'
 item:∀(X:Cx),X.prog=P->X.w=w->X.K=K->X.A.handled=some (.ref xa)->∀(i:Nat) (pins:List (Addr×Obj)) (s:Shared) (σ:St) (H:Hp) (E:Value->Shared->Prop),Inv X pins σ H s->(∀b∈fp,bh X pins H b)->tn i s.heap->J.go i H ->
  wpAny (model P w) X.A (pyNext (.ref it)) (λr s1=>∃u,r=some u /\ wpAny (model P w) X.A (letOwnedTupleGo tg (.ref it) u) (λ_ s2=>∃x H',Inv X pins σ H' s2/\am x u/\J.yld i H x H'/\tn (i+1) s2.heap/\∀b∈fp,H' b=none) E s1) E s
 done:∀(X:Cx),X.prog=P->X.w=w->X.K=K->X.A.handled=some (.ref xa)->∀(i:Nat) (pins:List (Addr×Obj)) (s:Shared) (σ:St) (H:Hp) (E:Value->Shared->Prop),Inv X pins σ H s->(∀b∈fp,bh X pins H b)->tn i s.heap->J.stop i H ->
  wpAny (model P w) X.A (pyNext (.ref it)) (λr s1=>r=none/\Inv X pins σ H s1) E s
 self:∀(A:Around)(i:Nat)(s:Shared)(Q:Value->Shared->Prop)(E:Value->Shared->Prop),tn i s.heap->Q (.ref it) s->wpAny (model P w) A (pyIter (.ref it)) Q E s
def PIH(xa:Addr)(X:Cx)(tg iter:Expr)(wi:TI):Prop :=
 ∀(pins:List (Addr×Obj)) (s:Shared) (σ:St) (H:Hp) (R:It->Hp->Prop),Inv X pins σ H s->wi σ H R ->
  wpAny (model X.prog X.w) X.A (eval iter X.env) (λv s1=>wpAny (model X.prog X.w) X.A (pyIter v) (λitv s2=>∃(it:Addr)(fp:List Addr)(tn:Nat->Heap->Prop)(J:It)(H':Hp),itv= .ref it/\Inv X pins σ H' s2/\mm xa X.prog X.w X.K tg J fp it tn/\tn 0 s2.heap/\(∀b∈fp,bh X pins H' b)/\R J H') X.xe s1) X.xe s
def lV(K:PySem.W.Frag)(a b xa:Addr):It:=⟨(Itz K a b).go,(Itz K a b).yld,λi H=>(Itz K a b).stop i H/\mS xa H⟩
theorem jT{P:Program}{w:World}{K:PySem.W.Frag}{elts:List Expr}{kk:Nat}{tp:Pos}(a b z TI TO i1 i2:Addr)(D:jC z TI TO i1 i2):mm xa P w K (.Tuple elts kk tp) (lV K a b xa) [z,TI,TO,i1,i2] z (jI z TI TO i1 i2 a b) where
 mem:=by simp
 obj:=λi h st c hc=>by
  obtain⟨s1,s2,⟨p,q,s3⟩,⟨o4,s4,_,d4⟩,⟨o5,s5,_,d5⟩⟩:=st;have cs:c=z\/c=TI\/c=TO\/c=i1\/c=i2:=by simpa using hc
  rcases cs with e|e|e|e|e
  .rw [e];exact⟨_,s1,λv y=>by cases y⟩
  .rw [e];exact⟨_,s2,λv y=>by cases y⟩
  .rw [e];exact⟨_,s3,λv y=>by cases y⟩
  .rw [e];exact⟨o4,s4,λv y=>by rw[d4]at y;cases y⟩
  .rw [e];exact⟨o5,s5,λv y=>by rw[d5]at y;cases y⟩
 keep:=λi h h' ⟨s1,s2,⟨p,q,s3⟩,s4,s5⟩ k=>⟨k z (by simp) _ s1,k TI (by simp) _ s2,⟨p,q,k TO (by simp) _ s3⟩,s4.at λo y=>k i1 (by simp) o y,s5.at λo y=>k i2 (by simp) o y⟩
 item:=by
  intro X hP hw hK hc i pins s σ H E I hf st hg;subst hP hw hK;obtain⟨xs,ys,x,y,hq1,hq2,hx,hy⟩:=hg;obtain⟨its1,rv1,p1,_⟩:=I.list hq1;obtain⟨its2,rv2,p2,_⟩:=I.list hq2;obtain⟨u,hu,ru⟩:=rv1.get hx;obtain⟨v,hv,rv⟩:=rv2.get hy;have D':=st.apart D p1.isList p2.isList;obtain⟨s1,s2,⟨p,q,s3⟩,s4,s5⟩:=st;have hn:∀c∈[z,TI,TO,i1,i2],H c=none:=λc hc=>(hf c hc).1;refine wpAny_pyNext_zip_item D' s1 s2 s3 s4 s5 p1.isList p2.isList (x:=u) (y:=v) (by simpa using hu) (by simpa using hv) λk a1 a2 a3 a4 a5 a6 a7=>?_;refine⟨_,rfl,wpAny_letOwnedTupleGo_zip a1 λk2 z2 b2=>?_⟩;have b2:Heap.SameBut z k k2:=b2;have zsz:z<s.heap.objs.size:=qAI s1
  have lts:∀c∈[z,TI,TO,i1,i2],c≠s.heap.objs.size:=λc hc=>by
   have cs:c=z\/c=TI\/c=TO\/c=i1\/c=i2:=by simpa using hc
   rcases cs with e|e|e|e|e
   .rw [e];exact qAQ zsz
   .rw [e];exact qAQ (qAI s2)
   .rw [e];exact qAQ (qAI s3)
   .obtain ⟨o,g,_⟩:=s4;rw[e];exact qAQ (qAI g)
   .obtain ⟨o,g,_⟩:=s5;rw[e];exact qAQ (qAI g)
  have t2:k2.get? s.heap.objs.size=some {cls:=.type "tuple",data:=.seq #[u,v]}:=b2.extBut _ _ (qA4 zsz) a5;have on:∀c o,c∉[z,TI,TO,i1,i2]->s.heap.get? c=some o->k2.get? c=some o:=λc o nc g=>b2.extBut c o (λe=>nc (by simp[e])) (a7 c o (λe=>nc (by simp[e])) (λe=>nc (by simp[e])) (λe=>nc (by simp[e])) (λe=>nc (by simp[e])) g);have new:zBq X.prog X.w (upd H s.heap.objs.size (.tup [x,y])) k2 s.heap.objs.size (.tup [x,y]):=⟨by show(2:Nat)<=sizeLine;decide,[u,v],.cons ru (.cons rv .nil),⟨_,t2,rfl,_,rfl⟩⟩
  have I2:Inv X pins σ (upd H s.heap.objs.size (.tup [x,y])) {s with heap:=k2}:=I.call' (ch:=[z,TI,TO,i1,i2]) rfl (jm on (qAG _) (I.hok.fresh (qAG _))) (gI I.hok on hn (qAG _) new) I.bare λc hc=>by
   obtain⟨_,f1,_,f3,f4,f5⟩:=hf c hc;exact⟨f3,f1,f4,f5⟩
  refine⟨.ref s.heap.objs.size,_,I2,rfl,⟨_,x,y,rfl,I.hok.fresh (qAG _),rfl,λzs hz=>by rw[I.list_inj hz hq1];exact hx,λzs hz=>by rw[I.list_inj hz hq2];exact hy⟩,⟨z2,b2.extBut _ _ D.TIz (a7 _ _ D.TIz D.TITO D.TIi1 D.TIi2 s2),⟨u,v,b2.extBut _ _ D.TOz a2⟩,a3.extBut b2.extBut D.i1z,a4.extBut b2.extBut D.i2z⟩,λc hc=>?_⟩;rw[ad (lts c hc)];exact hn c hc
 done:=by
  intro X hP hw hK hc i pins s σ H E I hf st hg;subst hP hw hK;obtain⟨⟨xs,ys,hq1,hq2,hx⟩,ht⟩:=hg;obtain⟨its1,rv1,p1,_⟩:=I.list hq1;obtain⟨its2,rv2,p2,_⟩:=I.list hq2;have l1:=rv1.length;have l2:=rv2.length;have D':=st.apart D p1.isList p2.isList;obtain⟨s1,s2,⟨p,q,s3⟩,s4,s5⟩:=st;have hn:∀c∈[z,TI,TO,i1,i2],H c=none:=λc hc=>(hf c hc).1
  have nh:∀c∈[z,TI,TO,i1,i2],X.A.handled≠some (.ref c):=λc m e=>by
   rw[hc]at e
   cases e
   obtain⟨_,_,y⟩:=ht;rw[hn _ m]at y
   cases y
  refine zIh (ht.at I hc) (nh z (by simp)) (nh TO (by simp)) (nh i1 (by simp)) (nh i2 (by simp)) D' s1 s2 s3 s4 s5 p1.isList p2.isList ?_ λh' eb=>⟨rfl,?_⟩
  .rcases hx with z|z
   .exact .inl (by simp;lia)
   .exact .inr (by simp;lia)
  .have on:∀c o,c∉[z,TI,TO,i1,i2]->s.heap.get? c=some o->h'.get? c=some o:=λc o nc g=>eb c o (λe=>nc (by simp[e])) (λe=>nc (by simp[e])) (λe=>nc (by simp[e])) (λe=>nc (by simp[e])) g
   exact I.call' (s':={s with heap:=h'}) (ch:=[z,TI,TO,i1,i2]) rfl (mV on) (jc I.hok on hn) I.bare λc hc=>by
    obtain⟨_,f1,_,f3,f4,f5⟩:=hf c hc;exact⟨f3,f1,f4,f5⟩
 self:=λ_ _ _ _ _ ⟨s1,_⟩ h=>qDA s1 h
theorem fM{Y:Cx}{tg:Expr}{ifs:List Expr}{J:It}{fp:List Addr}{it D:Addr}{tn:Nat->Heap->Prop}{P:List (Addr×Obj)}{W:Nat->Nat->List V->St->Hp->Prop}{m0:Nat}
  {R:Result->Shared->Prop} {QD:Hp->Prop} {s4:Shared} {τ0:St} {H4:Hp}
  (hc:Y.A.handled=some (.ref xa)) (hx:∀e s,Y.xe e s->False) (hg:PG Y tg g) (ht:PTs Y ifs tt) (he:PE Y elt te) (T:mm xa Y.prog Y.w Y.K tg J fp it tn)
  (stat:∀{H':Hp},(∀b∈fp,H' b=none)->∀b∈fp,bh Y P H' b)
  (turn:∀i m ys τ H2,W i m ys τ H2->(J.stop i H2/\QD H2)\/(J.go i H2/\∃N:List V->St->Hp->Prop,(∀ys' τ' H',N ys' τ' H'->∃m',m'<m/\W (i+1) m' ys' τ' H')/\∀x H3,J.yld i H2 x H3->g x τ H3 fun τ' H4=>tt τ' H4 fun b H5 =>
   if b=true then te τ' H5 λv H6=>H6 D=some (.lst ys)/\ys.length<sizeLine/\N (ys++[v]) τ' (upd H6 D (.lst (ys++[v])))
   else N ys τ' H5))
  (fin:∀τ H' s',Inv Y P τ H' s'->QD H'->R (.ok .next) s')
  (I0:Inv Y P τ0 H4 s4) (t0:tn 0 s4.heap) (n0:∀b∈fp,H4 b=none) (w0:W 0 m0 [] τ0 H4) :
  codeAny (model Y.prog Y.w) Y.A (.compLoop (.ListComp elt [⟨tg,iter,ifs,0⟩] scope pos) 0 (.ref it) (.ref D) Y.env) R s4:=by
 have nx:∀{α:Type}{t:Sem α}{Q:α->Shared->Prop}{s:Shared},wpAny (model Y.prog Y.w) Y.A t Q Y.xe s->wpAny (model Y.prog Y.w) Y.A t Q (λ_ _=>False) s:=λh=>qAv h (λ_ _ q=>q) hx;refine cX (λn s'=>∃i ys τ H',Inv Y P τ H' s'/\tn i s'.heap/\(∀b∈fp,H' b=none)/\W i n ys τ H') ?_ m0 ⟨0,[],τ0,H4,I0,t0,n0,w0⟩;rintro n s5 ⟨i,ys,τ,H5,I5,st5,fr5,w5⟩;rcases turn i n ys τ H5 w5 with⟨stop,q⟩|⟨go,N,hN,step⟩
 .refine thn (T.done Y rfl rfl rfl hc i P s5 τ H5 _ I5 (stat fr5) st5 stop) λr s6 ⟨hr,I6⟩=>?_;subst hr;exact fin τ H5 s6 I6 q
 .refine thn (T.item Y rfl rfl rfl hc i P s5 τ H5 _ I5 (stat fr5) st5 go) λr s6 ⟨u,hr,h6⟩=>?_;subst hr;refine thn h6 λ_ s7 ⟨x,H7,I7,r7,y7,st7,fr7⟩=>?_;have I7':=I7.pinned (stat fr7) (T.obj _ _ st7);refine nx (thn (hg _ s7 τ H7 x u _ I7' r7 (step x H7 y7)) λ_ s8 ⟨τ8,H8,I8,q8⟩=>?_);refine nx (thn (ht _ s8 τ8 H8 _ I8 q8) λok s9 ⟨H9,I9,q9⟩=>?_)
  have again:∀{ys':List V}{H':Hp}{s':Shared},Inv Y (P++zIu fp s7.heap) τ8 H' s'->(∃m',m'<n/\W (i+1) m' ys' τ8 H')->∃m,m<n/\∃i ys τ H',Inv Y P τ H' s'/\tn i s'.heap/\(∀b∈fp,H' b=none)/\W i m ys τ H':=λ{ys' H' s'} I' ⟨m',hm,w'⟩=>by
   refine⟨m',hm,i+1,ys',τ8,H',I'.unpinned,T.keep _ _ _ st7 λb hb o e=>(I'.pin (b,o) (qAs _ (qAs _ (zC4 hb e)))).1,λb hb=>?_,w'⟩;obtain⟨o,e,d⟩:=T.obj _ _ st7 b hb;exact(I'.pin (b,o) (qAs _ (qAs _ (zC4 hb e)))).2.1
  cases ok with
  |false=>
   rw[qAB qAd]at q9 ⊢;exact again I9 (hN _ _ _ q9)
  |true=>
   rw[qAC rfl]at q9 ⊢;refine nx (thn (he _ s9 τ8 H9 _ I9 q9) λy s10 ⟨v,H10,I10,r10,hD,hz,w10⟩=>?_);refine nx (thn (zCb (X:=Y) _ s10 τ8 H10 (.ref D) [v] (.ref D) [y] (λ_ H'=>H'=upd H10 D (.lst (ys++[v]))) I10 rfl (.cons r10 .nil) ⟨D,ys,v,rfl,rfl,hD,hz,rfl⟩) λ_ s11 ⟨z,H11,I11,_,e11⟩=>?_);subst e11;exact again I11 (hN _ _ _ w10)
theorem kM{tg:Expr}{ifs:List Expr}{pos p1:Pos}{N:List Str}{ix:List (Option Nat)}{wi:TI}{pins:List (Addr×Obj)}{s:Shared}{Q:VK}{use:Option (Value->Sem Unit)}
  {Z:Value->Shared->Prop}
  (hc:X.A.handled=some (.ref xa)) (B:bF X scope) (Dr:ah X scope N ix) (hi:PIH xa X tg iter wi)
  (hg:∀C s₀ H₀ ex,PG (X.block scope C s₀ H₀ ex N) tg g) (ht:∀C s₀ H₀ ex,PTs (X.block scope C s₀ H₀ ex N) ifs tt) (he:∀C s₀ H₀ ex,PE (X.block scope C s₀ H₀ ex N) elt te)
  (hs:∀x,foldedSetIterable iter X.env x=pure x)
  (I:Inv X pins σ H s) (h:fK wi ix g tt te σ H Q)
  (fin:∀(D C:Addr) (H':Hp) (s':Shared) (m:Str->Option Value),Inv X pins σ H' s'->Q (.ref D) H'->s'.heap.Ns C m->(∀h',Heap.SameBut C s'.heap h'->Inv X pins σ H' {s' with heap:=h'})->C≠X.env.locals->(∀x c,X.env.cells.lookup x=some c->c≠C)->H' C=none ->
   (∀p∈X.pn++pins,p.1≠C)->X.s₀.heap.objs.size<=C->compPost (model X.prog X.w) X.A X.xe use Z (.ref D) C (.ok .next) s') :
  wpAny (model X.prog X.w) X.A (comprehension (.ListComp elt [⟨tg,iter,ifs,0⟩] scope pos) scope X.env p1 (newList []) false (eval iter X.env) use) Z X.xe s:=by
 have hfree:∀x∈scope.names,x.2= .free->∃c,X.env.cells.lookup x.1=some c:=λx hx e=>I.ok.has _ (B.free x hx e);refine wpAny_comprehension_free (use:=use) rfl hs (zF4 hfree) B.kind B.locs ?_;refine thn (hi pins s σ H _ I h) λv s1 h1=>thn h1 λitv s2 h2=>?_;obtain⟨it,fp,tn,J,H2,e,I2,T,st2,f2,R⟩:=h2;subst e;have hDf:H2 s2.heap.objs.size=none:=I2.hok.fresh (qAG _);obtain⟨W,⟨m0,w0⟩,turn⟩:=R _ hDf;refine qBa ?_ (by show(0:Nat)<=sizeLine;exact qAi _);have I3:Inv X pins σ (upd H2 s2.heap.objs.size (.lst [])) {s2 with heap:=s2.heap.push {cls:=.type "list",data:=.seq ([]:List Value).toArray}}:=I2.lnew (t':=s2.toks) (ys:=[]) (its:=[]) .nil (qAi _);generalize hD:s2.heap.objs.size=D at *
 have fpo:∀b∈fp,∃o,s2.heap.get? b=some o:=λb hb=>let⟨o,q,_⟩:=T.obj _ _ st2 b hb;⟨o,q⟩
 have fpD:∀b∈fp,b≠D:=λb hb=>by
  obtain⟨o,q⟩:=fpo b hb;rw[<-hD];exact qAQ (qAI q)
 have f3:∀b∈fp,bh X pins (upd H2 D (.lst [])) b:=λb hb=>⟨by rw[ad (fpD b hb)];exact(f2 b hb).1,(f2 b hb).2⟩;generalize hs3:({s2 with heap:=s2.heap.push {cls:=.type "list",data:=.seq ([]:List Value).toArray}}:Shared)=s3 at I3 ⊢;have k23:∀b o,s2.heap.get? b=some o->s3.heap.get? b=some o:=λb o q=>by rw[<-hs3];exact qAM _ q
 have fpo3:∀b∈fp,∃o,s3.heap.get? b=some o:=λb hb=>let⟨o,q⟩:=fpo b hb;⟨o,k23 b o q⟩;have st3:tn 0 s3.heap:=T.keep _ _ _ st2 λb hb o q=>k23 b o q;refine zDf ?_;have k34:∀b o,s3.heap.get? b=some o->(pushCells (s3.heap.push {cls:=.type "dict",data:=.dict #[]}) scope.names).get? b=some o:=λb o q=>qCw _ _ b o (qAM _ q);have hns4:(pushCells (s3.heap.push {cls:=.type "dict",data:=.dict #[]}) scope.names).Ns s3.heap.objs.size (λ_=>none):=(Heap.Ns.new s3.heap (.type "dict")).keeps (qCw _ _)
 have hcl4:∀x c,(cellsFrom (s3.heap.objs.size+1) scope.names (aI X.env scope.names [])).lookup x=some c->∃v,(pushCells (s3.heap.push {cls:=.type "dict",data:=.dict #[]}) scope.names).IsCell c v:=λx c e=>by
  refine zCx (h:=s3.heap.push {cls:=.type "dict",data:=.dict #[]}) (acc:=aI X.env scope.names []) (λy d hy=>?_) (by rw[qBR];exact e);obtain⟨v,o,ho,hd⟩:=I3.cell y d (zDn (λy d z=>by simp at z) hy);exact⟨v,o,qAM _ ho,hd⟩
 have IB:=I3.blockStart (tk:=s3.toks) B Dr f3 fpo3 hns4 k34 hcl4;generalize hh4:pushCells (s3.heap.push {cls:=.type "dict",data:=.dict #[]}) scope.names=h4 at *
 generalize hC:s3.heap.objs.size=C at *
 have hCX:X.s₀.heap.objs.size<=C:=by rw[<-hC];exact I3.sz
 have CL:C≠X.env.locals:=by rw[<-hC];exact qA4 I3.lt
 have Cc:∀x c,X.env.cells.lookup x=some c->c≠C:=λx c q=>by
  obtain⟨v,o,ho,_⟩:=I3.cell x c q;rw[<-hC];exact qAQ (qAI ho)
 have Cp:∀p∈X.pn++pins,p.1≠C:=λp hp=>by
  rw[<-hC];exact qAQ (qAI (I3.pin p hp).1)
 have fpC:∀b∈fp,b≠C:=λb hb=>by
  obtain⟨o,q⟩:=fpo3 b hb;rw[<-hC];exact qAQ (qAI q)
 have stat:∀{H':Hp},(∀b∈fp,H' b=none)->∀b∈fp,bh (X.block scope C s3 (upd H2 D (.lst [])) fp N) (X.pn++pins) H' b:=λ{H'} hn b hb=>by
  obtain⟨_,q1,q2,q3,q4,q5⟩:=f2 b hb;exact⟨hn b hb,fpC b hb,I3.nostk q1 q2,.inl hb,λx c e=>(zCg e).elim (λz=>q4 x c (zDn (λy d z=>by simp at z) z)) (λz=>by obtain⟨o,q⟩:=fpo3 b hb;have:=qAI q;rw[hC]at this;exact qA4 (qAj (qBs this) z.1)),λp hp=>q5 p (by simpa[Cx.block]using hp)⟩
 have st4:tn 0 h4:=T.keep _ _ _ st3 λb hb o q=>k34 b o q;have n4:∀b∈fp,(upd H2 D (.lst [])) b=none:=λb hb=>(f3 b hb).1
 have loop:=fM (Y:=X.block scope C s3 (upd H2 D (.lst [])) fp N) (iter:=iter) (pos:=pos) (scope:=scope) (D:=D) (R:=compPost (model X.prog X.w) X.A X.xe use Z (.ref D) C) hc (λ_ _ z=>z) (hg C s3 _ fp) (ht C s3 _ fp) (he C s3 _ fp) T stat turn
  (fun τ H' s' I' q=>by
   have I5:Inv X pins σ H' s':=I3.call' (ch:=fp) I'.os I'.base I'.hok I'.bare λb hb=>by
    obtain⟨_,q1,q2,q3,q4,q5⟩:=f2 b hb;exact⟨q3,q1,q4,q5⟩
   obtain⟨m,hn,_⟩:=I'.loc;have hC0:H' C=none:=I'.free;exact fin D C H' s' m I5 q hn (λh'' hs''=>I5.turned (t':=s'.toks) (λb o hb e=>hs''.extBut b o hb e) hC0 CL (.inr hCX) Cc Cp) CL Cc hC0 Cp hCX) IB st4 n4 w0
 exact codeAny_compStart_list loop (T.self _ 0 _ _ _ st4 loop)
theorem mI{xa:Addr}{tg:Expr}{ifs:List Expr}{N:List Str}{ix:List (Option Nat)}{wi:TI}(hc:X.A.handled=some (.ref xa))(B:bF X scope)(Dr:ah X scope N ix)(hi:PIH xa X tg iter wi)
  (hg:∀C s₀ H₀ ex,PG (X.block scope C s₀ H₀ ex N) tg g) (ht:∀C s₀ H₀ ex,PTs (X.block scope C s₀ H₀ ex N) ifs tt) (he:∀C s₀ H₀ ex,PE (X.block scope C s₀ H₀ ex N) elt te)
  (hs:∀x,foldedSetIterable iter X.env x=pure x:=by intro _;rfl):PE X (.ListComp elt [⟨tg,iter,ifs,0⟩] scope pos) (fK wi ix g tt te):=by
 intro pins s σ H Q I h;rw[eval_ListComp];exact kM (use:=none) hc B Dr hi hg ht he hs I h λD C H' s' m I' q hn k _ _ _ _ _=>⟨m,hn,λh' hs'=>⟨.ref D,H',k h' hs',rfl,q⟩⟩
section
variable{X:Cx}{elts:List Expr}{kk:Nat}{tp:Pos}
inductive nS(xa:Addr)(K:PySem.W.Frag)(R:It->Hp->Prop)(vs:List V)(H1:Hp):Prop
 |mk:∀a b,vs=[.ref a,.ref b]->(∃xs,SqL K H1 a xs)->(∃ys,SqL K H1 b ys)->R (lV K a b xa) H1->nS xa K R vs H1
def ur(xa:Addr)(K:PySem.W.Frag)(ta:TA):TI:=λσ H R=>ta σ H λvs H1=>nS xa K R vs H1
theorem pB{xa:Addr}{a b:Expr}{ta:TA}{p:Pos}(hg:Gl X "zip")(hm:X.mg "zip"=none)(ha:PA X [a,b] ta)(he:starEach [a,b] X.env=(false,eval a X.env)::starEach [b] X.env:=by rfl)(hpl:(backTo pos (starEach [b] X.env)).any (·.1)=false:=by rfl):PIH xa X (.Tuple elts kk tp) (.Call (.Name "zip" p) [a,b] [] pos) (ur xa X.K ta):=by
 intro pins s σ H R I h;refine Call_ (zHz I hg hm gw (qCT (thn (ha pos pins s σ H _ I h) λus s1 ⟨vs,H1,I1,r1,q1⟩=>?_) he hpl));obtain⟨a,b,e,⟨xs,hq1⟩,⟨ys,hq2⟩,q⟩:=q1;subst e
 obtain⟨u,v,rfl,ru,rv⟩:∃u v,us=[u,v]/\am (.ref a) u/\am (.ref b) v:=by
  cases r1 with
  |cons ra r2=>cases r2 with
   |cons rb r3=>cases r3;exact⟨_,_,rfl,ra,rb⟩
 cases ru
 cases rv
 obtain⟨its1,r1,p1,_⟩:=I1.list hq1;obtain⟨its2,r2,p2,_⟩:=I1.list hq2;refine call_zip_2 p1.isList p2.isList λh' e1 e2 e3 e4 e5 e6 e7=>qDA e1 ?_;refine⟨s1.heap.objs.size+4,[s1.heap.objs.size+4,s1.heap.objs.size+2,s1.heap.objs.size+3,s1.heap.objs.size,s1.heap.objs.size+1],_,_,H1,rfl,I1.kept (t':=s1.toks) e7,jT a b (s1.heap.objs.size+4) (s1.heap.objs.size+2) (s1.heap.objs.size+3) s1.heap.objs.size (s1.heap.objs.size+1) (gf _),⟨e1,e2,⟨_,_,e3⟩,e4,e5⟩,λc hc=>?_,q⟩;have cs:c=s1.heap.objs.size+4\/c=s1.heap.objs.size+2\/c=s1.heap.objs.size+3\/c=s1.heap.objs.size\/c=s1.heap.objs.size+1:=by simpa using hc
 have ge:s1.heap.objs.size<=c:=by
  rcases cs with e|e|e|e|e<;>(rw[e];lia)
 exact I1.fpOk ge (I1.hok.fresh ge)
inductive qL(xa:Addr)(K:PySem.W.Frag)(n:Nat)(t:TGs)(v:V)(σ:St)(H:Hp)(Q:St->Hp->Prop):Prop
 |mk:∀a xs,v= .ref a->SqT K H a xs->xs.length=n->mS xa H->t xs σ H Q->qL xa K n t v σ H Q
theorem qd{K:PySem.W.Frag}{xa:Addr}{es:List Expr}{k:Nat}{t:TGs}{n:Nat}{pos:Pos}(hc:X.A.handled=some (.ref xa))(h:PGs X es t)(hK:X.K=K:=by rfl)
  (hn:(assignEach es X.env).length=n:=by rfl) (hst:(assignEach es X.env).findIdx? (·.1)=none:=by rfl):PG X (.Tuple es k pos) (qL xa K n t):=by
 subst hK;intro pins s σ H v u Q I r hw;obtain⟨a,xs,e1,hq,hl,ht,hw⟩:=hw;subst e1
 cases r
 obtain⟨its,rv,hp,hz⟩:=I.tuple hq;refine zGx (ht.at I hc) hp (by simp[hn,<-hl,rv.length]) hst λh' hx=>?_;have I1:Inv X pins σ H {s with heap:=h'}:=I.kept (t':=s.toks) λb o e=>hx b o (qAQ (qAI e)) e;exact h pins _ σ H xs _ Q I1 (by simpa using rv) hw
end
theorem kT{K:PySem.W.Frag}{b:Addr}{xs ys:List V}{ix:List (Option Nat)}{QD:Hp->Prop}{H1:Hp}{D:Addr}(hl:ys.length=xs.length)(Pv:Nat->List V->St->Hp->Prop)(h0:Pv 0 [] (zDr σ ix) (upd H1 D (.lst [])))
  (hJ:∀i zs τ H,Pv i zs τ H->SqL K H a xs/\SqL K H b ys/\mS xa H)
  (hs:∀i x y t zs τ H,xs[i]?=some x->ys[i]?=some y->Pv i zs τ H->H t=none->g (.ref t) τ (upd H t (.tup [x,y])) λτ' H4=>tt τ' H4 λc H5=>if c=true then te τ' H5 λv H6=>H6 D=some (.lst zs)/\zs.length<sizeLine/\Pv (i+1) (zs++[v]) τ' (upd H6 D (.lst (zs++[v])))else Pv (i+1) zs τ' H5)
  (hd:∀zs τ H,Pv xs.length zs τ H->QD H) :
  ∃W:Nat->Nat->List V->St->Hp->Prop,(∃m,W 0 m [] (zDr σ ix) (upd H1 D (.lst [])))/\∀i m zs τ H2,W i m zs τ H2 ->
   ((lV K a b xa).stop i H2/\QD H2)\/((lV K a b xa).go i H2/\∃N:List V->St->Hp->Prop,(∀zs' τ' H',N zs' τ' H'->∃m',m'<m/\W (i+1) m' zs' τ' H')/\∀x H3,(lV K a b xa).yld i H2 x H3->g x τ H3 λτ' H4=>tt τ' H4 λc H5=>if c=true then te τ' H5 λv H6=>H6 D=some (.lst zs)/\zs.length<sizeLine/\N (zs++[v]) τ' (upd H6 D (.lst (zs++[v]))) else N zs τ' H5):=by
 refine⟨λi m zs τ H=>m=xs.length-i/\i<=xs.length/\Pv i zs τ H,⟨xs.length,by simp,qAi _,h0⟩,?_⟩;rintro i m zs τ H ⟨rfl,hi,p⟩;obtain⟨q1,q2,q3⟩:=hJ i zs τ H p
 by_cases hlt:i<xs.length
 .refine .inr ⟨⟨xs,ys,xs[i],ys[i],q1,q2,by simp[hlt],by simp[hl,hlt]⟩,Pv (i+1),λzs' τ' H' p'=>⟨xs.length-(i+1),by lia,rfl,hlt,p'⟩,λv H' y=>?_⟩;obtain⟨t,x,y,rfl,hn,rfl,y1,y2⟩:=y;exact hs i x y t zs τ H (y1 xs q1) (y2 ys q2) p hn
 .have e:i=xs.length:=by lia
  subst e;exact .inl ⟨⟨⟨xs,ys,q1,q2,.inl (qAG _)⟩,q3⟩,hd zs τ H p⟩
end L2
namespace My
open PySem L2
variable{H:Hp}{f:Addr}
section
variable{K:PySem.W.Frag}
theorem tV:PySem.W.kitOne K (.type "NoneType") (.type "int")=some false:=by rfl
theorem rF:PySem.W.kitOne K (.type "bool") (.type "int")=some true:=by rfl
theorem sA:PySem.W.kitOne K (.type "str") (.type "int")=some false:=by rfl
theorem rY:PySem.W.kitOne K (.type "list") (.type "int")=some false:=by rfl
theorem sD:PySem.W.kitOne K (.type "tuple") (.type "int")=some false:=by rfl
theorem rL:PySem.W.kitOne K (.type "dict") (.type "int")=some false:=by rfl
end
def cr(v:V):Bool:=match v with
 | .int _=>true
 |_=>false
theorem cM{v:V}(h:cr v=true):∃i,v= .int i:=by
 cases v with
 |int i=>exact⟨i,rfl⟩
 |_=>cases h
theorem _root_.L2.af.whole{K:PySem.W.Frag}{v:V}(h:af H v):(∃t,ao K H v t/\PySem.W.kitOne K t (.type "int")=some false/\cr v=false)\/(∃b,v= .bl b)\/∃i,v= .int i:=by
 rcases h with⟨x,rfl⟩|rfl|h|h|⟨a,rfl,h⟩
 .exact .inl ⟨_,ao.str x,sA,rfl⟩
 .exact .inl ⟨_,ao.non,tV,rfl⟩
 .exact .inr (.inl h)
 .exact .inr (.inr h)
 .rcases h with⟨xs,h⟩|⟨xs,h⟩|⟨xs,h⟩
  .exact .inl ⟨_,ao.lst h,rY,rfl⟩
  .exact .inl ⟨_,ao.tup h,sD,rfl⟩
  .exact .inl ⟨_,ao.dK h,rL,rfl⟩
def bY(v:V):Bool:=match v with
 | .int i=>decide (1<=i)
 |_=>false
structure XC(K:PySem.W.Frag)(mg:Str->Option Value)(x:Str)(C:Addr):Prop where
 mgC:mg x=some (.ref C)
 ok:PySem.W.excIn K C iH "ValueError.__new__"=true
section
variable{P:Program}{w:World}{K:PySem.W.Frag}{mg:Str->Option Value}{base:Heap}{C:Addr}
theorem _root_.L2.ak.lift{k:Nat}{fd:FuncData}{ps:List Str}{sp:Sp}(F:ak P w K mg base CX0 k f fd ps sp):ak P w K mg base (CX1 P w) k f fd ps sp :=
 ⟨F.len,λA outer s H args us vs Q E hr e0 hb r h=>qBf (F.run A outer s H args us vs Q E hr e0 hb r h) λrr s' hq=>by
  cases rr with
  |error e=>exact hq.elim
  |ok fl=>cases fl<;>exact hq⟩
theorem _root_.L2.ak.both{CX:CXT}{k:Nat}{fd:FuncData}{ps:List Str}{sp1 sp2 sp:Sp}(F1:ak P w K mg base CX k f fd ps sp1)(F2:ak P w K mg base CX k f fd ps sp2)(h:∀vs H Q E,sp vs H Q E->sp1 vs H Q E\/sp2 vs H Q E):ak P w K mg base CX k f fd ps sp :=
 ⟨λvs H Q E q=>(h vs H Q E q).elim (F1.len vs H Q E) (F2.len vs H Q E),λA outer s H args us vs Q E hr e0 hb r q=>(h vs H Q E q).elim (F1.run A outer s H args us vs Q E hr e0 hb r) (F2.run A outer s H args us vs Q E hr e0 hb r)⟩
inductive a9(vs:List V)(H:Hp)(Q:VK)(u_3:XK):Prop
 |mk:∀v,vs=[v]->af H v->Q (.bl (cr v)) H->a9 vs H Q u_3
theorem kg{fd:FuncData}(F:Fun K "is_whole" "is_whole" zE1 f fd)(T:Txt K mg):ak P w K mg base CX0 1 f fd ["thing"] a9:=by
 refine F.ok zHj (λvs H Q E h=>?_) (λcdv A outer s H vs Q E hr h=>?_)
 .obtain ⟨v,rfl,_⟩:=h;rfl
 .obtain ⟨v,rfl,hv,k⟩:=h;refine⟨_,(zAe (zAw (dL (zAi zBg (by rfl) T.z_isinstance zAl (zAa (pv 0) (zAa (zBw (by rfl) T.z_int zIb (v:=.ty "int") rfl) zAb))) (cu (oH (zAi zBg (by rfl) T.z_isinstance zAl (zAa (pv 0) (zAa (zBw (by rfl) T.z_bool jH (v:=.ty "bool") rfl) zAb)))))))),?_⟩;rcases hv.whole (K:=K)with⟨t,ty,kt,e⟩|⟨b,rfl⟩|⟨i,rfl⟩
  .refine ⟨_,rfl,_,_,_,_,rfl,ty,kt,_,rfl,aw ?_⟩;rw[e]at k;exact k
  .refine ⟨_,rfl,_,_,_,_,rfl,ao.bl b,rF,_,rfl,bp ?_⟩;exact⟨_,rfl,_,_,_,_,rfl,ao.bl b,zA1,_,rfl,k⟩
  .refine ⟨_,rfl,_,_,_,_,rfl,ao.int i,zA1,_,rfl,bp ?_⟩;exact⟨_,rfl,_,_,_,_,rfl,ao.int i,oz,_,rfl,k⟩
inductive b9(C:Addr)(vs:List V)(H:Hp)(u_2:VK)(E:XK):Prop
 |mk:∀v,vs=[v]->af H v->bY v=false->E (.ref C) none H->b9 C vs H u_2 E
theorem kJ{Cb:Addr}{fd:FuncData}(F:Fun K "check_benches" "check_benches" zB4 f fd)(U:XC K mg "NoBench" Cb)(C_is_whole:Cal P w K mg base "is_whole" 1 ["thing"] a9):ak P w K mg base (CX1 P w) 2 f fd ["benches"] (b9 Cb):=by
 refine Fun.okX F zEf (λvs H Q E h=>?_) (λcdv A outer s H vs Q E hr h=>?_)
 .obtain ⟨v,rfl,_⟩:=h;rfl
 .obtain ⟨v,rfl,hv,kb,k⟩:=h
  refine⟨_,(zAe (zBk (PW.pt (zEk (zBm (zBi (zAh C_is_whole hr rfl (zAa (pv 0) zAb)))) (zDv (zAr fQ (pv 0) zAd (zAv _))))) (zAe (zDk zGq rfl rfl U.mgC U.ok (zAa zAu zAb))) zAs)),?_⟩
  refine⟨_,rfl,v,rfl,hv,?_⟩
  cases hb:cr v with
  |false=>exact⟨_,rfl,bp ⟨by show(1:Nat)<=sizeLine;decide,k⟩⟩
  |true=>
   obtain⟨i,rfl⟩:=cM hb;refine⟨_,rfl,aw ?_⟩;refine⟨_,rfl,_,_,rfl,rfl,_,rfl,?_⟩;have:=of_decide_eq_false (show decide (1<=i)=false from kb);rw[qAV (show i<1 by lia)];exact bp ⟨by show(1:Nat)<=sizeLine;decide,k⟩
def fo(Cb:Addr):Sp:=λvs H Q E=>bJ vs H Q E\/b9 Cb vs H Q E
end
structure au(H:Hp)(l:Addr)(as:List Addr)(rs:List (List Str)):Prop where
 top:H l=some (.lst (as.map V.ref))
 len:as.length=rs.length
 row:∀(i:Nat)(a:Addr)(r:List Str),as[i]?=some a->rs[i]?=some r->H a=some (.lst (r.map V.str))
theorem au.kp{H':Hp}{l:Addr}{as:List Addr}{rs:List (List Str)}(R:au H l as rs)(k:Kp [] H H'):au H' l as rs :=
 ⟨k l _ R.top (by simp),R.len,λi a r e1 e2=>k a _ (R.row i a r e1 e2) (by simp)⟩
theorem au.at{l:Addr}{as:List Addr}{rs:List (List Str)}(R:au H l as rs){i:Nat}(h:i<rs.length):∃a r,as[i]?=some a/\rs[i]?=some r/\(as.map V.ref)[i]?=some (.ref a)/\H a=some (.lst (r.map V.str)):=by
 have hi:i<as.length:=by rw[R.len];exact h
 have e1:as[i]?=some as[i]:=by simp[hi]
 have e2:rs[i]?=some rs[i]:=by simp[h]
 exact⟨as[i],rs[i],e1,e2,by rw[qAY,e1];rfl,R.row i _ _ e1 e2⟩
theorem zH0{M:List Addr}{e:Addr}{H1 H2:Hp}(a:Kp M H H1)(f:Fre H e)(b:Kp [e] H1 H2):Kp M H H2:=λc o h n=>b c o (a c o h n) (nm1 (ae f h))
end My
namespace L2
open PySem PySem.Spec PyProof.Rows
section
variable{X:Cx}
theorem zF8(hc:X.calm=true):zCz X (.builtin "sum") (λxs H Q=>∃(p:Addr)(ns:List Int),xs=[.ref p]/\SqL X.K H p (ns.map V.int)/\Q (.int ns.sum) H):=by
 intro pins s σ H xs us Q I rv h;obtain⟨p,ns,rfl,hq,q⟩:=h;obtain⟨u,rfl,ru⟩:=rv.one
 cases ru
 obtain⟨its,r,pl,hz⟩:=I.list hq;obtain⟨xs,rfl,e⟩:=qB r
 have hI:s.heap.IsList p (intItems xs.toArray):=by
  have:=pl.isList
  rwa [show(xs.map λp=>Value.int p.1 p.2).toArray=intItems xs.toArray from by unfold intItems;simp]at this
 refine sum_intListG (I.ok.hd hc) hI λh' tk tk' hk=>?_
 have es:preSum (numAt xs.toArray) xs.toArray.size=ns.sum:=by
  rw[PySem.preSum_eq,<-e,qAS,qBN (by simp)]
 exact⟨.int ns.sum,H,I.kept (t':=tk) hk,⟨_,by rw[es]⟩,q⟩
inductive gg(x:V)(vs:List V)(H:Hp)(Q:VK):Prop
 |mk:∀l xs i y,x= .ref l->vs=[.int i,y]->H l=some (.lst xs)->xs.length<sizeLine->0<=i->i<1000->Q .non (upd H l (.lst (xs.take i.toNat++y::xs.drop i.toNat)))->gg x vs H Q
theorem ii:MtM X "list.insert" gg:=by
 intro pins s σ H x vs v us Q I rx rv h;obtain⟨l,xs,i,y,rfl,rfl,hH,hz,h0,h1,q⟩:=h
 cases rx
 obtain⟨u1,u,rfl,r1,ru⟩:=rv.two;obtain⟨t,rfl⟩:=r1;obtain⟨z,its,n,r,hl,e⟩:=I.lstM hH
 have hfit:¬(!Builtin.List.listFitsIndex i)=true:=by
  unfold Builtin.List.listFitsIndex;rw[qAV (show -(2^63:Int)<=i by lia),qAV (show i<2^63 by lia)];decide
 refine qBT F.slot_list_insert ⟨_,e,rfl⟩ F.entry_list_insert (F.args_list_insert_3 _ _ _) (PySem.AutoListH.list_insert_list_int_val_1 l its.toArray n i t u hfit (by rw[qAS];lia)) ⟨e,?_⟩;refine⟨.non,_,I.lset (its':=its.take i.toNat++u::its.drop i.toNat) hH e ?_ ((r.take _).append (.cons ru (r.drop _))) ?_,rfl,q⟩
 .have hk:(if i<0 then(i+((its.toArray.size:Nat):Int)).toNat else min i.toNat its.toArray.size)=min i.toNat its.length:=by
   rw[qAB (by lia),qAS]
  show(its.toArray.extract 0 _).push u++its.toArray.extract _=_;rw[hk];apply Array.ext';rw[qCY,qCK,qBi,qBi,qBK]
  have t1:its.take (min i.toNat its.length)=its.take i.toNat:=by
   by_cases c:i.toNat<=its.length
   .rw [Nat.min_eq_left c]
   .rw [Nat.min_eq_right (by lia),qBN (qAG _),qBN (by lia)]
  have t2:its.drop (min i.toNat its.length)=its.drop i.toNat:=by
   by_cases c:i.toNat<=its.length
   .rw [Nat.min_eq_left c]
   .rw [Nat.min_eq_right (by lia),qCf (qAG _),qCf (by lia)]
  simp[List.extract_eq_drop_take,t1,t2];exact qBN (by rw[qAz];lia)
 .rw [qAN,qAa,qAU,qAz];lia
end
end L2
namespace My
open PySem L2
variable{P:Program}{w:World}{K:PySem.W.Frag}{mg:Str->Option Value}{base:Heap}{C:Addr}
variable{i m n:Nat}{f l c a s:Addr}{fd:FuncData}{X:Cx}{H H':Hp}{e:Expr}{xs:List V}{Q:VK}{D:a_}{σ:St}{v:V}{es:List Expr}{te:TE}{t:L2.TA}{pos:Pos}{x:Str}{st:Stmt}
structure bi(J:JR)(bs:List (List Str)):Prop where
 ne:∀B∈bs,B≠[]
 ns:∀B∈bs,∀x∈B,x∈J.ns
 nd:bs.flatten.Nodup
 nx:∀(i:Nat)(B B':List Str),bs[i]?=some B->bs[i+1]?=some B'->∀x∈B,∀y∈B',x∈J.S y
theorem i_{bs:List (List Str)}{B:List Str}(nd:bs.flatten.Nodup)(h:B∈bs):B.Nodup:=nd.sublist (List.sublist_flatten_of_mem h)
theorem uO{bs:List (List Str)}{B:List Str}(nd:bs.flatten.Nodup)(h:bs[i]?=some B):∀x∈B,x∉(bs.take i).flatten:=by
 have hi:=(qAL.mp h).1
 have e:bs=bs.take i++(B::bs.drop (i+1)):=by
  have h1:=(qBb i bs).symm;rw[qC7 hi]at h1;rw[(qAL.mp h).2]at h1;exact h1
 rw[e,qBn,qBA]at nd;intro x hx hm;exact(qBX.mp nd).2.2 x hm x (qAp _ hx) rfl
theorem nQ{J:JR}{bs:List (List Str)}(G:bi J bs)(few:J.ns.length<=20)(i:Nat):((bs.take i).flatten).length<=20:=by
 have s1:((bs.take i).flatten).Sublist bs.flatten:=by
  have e:bs.flatten=(bs.take i).flatten++(bs.drop i).flatten:=by rw[<-qBn,qBb]
  rw[e];exact List.sublist_append_left _ _
 refine qAW (zB3 (G.nd.sublist s1) λx hx=>?_) few;obtain⟨B,hB,hx⟩:=qDB.mp hx;exact G.ns B (qBj hB) x hx
def tf(m b:Int):Int:=(m+b-1) / b
section
inductive pH(vs:List V)(H:Hp)(Q:VK)(u_3:XK):Prop
 |mk:∀(m b:Int),vs=[.int m,.int b]->1<=b->b<10^100->Q (.int (tf m b)) H->pH vs H Q u_3
abbrev zDp:Stmt:=top 32
theorem zHg:ag ["many","benches"] ["many","benches"] (zAg zDp):=fnS
theorem zHq(F:Fun K "turns_filled" "turns_filled" zDp f fd):ak P w K mg base CX0 1 f fd ["many","benches"] pH:=by
 refine F.ok zHg (λvs H Q E h=>?_) (λcdv A outer s H vs Q E hr h=>?_)
 .obtain ⟨m,b,rfl,_⟩:=h;rfl
 .obtain ⟨m,b,rfl,h1,h2,k⟩:=h;exact⟨_,(zAe (zAw (zAn zBr (zAn zE9 (zAn zCy (pv 0) (pv 1)) zAd) (pv 1)))),⟨_,rfl,_,rfl,_,_,rfl,rfl,_,_,rfl,rfl,_,rfl,_,_,rfl,rfl,⟨by lia,h2⟩,k⟩⟩
inductive nw(C:Addr)(vs:List V)(H:Hp)(Q:VK)(u_3:XK):Prop
 |mk:∀(j r:Addr)(J:JR)(x:Str)(row:List Str),vs=[.ref j,.str x,.ref r]->aD C H j J->x∈J.ns->Txs H r row->row.length<=20->(∀y∈row,y∈J.ns/\x∈J.S y)->(∀H',Kp [] H H'->Q (.bl true) H')->nw C vs H Q u_3
abbrev zBl:Stmt:=top 40
theorem zDs:ag ["jobs","name","row"] ["jobs","name","row"] (zAg zBl):=fnS
theorem zGj(F:Fun K "has_all_behind" "has_all_behind" zBl f fd)(T:Txt K mg)(U:JC K mg C)(M_is_ahead:Mth P w K mg base C "is_ahead" 3 ["self","one","other"] (bc C)):ak P w K mg base CX0 4 f fd ["jobs","name","row"] (nw C):=by
 refine F.ok zDs (λvs H Q E h=>?_) (λcdv A outer s H vs Q E hr h=>?_)
 .obtain ⟨j,r,J,x,row,rfl,_⟩:=h;rfl
 .obtain ⟨j,r,J,x,row,rfl,A0,hx,hrw,lr,ok,k⟩:=h;refine⟨_,(zAe (zAw (zAi (zE6 _ rfl) (by rfl) T.z_all zI3 (zAa (zBn rfl (zBp (sc:=zAg zBl) rfl (by decide +kernel)) (ah.own (x:="other") (dtk (i:=1) rfl (dtk (i:=0) rfl ah.nil))) (zAq (pv 2)) (λ_ _ _ _=>(pgB (i:=0))) (λ_ _ _ _=>zCm) (λC₀ s₀ H₀ ex=>(gL M_is_ahead U.cl hr (pv 2) (zAa (pv 1) (zAa (pv 0) zAb))))) zAb)))),?_⟩
  refine⟨_,rfl,_,rfl,⟨_,SqL.of hrw⟩,λB hB=>zBc (row.map V.str) (λi ys τ H3=>(∃o0,τ=[o0,some (.str x),some (.ref j)])/\ys=((row.take i).map λ_=>V.bl true)/\Kp [] H H3/\H3 B=some (.lst ys)) ⟨⟨_,rfl⟩,rfl,Kp.new Kp.refl hB,ac⟩ (λi ys τ H3 ⟨_,_,k3,_⟩=>SqL.of (k3 r _ hrw (by simp))) ?_ ?_⟩
  .rintro i v ys τ H3 hv ⟨⟨o0,rfl⟩,rfl,k3,h3⟩;obtain⟨y,ey,rfl⟩:=zA9 hv;obtain⟨yn,xs⟩:=ok y (qAJ ey);have A3:=A0.kp0 k3;refine⟨_,rfl,j,J.dx,_,rfl,A3.ob,i3 _ _ _ (by decide +kernel) (by decide +kernel) (by decide +kernel),_,rfl,_,rfl,j,J,x,y,rfl,A3,hx,yn,?_⟩;refine⟨h3,?_,⟨_,rfl⟩,?_,Kp.new k3 hB,ac⟩
   .rw [qAD,qAU,qAK];lia
   .rw [zAk ey,qAP,qAV xs];rfl
  .rintro ys τ H3 ⟨_,rfl,k3,h3⟩;rw[qAD,qAg]at h3;refine⟨B,row.map λ_=>true,rfl,SqL.of ?_,?_⟩
   .rw [h3,qBO];rfl
   .have e:((row.map λ_=>true).all id)=true:=by rw[qCg];exact qBt.mpr λ_ _=>rfl
    rw[e];exact k _ k3
inductive sF(vs:List V)(H:Hp)(Q:VK)(u_3:XK):Prop
 |mk:∀(l st r:Addr)(ns B row:List Str),vs=[.ref l,.ref st,.ref r]->Txs H l ns->aK H st B->Txs H r row->row≠[]->(∀x∈row,x∈ns/\x∉B)->row.Nodup->row.length<=20->B.length<=20->(∀H',Kp [st] H H'->aK H' st (B++row)->Q .non H')->sF vs H Q u_3
abbrev zC2:Stmt:=top 39
theorem zCw:ag ["names","stood","block","thing"] ["names","stood","block"] (zAg zC2):=fnS
theorem zIk(F:Fun K "check_block" "check_block" zC2 f fd)(T:Txt K mg)(C_is_one_of:Cal P w K mg base "is_one_of" 1 ["thing","names"] bg):ak P w K mg base CX0 2 f fd ["names","stood","block"] sF:=by
 refine F.ok zCw (λvs H Q E h=>?_) (λcdv A outer s H vs Q E hr h=>?_)
 .obtain ⟨l,st,r,ns,B,row,rfl,_⟩:=h;rfl
 .obtain ⟨l,st,r,ns,B,row,rfl,hl,hst,hrw,ne,ok,nd,lr,lB,k⟩:=h;have hu:=zF2 hr
  refine⟨_,(zAc (zBk (PW.pt (zEk (zBm (zBi (zAi zBg (by rfl) T.z_isinstance zAl (zAa (pv 2) (zAa (zBw (by rfl) T.z_list zCe (v:=.ty "list") rfl) zAb))))) (zDv (zBm (zG6 (pv 2) (λ_=>rfl)))))) (zAe zAz) zAs) (zAe (zA7 qAc rfl (zAq (pv 2)) (pgN (i:=3) zCw.nd)
    (zAc (zBk (zBm (zBi (zAh C_is_one_of hr rfl (zAa (pv 3) (zAa (pv 0) zAb)))))
     (zAe zAz)
     zAs)
    (zAc (zBk (zEg (zHp hu (pv 3) (pv 1)))
     (zAe zAz)
     zAs)
    (zAe (zD4 hu (pv 1) (pv 3) zEs rfl))))))),?_⟩
  refine bG ?_;intro _ _;refine⟨_,rfl,_,_,_,_,rfl,ao.lst hrw,zA1,_,rfl,aw ?_⟩
  refine⟨_,rfl,true,.inl ⟨_,SqL.of hrw,by cases row with
   |nil=>exact absurd rfl ne
   |cons a b=>rfl⟩,aw ?_⟩
  refine⟨_,rfl,_,rfl,⟨_,SqL.of hrw⟩,zA3 (xs:=row.map V.str) (λi σ H2=>(∃o3:Option V,σ=[some (.ref l),some (.ref st),some (.ref r),o3])/\Kp [st] H H2/\aK H2 st (B++row.take i)) ⟨⟨_,rfl⟩,Kp.refl,by rw[qC6,qAm];exact hst⟩ (λi σ H2 _ ⟨_,k2,_⟩=>SqL.of (k2 _ _ hrw (nm1 (zCp hrw hst λz=>nomatch z)))) ?_ ?_⟩
  .rintro i v σ H2 hv ⟨⟨o3,rfl⟩,k2,h2⟩;refine cy ?_;intro _ _ _;obtain⟨x,ex,rfl⟩:=zA9 hv;obtain⟨xn,xB⟩:=ok x (qAJ ex);have nx:x∉B++row.take i:=λz=>(qAR.mp z).elim xB (zE4 nd ex);refine⟨_,rfl,_,rfl,x,l,ns,rfl,k2 _ _ hl (nm1 (zCp hl hst λz=>nomatch z)),_,rfl,?_⟩;rw[qAV xn];refine aw ?_;obtain⟨o,g1,g2⟩:=zEm h2 x;refine⟨_,rfl,_,rfl,_,_,rfl,g1,_,rfl,?_⟩;rw[g2,qAZ nx];refine aw ?_;refine⟨_,rfl,_,rfl,_,_,rfl,bz.k (k:=Sum.inr x) h2 ?_,?_⟩
   .rw [zEa,qAN,qAU,qAK];lia
   refine⟨⟨_,rfl⟩,Kp.put k2 (by simp),?_⟩;show upd _ _ _ _=_;rw[ac,zD3 _ nx,zAk ex,<-qBK];unfold dT1;rw[qAP (l₁:=B++row.take i)];rfl
  .rintro σ H2 ⟨_,k2,h2⟩;rw[qAD,qAg]at h2;exact k _ k2 h2
inductive jP(C:Addr)(vs:List V)(H:Hp)(Q:VK)(u_3:XK):Prop
 |mk:∀(j bl:Addr)(J:JR)(as:List Addr) (bs:List (List Str)),vs=[.ref j,.ref bl]->aD C H j J->au H bl as bs->bs.length<=20->bi J bs->(∀H',Kp [] H H'->Q .non H')->jP C vs H Q u_3
abbrev zBz:Stmt:=top 38
theorem zAx:ag ["jobs","blocks","stood","block","one","other"] ["jobs","blocks"] (zAg zBz):=fnS
theorem zHr(F:Fun K "check_blocks" "check_blocks" zBz f fd)(T:Txt K mg)(U:JC K mg C)(M_names:Mth P w K mg base C "names" 1 ["self"] (bL C))(C_check_block:Cal P w K mg base "check_block" 2 ["names","stood","block"] sF)(C_hab:Cal P w K mg base "has_all_behind" 4 ["jobs","name","row"] (nw C)):ak P w K mg base CX0 5 f fd ["jobs","blocks"] (jP C):=by
 refine F.ok zAx (λvs H Q E h=>?_) (λcdv A outer s H vs Q E hr h=>?_)
 .obtain ⟨j,bl,J,as,bs,rfl,_⟩:=h;rfl
 .obtain ⟨j,bl,J,as,bs,rfl,A0,R,l20,G,k⟩:=h;have hr1:=hr.mono (j:=1) (by decide);have hr2:=hr.mono (j:=2) (by decide)
  refine⟨_,(zAc (zBk (zBm (zBi (zAi zBg (by rfl) T.z_isinstance zAl (zAa (pv 1) (zAa (zBw (by rfl) T.z_list zCe (v:=.ty "list") rfl) zAb))))) (zAe zAz) zAs) (zAc (psS (i:=2) zAx.nd zBv)
   (zAc (zA7 qAc rfl (zAq (pv 1)) (pgN (i:=3) zAx.nd)
    (zAe (zA2 (zAh C_check_block hr2 rfl (zAa (dm M_names U.cl hr1 (pv 0)) (zAa (pv 2) (zAa (pv 3) zAb)))))))
   (zAe (zA7 qAc rfl (iN rfl T.z_zip (zAa (pv 1) (zAa (zB1 zCi (pv 1) (zCd zAd) zCr) zAb))) (zIv rfl (zBf (pgN (i:=4) zAx.nd) (zBf (pgN (i:=5) zAx.nd) zD5)))
    (zAe (zBk (zBm (zBi (zAi (zE6 _ rfl) (by rfl) T.z_all zI3 (zAa (zBn rfl (zBp (sc:=zAg zBz) rfl (by decide +kernel)) (ah.own (x:= "name") (dtk (i:=0) rfl (dtk (i:=5) rfl ah.nil))) (zAq (pv 4)) (fun _ _ _ _=>(pgB (i:=0))) (fun _ _ _ _=>zCm) (fun C₀ s₀ H₀ ex=>(zAh C_hab hr rfl (zAa (pv 1) (zAa (pv 0) (zAa (pv 2) zAb)))))) zAb))))
     (zAe zAz)
     zAs))))))),?_⟩
  refine bE ?_;intro _ _ _ _;have rlen:∀B∈bs,B.length<=20:=λB hB=>qAW (zB3 (i_ G.nd hB) (G.ns B hB)) A0.few;refine⟨_,rfl,_,_,_,_,rfl,ao.lst R.top,zA1,_,rfl,aw ?_⟩;refine λst hst=>?_;have fs:Fre H st:=hst;have k1:Kp [] H (upd H st (.dK [])):=Kp.new Kp.refl fs;have e1:aK (upd H st (.dK [])) st (bs.take 0).flatten:=ac;generalize upd H st (.dK [])=H1 at k1 e1;refine⟨_,rfl,_,rfl,⟨_,SqL.of (k1 _ _ R.top (by simp))⟩,zA3 (xs:=as.map V.ref) (λi σ H2=>(∃o3:Option V,σ=[some (.ref j),some (.ref bl),some (.ref st),o3,none,none])/\Kp [] H H2/\aK H2 st (bs.take i).flatten) ⟨⟨_,rfl⟩,k1,e1⟩ (λi σ H2 _ ⟨_,k2,_⟩=>SqL.of (k2 _ _ R.top (by simp))) ?_ ?_⟩
  .rintro i v σ H2 hv ⟨⟨o3,rfl⟩,k2,h2⟩
   have hi:i<bs.length:=by
    have:=(qAL.mp hv).1;rw[qAD,R.len]at this;exact this
   obtain⟨a,B,ea,eB,ev,ha⟩:=R.at hi;rw[ev]at hv
   cases hv
   have mB:=qAJ eB;have A2:=A0.kp0 k2;refine⟨_,rfl,j,J.dx,_,rfl,A2.ob,i3 _ _ _ (by decide +kernel) (by decide +kernel) (by decide +kernel),j,J,rfl,A2,λn H3 fn hn k3=>?_⟩;refine⟨_,rfl,_,rfl,n,st,a,J.ns,(bs.take i).flatten,B,rfl,hn,k3 _ _ h2 (by simp),(k2.trans k3) _ _ ha (by simp),G.ne B mB,λx hx=>⟨G.ns B mB x hx,uO G.nd eB x hx⟩,i_ G.nd mB,rlen B mB,nQ G A0.few i,λH4 k4 h4=>?_⟩;refine⟨⟨_,rfl⟩,zH0 (k2.trans k3) fs k4,?_⟩;rw[zAk eB,qBn,qBA,qCk,qAm];exact h4
  rintro σ H2 ⟨⟨o3,rfl⟩,k2,_⟩;refine⟨_,rfl,_,rfl,_,rfl,_,_,rfl,SqL.of (k2 _ _ R.top (by simp)),λ(sl:Addr) hsl=>?_⟩;have ec:bH (as.map V.ref) (some 1) none=(as.drop 1).map V.ref:=by rw[zF3 _ (by decide),qBl];rfl
  rw[ec];have k3:Kp [] H2 (upd H2 sl (.lst ((as.drop 1).map V.ref))):=Kp.new Kp.refl hsl;have e3:upd H2 sl (.lst ((as.drop 1).map V.ref)) sl=some (.lst ((as.drop 1).map V.ref)):=ac;generalize upd H2 sl (.lst ((as.drop 1).map V.ref))=H3 at k3 e3;have K3:=k2.trans k3;refine⟨bl,sl,rfl,⟨_,SqL.of (K3 _ _ R.top (by simp))⟩,⟨_,SqL.of e3⟩,dG (xs:=as.map V.ref) (ys:=(as.drop 1).map V.ref) (λi σ H4=>(∃o4 o5:Option V,σ=[some (.ref j),some (.ref bl),some (.ref st),o3,o4,o5])/\Kp [] H3 H4) ⟨⟨_,_,rfl⟩,Kp.refl⟩ (λi σ H4 ⟨_,k4⟩=>⟨SqL.of ((K3.trans k4) _ _ R.top (by simp)),SqL.of (k4 _ _ e3 (by simp))⟩) ?_ ?_⟩
  .rintro i v1 v2 σ H4 t hv1 hv2 ⟨⟨o4,o5,rfl⟩,k4⟩ ht
   have hi:i<bs.length:=by
    have:=(qAL.mp hv1).1;rw[qAD,R.len]at this;exact this
   have hi1:i+1<bs.length:=by
    have:=(qAL.mp hv2).1;rw[qAD,qAz,R.len]at this;lia
   obtain⟨a,B,ea,eB,ev,ha⟩:=R.at hi;obtain⟨a',B',ea',eB',ev',ha'⟩:=R.at hi1;rw[ev]at hv1
   cases hv1
   have e2:((as.drop 1).map V.ref)[i]?=some (.ref a'):=by
    rw[qAY,qCL,qCs,ea'];rfl
   rw[e2]at hv2
   cases hv2
   have kt:Kp [] H4 (upd H4 t (.tup [.ref a,.ref a'])):=Kp.new Kp.refl ht;refine⟨_,_,rfl,.inl (.inl ac),rfl,_,_,rfl,_,_,rfl,rfl,?_⟩;generalize upd H4 t (.tup [.ref a,.ref a'])=H5 at kt;have K5:=(K3.trans k4).trans kt;have ha5:=K5 _ _ ha (by simp);have mB:=qAJ eB;have mB':=qAJ eB';refine⟨_,rfl,_,rfl,⟨_,SqL.of ha5⟩,λY hY=>zBc (B.map V.str) (λp ys τ H6=>(∃o0,τ=[o0,some (.ref j),some (.ref a')])/\ys=((B.take p).map λ_=>V.bl true)/\Kp [] H5 H6/\H6 Y=some (.lst ys)) ⟨⟨_,rfl⟩,rfl,Kp.new Kp.refl hY,ac⟩ (λp ys τ H6 ⟨_,_,k6,_⟩=>SqL.of (k6 _ _ ha5 (by simp))) ?_ ?_⟩
   .rintro p v ys τ H6 hv ⟨⟨o0,rfl⟩,rfl,k6,h6⟩;obtain⟨x,ex,rfl⟩:=zA9 hv;have mx:=qAJ ex;have K6:=K5.trans k6;have lb:=rlen B mB;refine⟨_,rfl,_,rfl,_,rfl,j,a',J,x,B',rfl,A0.kp0 K6,G.ns B mB x mx,K6 _ _ ha' (by simp),rlen B' mB',λy hy=>⟨G.ns B' mB' y hy,G.nx i B B' eB eB' x mx y hy⟩,λH7 k7=>?_⟩;refine⟨k7 _ _ h6 (by simp),?_,⟨_,rfl⟩,?_,Kp.new (k6.trans k7) hY,ac⟩
    .rw [qAD,qAU,qAK];lia
    .rw [zAk ex,qAP];rfl
   .rintro ys τ H6 ⟨_,rfl,k6,h6⟩;rw[qAD,qAg]at h6;refine⟨Y,B.map λ_=>true,rfl,SqL.of (by rw[h6,qBO];rfl),_,rfl,?_⟩;rw[show((B.map λ_=>true).all id)=true by rw[qCg];exact qBt.mpr λ_ _=>rfl];refine aw ?_;exact⟨⟨_,_,rfl⟩,(k4.trans kt).trans k6⟩
  .rintro i σ H4 _ ⟨_,k4⟩;exact k _ (K3.trans k4)
def pG(b:Int)(bs:List (List Str)):Int:=(bs.map λB=>tf (B.length:Int) b).sum
inductive jh(C:Addr)(vs:List V)(H:Hp)(Q:VK)(u_3:XK):Prop
 |mk:∀(j bl:Addr)(b:Int)(J:JR)(as:List Addr) (bs:List (List Str)),vs=[.ref j,.int b,.ref bl]->aD C H j J->au H bl as bs->bs.length<=20->bi J bs->1<=b->b<10^100->(∀H',Kp [] H H'->Q (.int (pG b bs)) H')->jh C vs H Q u_3
abbrev zBb:Stmt:=top 37
theorem zDg:ag ["jobs","benches","blocks"] ["jobs","benches","blocks"] (zAg zBb):=fnS
theorem zDl(F:Fun K "shown_by_blocks" "shown_by_blocks" zBb f fd)(T:Txt K mg)(C_check_blocks:Cal P w K mg base "check_blocks" 5 ["jobs","blocks"] (jP C))(C_turns_filled:Cal P w K mg base "turns_filled" 1 ["many","benches"] pH):ak P w K mg base CX0 6 f fd ["jobs","benches","blocks"] (jh C):=by
 refine F.ok zDg (λvs H Q E h=>?_) (λcdv A outer s H vs Q E hr h=>?_)
 .obtain ⟨j,bl,b,J,as,bs,rfl,_⟩:=h;rfl
 .obtain ⟨j,bl,b,J,as,bs,rfl,A0,R,l20,G,b1,b2,k⟩:=h;have hr1:=hr.mono (j:=1) (by decide)
  refine⟨_,(zAc (zA2 (zAh C_check_blocks hr rfl (zAa (pv 0) (zAa (pv 2) zAb)))) (zAe (zAw (zAi (zF8 rfl) (by rfl) T.z_sum dJ (zAa (zBn rfl (zBp (sc:=zAg zBb) rfl (by decide +kernel)) (ah.own (x:="block") (dtk (i:=1) rfl ah.nil)) (zAq (pv 2)) (λ_ _ _ _=>(pgB (i:=0))) (λ_ _ _ _=>zCm) (λC₀ s₀ H₀ ex=>(zAh C_turns_filled hr1 rfl (zAa (zAi (zC3 (K:=K)) (by rfl) T.z_len zBy (zAa (pv 0) zAb)) (zAa (pv 1) zAb))))) zAb))))),?_⟩
  refine bG ?_;intro _ _;refine⟨_,rfl,_,rfl,j,bl,J,as,bs,rfl,A0,R,l20,G,λH1 k1=>?_⟩;have R1:=R.kp k1;refine⟨_,rfl,_,rfl,⟨_,SqL.of R1.top⟩,λY hY=>zBc (as.map V.ref) (λi ys τ H3=>(∃o0,τ=[o0,some (.int b)])/\ys=((bs.take i).map λB=>V.int (tf (B.length:Int) b))/\H3=upd H1 Y (.lst ys)) ⟨⟨_,rfl⟩,rfl,rfl⟩ (λi ys τ H3 ⟨_,_,z⟩=>by subst z;exact SqL.of ((Kp.new (M:=[]) Kp.refl hY) _ _ R1.top (by simp))) ?_ ?_⟩
  .rintro i v ys τ H3 hv ⟨⟨o0,rfl⟩,rfl,rfl⟩
   have hi:i<bs.length:=by
    have:=(qAL.mp hv).1;rw[qAD,R.len]at this;exact this
   obtain⟨a,B,ea,eB,ev,ha⟩:=R1.at hi;rw[ev]at hv
   cases hv
   have kY:Kp [] H1 (upd H1 Y (.lst ((bs.take i).map λB=>V.int (tf (B.length:Int) b)))):=Kp.new Kp.refl hY;refine⟨_,rfl,_,_,rfl,.inl (SqL.of (kY _ _ ha (by simp))),_,rfl,_,b,rfl,b1,b2,?_⟩;refine⟨ac,?_,⟨_,rfl⟩,?_,zB7⟩
   .rw [qAD,qAU,qAK];lia
   .rw [zAk eB,qAP,qAD];rfl
  .rintro ys τ H3 ⟨_,rfl,rfl⟩;have eT:bs.take (as.map V.ref).length=bs:=by rw[qAD,R.len,qAg]
   rw[eT];refine⟨Y,bs.map λB=>tf (B.length:Int) b,rfl,SqL.of (by rw[ac,qBO];rfl),?_⟩;exact k _ (k1.trans (Kp.new Kp.refl hY))
end
theorem ow{K:PySem.W.Frag}{tg l:Expr}{tl:TE}(hl:PE X l tl)(hK:X.K=K:=by rfl):PI X tg l (qO K tl):=by subst hK;exact zAq hl
theorem zD9{K:PySem.W.Frag}{e:Addr}(h1:SqL K H c xs)(h2:SqL K H e [])(h:∀bb:Bool,(bb=true↔xs=[])->Q (.bl bb) H):aO K 8 true (.ref c) (.ref e) H Q\/aP K false (.ref c) (.ref e) H Q:=by
 by_cases z:xs=[]
 .subst z;exact .inl ⟨c,e,_,_,rfl,rfl,h1,h2,rfl,(λi x y h=>by simp at h),h true (by simp)⟩
 .refine .inr ⟨c,e,_,_,rfl,rfl,h1,h2,λy=>z (qBx.mp y),h false (by simp[z])⟩
theorem oM{c:TT}{tb:TS}(Pv:Nat->St->Hp->Prop)(m:Nat)(h0:Pv m σ H)
  (hs:∀m σ H,Pv m σ H->c σ H λb H1=>if b=true then tb {D with nx:=λσ' H'=>∃m',m'<m/\Pv m' σ' H',ct:=λσ' H'=>∃m',m'<m/\Pv m' σ' H',bk:=D.nx} σ H1 else D.nx σ H1)
  (mono:∀σ H Q Q',(∀b H1,Q b H1->Q' b H1)->c σ H Q->c σ H Q'):dF c tb D σ H:=by
 refine⟨Pv,⟨m,h0⟩,λm σ H p=>mono σ H _ _ (λb H1 q=>?_) (hs m σ H p)⟩
 cases b with
 |true=>exact⟨_,λσ' H' h=>h,q⟩
 |false=>exact q
theorem ou{a b:TS}(I:St->Hp->Prop)(h1:∀σ H,I σ H->b D σ H)(h2:(∀σ H,I σ H->b D σ H)->a {D with nx:=b D} σ H):aq a b D σ H:=h2 h1
theorem gN{Q:St->Hp->Prop}(h:Q (σ.set i (some v)) H):zJy i v σ H Q:=h
theorem zJe{p:Addr}{ns:List Str}(hl:Txs H l ns)(hP:zB9 H p):l≠p:=by
 obtain⟨a,b,e,_⟩:=hP
 exact zCp hl e λz=>by
  have h:=HO.lst.inj z
  cases ns with
  |nil=>cases h
  |cons x t=>cases h
structure Gro(J:JR)(r:Str->Nat)(bs:List (List Str))(Lf:List Str):Prop where
 g:bi J bs
 sub:∀y∈Lf,y∈J.ns
 nd:Lf.Nodup
 up:∀x∈bs.flatten,∀y∈Lf,r x<r y
 nx:∀B,bs.getLast?=some B->∀x∈B,∀y∈Lf,x∈J.S y
theorem pq{bs:List (List Str)}(h:∀B∈bs,B≠[]):bs.length<=bs.flatten.length:=by
 induction bs with
 |nil=>exact qAG _
 |cons B bs ih=>
  rw[qAa,qBA,qAN];have h1:=qB1.mpr (h B qAf);have h2:=ih λX hX=>h X (qAX _ hX);lia
theorem Gro.few{J:JR}{r:Str->Nat}{bs:List (List Str)}{Lf:List Str}(G:Gro J r bs Lf)(few:J.ns.length<=20):bs.length<=20:=by
 refine qAW (pq G.g.ne) (qAW (zB3 G.g.nd λx hx=>?_) few);obtain⟨B,hB,hx⟩:=qDB.mp hx;exact G.g.ns B hB x hx
theorem Gro.more{J:JR}{r:Str->Nat}{bs:List (List Str)}{Lf R Lf':List Str}(G:Gro J r bs Lf)(rk:∀n∈J.ns,∀x∈J.S n,r x<r n)(ne:R≠[])(nd:R.Nodup)(sub:∀x∈R,x∈Lf)(h1:∀y∈Lf',y∈J.ns/\∀x∈R,x∈J.S y)(nd':Lf'.Nodup):Gro J r (bs++[R]) Lf':=by
 refine⟨⟨λB hB=>?_,λB hB x hx=>?_,?_,λi B B' e1 e2 x hx y hy=>?_⟩,λy hy=>(h1 y hy).1,nd',λx hx y hy=>?_,λB hB x hx y hy=>?_⟩
 .rcases qAR.mp hB with z|z
  .exact G.g.ne B z
  .rw [qAO.mp z];exact ne
 .rcases qAR.mp hB with z|z
  .exact G.g.ns B z x hx
  .rw [qAO.mp z]at hx;exact G.sub x (sub x hx)
 .rw [qBn,qBA,qCk,qAm];exact qBX.mpr ⟨G.g.nd,nd,λa ha b hb e=>absurd (G.up a ha b (sub b hb)) (by rw[e];exact qA2 _)⟩
 .by_cases c:i+1<bs.length
  .rw [qA5 (by lia)]at e1;rw[qA5 c]at e2;exact G.g.nx i B B' e1 e2 x hx y hy
  .have hi:=(qAL.mp e2).1;rw[qAN,qAn]at hi;have e:i+1=bs.length:=by lia
   rw[qBJ (by lia),e,qCC]at e2
   cases e2
   rw[qA5 (by lia)]at e1;refine G.nx B ?_ x hx y (sub y hy);rw[List.getLast?_eq_getElem?,<-e1];congr 1;lia
 .obtain ⟨h2,h3⟩:=h1 y hy;rw[qBn,qBA,qCk,qAm]at hx;rcases qAR.mp hx with z|z
  .obtain ⟨w,hw⟩:=List.exists_mem_of_ne_nil R ne;exact qCt (G.up x z w (sub w hw)) (rk y h2 w (h3 w hw))
  .exact rk y h2 x (h3 x z)
 .rw [List.getLast?_append,List.getLast?_singleton]at hB;have:R=B:=by simpa using hB
  subst this;exact(h1 y hy).2 x hx
section
inductive bD(vs:List V)(H:Hp)(Q:VK)(u_3:XK):Prop
 |mk:∀(p l d:Addr)(J:JR)(r:Str->Nat)(la:Str->Addr)(L:Str->List Str),vs=[.ref p,.ref l,.ref d]->zB9 H p->Txs H l J.ns->DR H d J.ns la L->J.ns.Nodup->J.ns.length<=20->(∀n∈J.ns,∀x∈J.S n,r x<r n)->(∀n∈J.ns,∀x∈J.ns,x∈L n↔n∈J.S x)->(∀(c:Addr)(as:List Addr) (bs:List (List Str)) (H':Hp),Fre H c->(∀a∈as,Fre H a/\a≠c)->au H' c as bs->bs.length<=20->bi J bs->zB9 H' p->Kp [p] H H'->Q (.ref c) H')->bD vs H Q u_3
abbrev zE2:Stmt:=top 62
theorem zC6:ag ["_law_purse_here","_law_names_here","_law_behind_here","_law_rows","_law_left","_law_thin","_law_row"] ["_law_purse_here","_law_names_here","_law_behind_here"] (zAg zE2):=fnS
theorem g5(F:Fun K "_law_blocks" "_law_blocks" zE2 f fd)(T:Txt K mg)(C_take:Cal P w K mg base "_law_take" 1 ["_law_purse_here","_law_many"] bo):ak P w K mg base CX0 2 f fd ["_law_purse_here","_law_names_here","_law_behind_here"] bD:=by
 refine F.ok zC6 (λvs H Q E h=>?_) (λcdv A outer s H vs Q E hr h=>?_)
 .obtain ⟨p,l,d,J,r,la,L,rfl,_⟩:=h;rfl
 .obtain ⟨p,l,d,J,r,la,L,rfl,hP,hl,D0,nd,few,rk,hLS,kk⟩:=h;have hu:=zF2 hr
  refine⟨_,(zAc (psS (i:=3) zC6.nd (zAj zAb)) (zAc (psS (i:=4) zC6.nd (zA8 zBu (by rfl) T.z_list zCe (zAa (pv 1) zAb)))
   (zAc (zJf qAc (PW.pt (zHl (zAr (zEt hr) (pv 4) (zAj zAb) (zAv _)) (zGg (zAr gv (zAh C_take hr rfl (zAa (pv 0) (zAa zAd zAb))) zAd (zAv _)))))
    (zAc (psS (i:=5) zC6.nd (zAn zCy zAd (zAh C_take hr rfl (zAa (pv 0) (zAa zAd zAb)))))
    (zAc (psS (i:=6) zC6.nd (zBn rfl (zBp (sc:=zAg zE2) rfl (by decide +kernel)) (ah.own (x:= "_law_name") (dtk (i:=0) rfl (dtk (i:=5) rfl ah.nil))) (zAq (pv 4)) (fun _ _ _ _=>(pgB (i:=0))) (fun _ _ _ _=>(zCl (zAr zD8 (zAh C_take hr rfl (zAa (pv 1) (zAa (pv 2) zAb))) zAd (zAv _)))) (fun _ _ _ _=>(pv 0))))
    (zAc (zBk (zAr (eg hr) (pv 6) (zAj zAb) (zAv _))
     (zAe (psS (i:=6) zC6.nd (zAj (zAa (zBd zA0 (pv 4) (zAh C_take hr rfl (zAa (pv 0) (zAa (zAi zAp (by rfl) T.z_len zBy (zAa (pv 4) zAb)) zAb))) (λ_ _=>rfl)) zAb))))
     zAs)
    (zAc (zA2 (zD6 qAx qC8 qC9 zHv (pv 6) (zAa (zAh C_take hr rfl (zAa (pv 0) (zAa (zAi zAp (by rfl) T.z_len zBy (zAa (pv 6) zAb)) zAb))) (zAa (nJ qAx PySem.F.slot_list_pop PySem.F.type_list_pop nG (pv 6)) zAb))))
    (zAc (zA2 (zD6 qAx qBz qB0 zCb (pv 3) (zAa (pv 6) zAb)))
    (zAe (zGi (i:=4) rfl (zBp (sc:=zAg zE2) rfl (by decide +kernel)) (ah.own (x:="_law_name") (dtk (i:=6) rfl (dtk (i:=2) rfl ah.nil))) (zAq (pv 1)) (λ_ _ _ _=>(pgB (i:=0))) (λ_ _ _ _=>(zCl (zAr (p8 (K:=K) hr) (zBn rfl (sC (sc:=zAg zE2) rfl rfl (by decide +kernel)) (ah.own (x:="_law_one") (dtk (i:=0) rfl (dtk (i:=2) rfl ah.nil))) (ow (K:=K) (pv 1)) (λ_ _ _ _=>(pgB (i:=0))) (λ_ _ _ _=>(zCl (zEg (zDa hu (pv 1) (zB8 hu (pv 2) (pv 0) (λ_ _=>rfl)))))) (λ_ _ _ _=>(pv 0))) (zAj zAb) (zAv _)))) (λ_ _ _ _=>(pv 0)) zC6.nd rfl rfl))))))))
   (zAe (zAw (pv 3)))))),?_⟩
  refine bE ?_;intro _ _ _ _;refine⟨(by walk_at"ln"),λc0 hc0=>?_⟩;have f0:Fre H c0:=hc0;have k1:Kp [] H (upd H c0 (.lst [])):=Kp.new Kp.refl f0;have e1:upd H c0 (.lst []) c0=some (.lst (([]:List Addr).map V.ref)):=ac;generalize upd H c0 (.lst [])=H1 at k1 e1;have hl1:Txs H1 l J.ns:=k1 _ _ hl (by simp);refine⟨_,rfl,_,_,rfl,.inl (SqL.of hl1),λlf0 hlf0=>?_⟩;have k2:Kp [] H1 (upd H1 lf0 (.lst (J.ns.map V.str))):=Kp.new Kp.refl hlf0;have e2:Txs (upd H1 lf0 (.lst (J.ns.map V.str))) lf0 J.ns:=ac;generalize upd H1 lf0 (.lst (J.ns.map V.str))=H2 at k2 e2;have K2:=k1.trans k2;have npc:p≠c0:=by obtain⟨a,b,e,_⟩:=hP;exact ae f0 e
  have np:∀{Hx:Hp}{a:Addr}{xs:List V},zB9 Hx p->H a=none->Hx p≠none:=λhp _=>by obtain⟨u,v,e,_⟩:=hp;rw[e];simp
  refine oM (λm σ H7=>∃(lf:Addr)(o5 o6:Option V)(as:List Addr) (bs:List (List Str)) (Lf:List Str),σ=[some (.ref p),some (.ref l),some (.ref d),some (.ref c0),some (.ref lf),o5,o6]/\zB9 H7 p/\Kp [p] H H7/\au H7 c0 as bs/\(∀a∈as,Fre H a/\a≠c0)/\Txs H7 lf Lf/\lf≠p/\Gro J r bs Lf/\m=20-bs.length) 20 ⟨lf0,none,none,[],[],J.ns,rfl,hP.kp K2 (by simp),K2.weak (by simp),⟨k2 _ _ e1 (by simp),rfl,λi a r h=>by simp at h⟩,(λa h=>nomatch h),e2,?_,⟨⟨λB h=>(nomatch h),λB h=>(nomatch h),qBC,λi B B' h _=>by simp at h⟩,λy hy=>hy,nd,λx h=>(nomatch h),λB h=>by simp at h⟩,rfl⟩ ?_ (λσ H Q Q' hq hc=>?_)
  .obtain ⟨a,b,e,_⟩:=hP.kp k1 (by simp);exact(ae (show Fre H1 lf0 from hlf0) e).symm
  .rintro m σ H7 ⟨lf,o5,o6,as,bs,Lf,rfl,P7,k7,R7,fa,hlf,nlp,G,rfl⟩;have b20:=G.few few;have lL:Lf.length<=20:=qAW (zB3 G.nd G.sub) few
   have ap:∀a∈as,a≠p:=λa ha z=>by
    have:=(fa a ha).1;obtain⟨u,v,e,_⟩:=hP;rw[z,show H p=none from z▸this]at *
    cases e
   refine⟨_,rfl,(by walk_at"ln"),λe he=>?_⟩;have k8:Kp [] H7 (upd H7 e (.lst [])):=Kp.new Kp.refl he;have e8:upd H7 e (.lst []) e=some (.lst []):=ac;generalize upd H7 e (.lst [])=H8 at k8 e8;refine zHu (SqL.of (k8 _ _ hlf (by simp))) (SqL.of e8) λbb hbb=>?_;refine⟨_,rfl,aA (λc=>?_) (λc=>?_)⟩
   .refine ⟨_,rfl,p,12,rfl,P7.kp k8 (by simp),by decide,by decide +kernel,λtk H9 t0 t1 P9 k9=>?_⟩;have k79:Kp [p] H7 H9:=(k8.weak (by simp)).trans k9;have R9:au H9 c0 as bs:=⟨k79 _ _ R7.top (nm1 npc.symm),R7.len,λi a r x1 x2=>k79 _ _ (R7.row i a r x1 x2) (nm1 (ap a (qAJ x1)))⟩;have hlf9:Txs H9 lf Lf:=k79 _ _ hlf (nm1 nlp);have K9:=k7.trans k79;refine⟨_,_,rfl,rfl,_,rfl,aA (λc2=>?_) (λc2=>?_)⟩
    .have Lne:Lf≠[]:=λz=>hbb c (by rw[z];rfl);refine⟨_,rfl,p,5,rfl,P9,by decide,by decide +kernel,λth H10 h0 h1 P10 k10=>?_⟩;refine⟨_,_,rfl,rfl,?_⟩;have hlf10:Txs H10 lf Lf:=k10 _ _ hlf9 (nm1 nlp);have R10:au H10 c0 as bs:=⟨k10 _ _ R9.top (nm1 npc.symm),R9.len,λi a r x1 x2=>k10 _ _ (R9.row i a r x1 x2) (nm1 (ap a (qAJ x1)))⟩;have K10:=K9.trans k10;clear R9 hlf9 K9 k9 P9 k79 R7 hlf k7 P7 k8 e8;refine⟨_,rfl,_,rfl,⟨_,SqL.of hlf10⟩,λB hB=>zBt (Lf.map V.str) (λj ys τ H11=>(∃o0,τ=[o0,some (.ref p),some (.int (1+th))])/\∃Y:List Str,ys=Y.map V.str/\Y.Sublist (Lf.take j)/\zB9 H11 p/\Kp [p] H10 H11/\H11 B=some (.lst ys)) ⟨⟨_,rfl⟩,[],rfl,List.nil_sublist _,P10.kp (M:=[]) (Kp.new Kp.refl hB) (by simp),Kp.new Kp.refl hB,ac⟩ (λj ys τ H11 ⟨_,_,_,_,_,k11,_⟩=>SqL.of (k11 _ _ hlf10 (nm1 nlp))) ?_ ?_⟩
     .rintro j v ys τ H11 hv ⟨⟨o0,rfl⟩,Y,rfl,sY,P11,k11,hB11⟩;obtain⟨n,en,rfl⟩:=zA9 hv;have nBp:B≠p:=by obtain⟨u,v,e,_⟩:=P10;exact(ae (show Fre H10 B from hB) e).symm
      have lY:Y.length<=20:=qAW sY.length_le (qAW (by rw[qAU];lia) lL);refine⟨_,rfl,_,rfl,p,1+th,rfl,P11,by lia,by lia,λz H12 z0 z1 P12 k12=>?_⟩;have hB12:=k12 _ _ hB11 (nm1 nBp);refine⟨rfl,_,rfl,aA (λc=>?_) (λc=>?_)⟩
      .refine ⟨_,rfl,hB12,by rw[qAD,qAK];lia,⟨_,rfl⟩,Y++[n],by rw[qAP];rfl,by rw[zAk en];exact sY.append (List.Sublist.refl _),P12.kp (M:=[B]) (Kp.put Kp.refl (by simp)) (nm1 nBp.symm),Kp.new (k11.trans k12) hB,ac⟩
      .exact ⟨⟨_,rfl⟩,Y,rfl,by rw[zAk en];exact sY.trans (List.sublist_append_left _ _),P12,k11.trans k12,hB12⟩
     .rintro ys τ H11 ⟨_,Y,rfl,sY,P11,k11,hB11⟩;rw[qAD,qAg]at sY;refine gN ?_;dsimp only;have fB:Fre H10 B:=hB;have nBp:B≠p:=by obtain⟨u,v,e,_⟩:=P10;exact(ae fB e).symm
      refine ou (λσ H12=>∃(rw:Addr)(R:List Str),σ=[some (.ref p),some (.ref l),some (.ref d),some (.ref c0),some (.ref lf),some (.int (1+th)),some (.ref rw)]/\zB9 H12 p/\Kp [p] H10 H12/\Fre H10 rw/\Txs H12 rw R/\R≠[]/\R.Nodup/\∀x∈R,x∈Lf) ?_ (λkey=>?_)
      .clear sY hB11 k11 P11 hB fB nBp;rintro σ H12 ⟨rw,R,rfl,P12,k12,frw,hrw,Rne,Rnd,Rsub⟩;obtain⟨R',y,rfl⟩:∃R' y,R=R'++[y]:=⟨R.dropLast,R.getLast Rne,(List.dropLast_concat_getLast Rne).symm⟩
       have lR:R'.length+1<=20:=by
        have:=qAW (zB3 Rnd Rsub) lL;rw[qAN,qAn]at this;exact this
       have nrp:rw≠p:=by obtain⟨a,b,e,_⟩:=P10;exact(ae frw e).symm
       have nrc:rw≠c0:=(ae frw R10.top).symm;have R12:au H12 c0 as bs:=⟨k12 _ _ R10.top (nm1 npc.symm),R10.len,λi a r x1 x2=>k12 _ _ (R10.row i a r x1 x2) (nm1 (ap a (qAJ x1)))⟩
       have nar:∀a∈as,a≠rw:=λa ha=>by
        obtain⟨i,hi,e⟩:=qBL.mp ha;have:=R10.row i a _ (by rw[qAq hi,e]) (qAq (by rw[<-R10.len];exact hi));exact ae frw this
       refine⟨_,rfl,.inl ⟨rfl,_,SqL.of hrw⟩,_,rfl,_,rfl,_,_,rfl,.inl (SqL.of hrw),p,_,rfl,P12,by rw[qAD,qAN,qAn];lia,by rw[qAD,qAN,qAn];lia,λz H13 z0 z1 P13 k13=>?_⟩;rw[qAD,qAN,qAn]at z1;have hrw13:Txs H13 rw(R'++[y]):=k13 _ _ hrw (nm1 nrp);refine⟨_,rfl,.inl ⟨rfl,_,SqL.of hrw13⟩,rw,_,.str y,rfl,rfl,hrw13,by simp,?_⟩;refine⟨rw,R'.map V.str,z,.str y,rfl,rfl,by rw[ac,qAP];simp,by rw[qAD,qAK];lia,z0,by rw[qAD];lia,?_⟩;rw[eh V.str];have pm:=ST.ins_perm R' z.toNat y;generalize R'.take z.toNat++y::R'.drop z.toNat=R2 at pm;have pm2:R2.Perm (R'++[y]):=pm.trans (List.perm_append_comm (l₁:=[y]));have k14:Kp [rw] H13 (upd (upd H13 rw(.lst ((R'++[y]).map V.str).dropLast)) rw(.lst (R2.map V.str))):=Kp.put (Kp.put Kp.refl (by simp)) (by simp);have e14:Txs (upd (upd H13 rw(.lst ((R'++[y]).map V.str).dropLast)) rw(.lst (R2.map V.str))) rw R2:=ac;generalize upd (upd H13 rw(.lst ((R'++[y]).map V.str).dropLast)) rw(.lst (R2.map V.str))=H14 at k14 e14;have R14:au H14 c0 as bs:=⟨k14 _ _ (k13 _ _ R12.top (nm1 npc.symm)) (nm1 nrc.symm),R12.len,λi a r x1 x2=>k14 _ _ (k13 _ _ (R12.row i a r x1 x2) (nm1 (ap a (qAJ x1)))) (nm1 (nar a (qAJ x1)))⟩;have frH:Fre H rw:=K10.fre frw (nm1 nrp);have K14:Kp [p] H H14:=zH0 ((K10.trans k12).trans k13) frH k14;have P14:zB9 H14 p:=P13.kp k14 (nm1 nrp.symm);refine⟨_,rfl,.inl ⟨rfl,_,SqL.of R14.top⟩,_,rfl,_,_,_,rfl,rfl,R14.top,by rw[qAD,R14.len,qAK];lia,?_⟩;have k15:Kp [c0] H14 (upd H14 c0 (.lst (as.map V.ref++[.ref rw]))):=Kp.put Kp.refl (by simp);have e15:upd H14 c0 (.lst (as.map V.ref++[.ref rw])) c0=some (.lst ((as++[rw]).map V.ref)):=by rw[ac,qAP];rfl
       generalize upd H14 c0 (.lst (as.map V.ref++[.ref rw]))=H15 at k15 e15;have K15:Kp [p] H H15:=zH0 K14 f0 k15
       have R15:au H15 c0 (as++[rw]) (bs++[R2]):=⟨e15,by rw[qAN,qAN,R14.len];rfl,λi a r x1 x2=>by
        by_cases hi:i<as.length
        .rw [qA5 hi]at x1;rw[qA5 (by rw[<-R14.len];exact hi)]at x2;exact k15 _ _ (R14.row i a r x1 x2) (nm1 (fa a (qAJ x1)).2)
        .have h2:=(qAL.mp x1).1;rw[qAN,qAn]at h2;have:i=as.length:=by lia
         subst this;rw[qBJ (qAG _),qCC]at x1;rw[qBJ (by rw[R14.len];exact qAG _),R14.len,qCC]at x2
         cases x1
         cases x2
         exact k15 _ _ e14 (nm1 nrc)⟩
       have hR15:Txs H15 rw R2:=k15 _ _ e14 (nm1 nrc);have P15:zB9 H15 p:=P14.kp k15 (nm1 npc);have hl15:Txs H15 l J.ns:=K15 _ _ hl (nm1 (zJe hl hP));have D15:DR H15 d J.ns la L:=⟨K15 _ _ D0.top (nm1 (by obtain⟨a,b,e,_⟩:=hP;exact zCp D0.top e λz=>nomatch z)),λn hn=>K15 _ _ (D0.row n hn) (nm1 (by obtain⟨a,b,e,_⟩:=hP;exact zCp (D0.row n hn) e λz=>nomatch z))⟩;have R2s:∀x∈R2,x∈J.ns:=λx hx=>G.sub x (Rsub x (pm2.mem_iff.mp hx));have lR2:R2.length<=20:=by rw[pm2.length_eq,qAN,qAn];exact lR
       refine⟨_,rfl,_,rfl,⟨_,SqL.of hl15⟩,λB2 hB2=>zBt (J.ns.map V.str) (λj ys τ H16=>(∃o0,τ=[o0,some (.ref rw),some (.ref d)])/\ys=((J.ns.take j).filter λn=>decide (∀x∈R2,n∈L x)).map V.str/\Kp [] H15 H16/\H16 B2=some (.lst ys)) ⟨⟨_,rfl⟩,rfl,Kp.new Kp.refl hB2,ac⟩ (λj ys τ H16 ⟨_,_,k16,_⟩=>SqL.of (k16 _ _ hl15 (by simp))) ?_ ?_⟩
       .rintro j v ys τ H16 hv ⟨⟨o0,rfl⟩,rfl,k16,h16⟩;obtain⟨n,en,rfl⟩:=zA9 hv;have hR16:=k16 _ _ hR15 (by simp);have D16:=D15.kp0 k16;refine⟨_,rfl,_,rfl,⟨_,SqL.of hR16⟩,λB3 hB3=>zBt (R2.map V.str) (λi zs τ H17=>(∃o0,τ=[o0,some (.str n),some (.ref d)])/\zs=((R2.take i).filter λx=>decide (n∉L x)).map V.str/\H17=upd H16 B3 (.lst zs)) ⟨⟨_,rfl⟩,rfl,rfl⟩ (λi zs τ H17 ⟨_,_,z⟩=>by subst z;exact SqL.of ((Kp.new (M:=[]) Kp.refl hB3) _ _ hR16 (by simp))) ?_ ?_⟩
        .rintro i v zs τ H17 hv ⟨⟨o0,rfl⟩,rfl,rfl⟩;obtain⟨x,ex,rfl⟩:=zA9 hv;have hx:=R2s x (qAJ ex);have kB:Kp [] H16 (upd H16 B3 (.lst (((R2.take i).filter λx=>decide (n∉L x)).map V.str))):=Kp.new Kp.refl hB3;have D17:=D16.kp0 kB;obtain⟨o,g1,g2⟩:=zEm (D17.row x hx) n;refine⟨_,rfl,_,rfl,_,rfl,_,_,rfl,D17.get hx,_,o,rfl,g1,_,rfl,?_⟩;rw[g2,show(!decide (n∈L x))=decide (n∉L x) by simp];refine aA (λc=>?_) (λc=>?_)
         .refine ⟨_,rfl,ac,by rw[qAD];exact zJ0 (by lia),⟨_,rfl⟩,?_,zB7⟩;rw[zHa (p:=λx=>decide (n∉L x)) ex c,qAP];rfl
         .refine ⟨⟨_,rfl⟩,?_,rfl⟩;rw[zJz (p:=λx=>decide (n∉L x)) ex c]
        .rintro zs τ H17 ⟨_,rfl,rfl⟩;rw[qAD,qAg];have k17:Kp [] H16 (upd H16 B3 (.lst ((R2.filter λx=>decide (n∉L x)).map V.str))):=Kp.new Kp.refl hB3;have e17:upd H16 B3 (.lst ((R2.filter λx=>decide (n∉L x)).map V.str)) B3=some (.lst ((R2.filter λx=>decide (n∉L x)).map V.str)):=ac;generalize upd H16 B3 (.lst ((R2.filter λx=>decide (n∉L x)).map V.str))=H17 at k17 e17;refine⟨(by walk_at"ln"),λe he=>?_⟩;have k18:Kp [] H17 (upd H17 e (.lst [])):=Kp.new Kp.refl he;have e18:upd H17 e (.lst []) e=some (.lst []):=ac;generalize upd H17 e (.lst [])=H18 at k18 e18;have h18:=(k17.trans k18) _ _ h16 (by simp);refine zD9 (SqL.of (k18 _ _ e17 (by simp))) (SqL.of e18) λbb hbb=>?_
         have eb:bb=decide (∀x∈R2,n∈L x):=by
          rw[qB5,hbb,qC5,qCd,List.filter_eq_nil_iff];exact⟨λh x hx=>by simpa using h x hx,λh x hx=>by simpa using h x hx⟩
         subst eb;refine⟨_,rfl,aA (λc=>?_) (λc=>?_)⟩
         .refine ⟨_,rfl,h18,by rw[qAD];exact zJ0 (by lia),⟨_,rfl⟩,?_,Kp.new (k16.trans (k17.trans k18)) hB2,ac⟩;rw[zHa (p:=λn=>decide (∀x∈R2,n∈L x)) en c,qAP];rfl
         .refine ⟨⟨_,rfl⟩,?_,k16.trans (k17.trans k18),h18⟩;rw[zJz (p:=λn=>decide (∀x∈R2,n∈L x)) en c]
       .rintro ys τ H16 ⟨_,rfl,k16,h16⟩;rw[qAD,qAg]at h16;have fB2:Fre H15 B2:=hB2;have R16:au H16 c0 (as++[rw]) (bs++[R2]):=R15.kp k16
        have G':Gro J r (bs++[R2]) (J.ns.filter λn=>decide (∀x∈R2,n∈L x)):=by
         refine G.more rk (λz=>by have:=pm2.length_eq;rw[z,qAN]at this;simp at this) (pm2.nodup_iff.mpr Rnd) (λx hx=>Rsub x (pm2.mem_iff.mp hx)) (λy hy=>?_) (nd.filter _);obtain⟨h1,h2⟩:=qBZ.mp hy;exact⟨h1,λx hx=>(hLS x (R2s x hx) y h1).mp (qBm h2 x hx)⟩
        refine⟨20-(bs++[R2]).length,?_,B2,_,_,as++[rw],bs++[R2],_,rfl,P15.kp k16 (by simp),K15.trans (k16.weak (by simp)),R16,λa ha=>?_,h16,?_,G',rfl⟩
        .have:=G'.few few;rw[qAN,qAn]at this ⊢;lia
        .rcases qAR.mp ha with z|z
         .exact fa a z
         .rw [qAO.mp z];exact⟨frH,nrc⟩
        .obtain ⟨a,b,e,_⟩:=P15;exact(ae fB2 e).symm
      .refine ⟨_,rfl,(by walk_at"ln"),λe he=>?_⟩;have k12:Kp [] H11 (upd H11 e (.lst [])):=Kp.new Kp.refl he;have e12:upd H11 e (.lst []) e=some (.lst []):=ac;generalize upd H11 e (.lst [])=H12 at k12 e12;have hB12:=k12 _ _ hB11 (by simp);refine zD9 (SqL.of hB12) (SqL.of e12) λbb hbb=>?_;refine⟨_,rfl,aA (λc=>?_) (λc=>?_)⟩
       .have hlf12:=(k11.trans (k12.weak (by simp))) _ _ hlf10 (nm1 nlp);refine⟨_,rfl,_,rfl,_,rfl,_,_,rfl,.inl (SqL.of hlf12),p,_,rfl,P11.kp k12 (by simp),?_,?_,λz H13 z0 z1 P13 k13=>?_⟩
        .rw [qAD];have:=qB1.mpr Lne;lia
        .rw [qAD];lia
        rw[qAD]at z1;obtain⟨x,ex⟩:∃x,Lf[z.toNat]?=some x:=⟨_,qAq (by lia)⟩;have hlf13:=k13 _ _ hlf12 (nm1 nlp);refine⟨_,_,_,.str x,rfl,rfl,SqL.of hlf13,zEj z0 (by rw[qAY,ex];rfl),(by walk_at"ln"),λu hu=>?_⟩;have fu:Fre H13 u:=hu;have k14:Kp [] H13 (upd H13 u (.lst [.str x])):=Kp.new Kp.refl fu;have k1013:Kp [p] H10 H13:=(k11.trans (k12.weak (by simp))).trans k13;have nup:u≠p:=by obtain⟨a,b,e,_⟩:=P13;exact(ae fu e).symm
        exact key _ _ ⟨u,[x],rfl,P13.kp k14 (by simp),k1013.trans (k14.weak (by simp)),k1013.fre fu (nm1 nup),ac,by simp,qBI.mpr ⟨by simp,qBC⟩,λy hy=>by rw[qAO.mp hy];exact qAJ ex⟩
       .exact key _ _ ⟨B,Y,rfl,P11.kp k12 (by simp),k11.trans (k12.weak (by simp)),fB,hB12,λz=>c (hbb.mpr (by rw[z];rfl)),G.nd.sublist sY,λx hx=>sY.subset hx⟩
    .exact ⟨_,rfl,kk c0 as bs H9 f0 fa R9 b20 G.g P9 K9⟩
   .have k8':Kp [p] H7 H8:=k8.weak (by simp);exact⟨_,rfl,kk c0 as bs H8 f0 fa (R7.kp k8) b20 G.g (P7.kp k8 (by simp)) (k7.trans k8')⟩
  .obtain ⟨x,ex,h1,h2⟩:=hc;refine⟨x,ex,h1,λe he=>?_⟩;rcases h2 e he with⟨a,c,xs,ys,z1,z2,z3,z4,z5,z6,bb,z7,z8⟩|⟨a,c,xs,ys,z1,z2,z3,z4,z5,bb,z7,z8⟩
   .refine .inl ⟨a,c,xs,ys,z1,z2,z3,z4,z5,z6,bb,z7,?_⟩
    by_cases cc:bb=true
    .rw [qAC cc]at z8 ⊢;obtain⟨y,ey,p1,m1,w1,w2,w3,w4,w5⟩:=z8;refine⟨y,ey,p1,m1,w1,w2,w3,w4,λd H' u1 u2 u3 u4=>?_⟩;obtain⟨i,j,v1,v2,b2,v3,v4⟩:=w5 d H' u1 u2 u3 u4;exact⟨i,j,v1,v2,b2,v3,hq _ _ v4⟩
    .rw [qAB cc]at z8 ⊢;exact hq _ _ z8
   .refine .inr ⟨a,c,xs,ys,z1,z2,z3,z4,z5,bb,z7,?_⟩
    by_cases cc:bb=true
    .rw [qAC cc]at z8 ⊢;obtain⟨y,ey,p1,m1,w1,w2,w3,w4,w5⟩:=z8;refine⟨y,ey,p1,m1,w1,w2,w3,w4,λd H' u1 u2 u3 u4=>?_⟩;obtain⟨i,j,v1,v2,b2,v3,v4⟩:=w5 d H' u1 u2 u3 u4;exact⟨i,j,v1,v2,b2,v3,hq _ _ v4⟩
    .rw [qAB cc]at z8 ⊢;exact hq _ _ z8
end
structure PAI(X:Cx)(es:List Expr)(t:L2.TA):Prop where
 to:PA X es t
theorem zCn :PAI X [] cz:=⟨zAb⟩
theorem zA5(ha:PE X e te)(hr:PAI X es t)(hs:fh e=true:=by rfl):PAI X (e::es) (zIf te t):=⟨zAa ha hr.to (kL hs)⟩
theorem zFg{X:Cx}{es:List Expr}{t:L2.TA}{pos:Pos}(h:PAI X es t):PE X (.List es pos) (bI t):=zAj h.to
theorem jG{x1}(h:PAI X es t):PE X (.Tuple es x1 pos) (cC t):=zCa h.to
theorem uv:bootBuiltins "ValueError"=some (.type "ValueError"):=by decide +kernel
structure uY(K:PySem.W.Frag)(mg:Str->Option Value)(Cn Cp Ct Cm:Addr)(D1 D2:Nat->Addr):Prop where
 c1:mg "NoBench"=some (.ref Cn)
 c2:mg "NoPaper"=some (.ref Cp)
 c3:mg "NoTurns"=some (.ref Ct)
 c4:mg "TooMany"=some (.ref Cm)
 n0:mg "NoEnd"=some (.ref (D1 0))
 n1:mg "NoJob"=some (.ref (D1 1))
 n2:mg "NoLength"=some (.ref (D1 2))
 n3:mg "NoLine"=some (.ref (D1 3))
 n4:mg "NoName"=some (.ref (D1 4))
 n5:mg "NoRow"=some (.ref (D1 5))
 n6:mg "NoText"=some (.ref (D1 6))
 n7:mg "NoWindow"=some (.ref (D1 7))
 n8:mg "NoWood"=some (.ref (D1 8))
 m0:mg "Ring"=some (.ref (D2 0))
 m1:mg "Stranger"=some (.ref (D2 1))
 m2:mg "Twice"=some (.ref (D2 2))
 zv:mg "ValueError"=none
structure uj(K:PySem.W.Frag)(Cn Cp Ct Cm:Addr)(D1 D2:Nat->Addr)(Ce:Addr)(b1 b2 b3 b4:Bool):Prop where
 kit:zFb K Ce=true
 k1:PySem.W.kitOne K (.ref Ce) (.ref Cn)=some b1
 k2:PySem.W.kitOne K (.ref Ce) (.ref Cp)=some b2
 k3:PySem.W.kitOne K (.ref Ce) (.ref Ct)=some b3
 k4:PySem.W.kitOne K (.ref Ce) (.ref Cm)=some b4
 a1:PySem.W.kitAny K (.ref Ce) ([D1 0,D1 1,D1 2,D1 3,D1 4,D1 5,D1 6,D1 7,D1 8].map Value.ref)=some false
 a2:PySem.W.kitAny K (.ref Ce) ([D2 0,D2 1,D2 2].map Value.ref)=some false
 av:PySem.W.kitOne K (.ref Ce) (.type "ValueError")=some true
def fW(b1 b2 b3 b4:Bool):List (Str×Bool):=[("bench",b1),("paper",b2),("turns",b3),("many",b4)]
def lF(b1 b2 b3 b4:Bool):Str:=Txt.join "," (((fW b1 b2 b3 b4).filter (·.2)).map (·.1))
theorem vF{α:Type}{l:List α}{p:α->Bool}{x:α}(h:l[i]?=some x)(c:p x=true):(l.take (i+1)).filter p=(l.take i).filter p++[x]:=by
 rw[List.take_add_one,h,qBY,Option.toList_some,qBF,qAC c];rfl
theorem vD{α:Type}{l:List α}{p:α->Bool}{x:α}(h:l[i]?=some x)(c:p x=false):(l.take (i+1)).filter p=(l.take i).filter p:=by
 rw[List.take_add_one,h,qBY,Option.toList_some,qBF,qAB (by rw[c];exact qAd),List.filter_nil,qAm]
section
theorem _root_.L2.Fun.okH{qual:Str}{N ps:List Str}{k:Nat}{sp:Addr->Sp}(F:Fun K x qual st f fd)(S:ag N ps (zAg st))(len:∀a vs H Q E,sp a vs H Q E->vs.length=ps.length)
  (hbody:∀(cdv:Value) (A:Around) (outer:List Env) (s:Shared) (H:Hp) (vs:List V) (Q:VK) (E:XK) (a:Addr),aB k (A.deeper (PyProof.Rows.envOfC qual (zAg st) s.heap.objs.size f cdv))->sp a vs H Q E ->
   ∃t,PSs ((aM CX0 P w K mg base N qual (zAg st) f cdv A outer s H E).hnd a) (zCt st) t/\t {nx:=λ_ H'=>Q .non H',rt:=Q} (L2.start N vs) H):gG P w K mg base (k+1) f fd ps sp:=by
 obtain⟨oc,od,kV,doc,pm,an,cdv,ct,osl,rfl,lk,hcd⟩:=F.ex;exact sR lk hcd S len λA outer s H vs Q E a hr hsp=>hbody cdv A outer s H vs Q E a hr hsp
inductive iS(K:PySem.W.Frag)(Cn Cp Ct Cm:Addr)(D1 D2:Nat->Addr)(a:Addr)(vs:List V)(H:Hp)(Q:VK)(u_3:XK):Prop
 |mk:∀(Ce:Addr)(b1 b2 b3 b4:Bool),vs=[.ref a]->H a=some (bC a Ce none)->uj K Cn Cp Ct Cm D1 D2 Ce b1 b2 b3 b4->(∀H',Kp [] H H'->Q (.str (lF b1 b2 b3 b4)) H')->iS K Cn Cp Ct Cm D1 D2 a vs H Q u_3
abbrev dC:Stmt:=top 65
theorem dB:ag ["_law_e","_law_some","_law_others"] ["_law_e"] (zAg dC):=fnS
theorem pp{Cn Cp Ct Cm:Addr}{D1 D2:Nat->Addr}(F:Fun K "_law_kind" "_law_kind" dC f fd)(T:Txt K mg)(U:uY K mg Cn Cp Ct Cm D1 D2):gG P w K mg base 1 f fd ["_law_e"] (iS K Cn Cp Ct Cm D1 D2):=by
 refine F.okH dB (λa vs H Q E h=>?_) (λcdv A outer s H vs Q E a hr h=>?_)
 .obtain ⟨Ce,b1,b2,b3,b4,rfl,_⟩:=h;rfl
 .obtain ⟨Ce,b1,b2,b3,b4,rfl,he,Kd,k⟩:=h
  refine⟨_,(zAc (psS (i:=1) dB.nd (zAj (zAa (zAi (zF9 (K:=K)) (by rfl) T.z_isinstance zAl (zAa (pv 0) (zAa (zBs rfl U.c1 (v:=.ref Cn) rfl) zAb))) (zAa (zAi (zF9 (K:=K)) (by rfl) T.z_isinstance zAl (zAa (pv 0) (zAa (zBs rfl U.c2 (v:=.ref Cp) rfl) zAb))) (zAa (zAi (zF9 (K:=K)) (by rfl) T.z_isinstance zAl (zAa (pv 0) (zAa (zBs rfl U.c3 (v:=.ref Ct) rfl) zAb))) (zAa (zAi (zF9 (K:=K)) (by rfl) T.z_isinstance zAl (zAa (pv 0) (zAa (zBs rfl U.c4 (v:=.ref Cm) rfl) zAb))) zAb)))))) (zAc (psS (i:=2) dB.nd (zAi (zI2 (K:=K)) (by rfl) T.z_isinstance zAl (zAa (pv 0) (zAa (jG (zA5 (zBs rfl U.n0 (v:=.ref (D1 0)) rfl) (zA5 (zBs rfl U.n1 (v:=.ref (D1 1)) rfl) (zA5 (zBs rfl U.n2 (v:=.ref (D1 2)) rfl) (zA5 (zBs rfl U.n3 (v:=.ref (D1 3)) rfl) (zA5 (zBs rfl U.n4 (v:=.ref (D1 4)) rfl) (zA5 (zBs rfl U.n5 (v:=.ref (D1 5)) rfl) (zA5 (zBs rfl U.n6 (v:=.ref (D1 6)) rfl) (zA5 (zBs rfl U.n7 (v:=.ref (D1 7)) rfl) (zA5 (zBs rfl U.n8 (v:=.ref (D1 8)) rfl) zCn)))))))))) zAb))))
   (zAc (zBk (PW.pt (zEk (zBi (pv 2)) (zEk (zBi (zAi (zI2 (K:=K)) (by rfl) T.z_isinstance zAl (zAa (pv 0) (zAa (zCa (zAa (zBs rfl U.m0 (v:=.ref (D2 0)) rfl) (zAa (zBs rfl U.m1 (v:=.ref (D2 1)) rfl) (zAa (zBs rfl U.m2 (v:=.ref (D2 2)) rfl) zAb)))) zAb)))) (zDv (zBm (zBi (zAi (g9 (K:=K)) (by rfl) T.z_isinstance zAl (zAa (pv 0) (zAa (zBw (by rfl) U.zv uv (v:=.ty "ValueError") rfl) zAb)))))))))
    (zAe zAz)
    zAs)
   (zAe (zAw (zD6 PySem.F.plainAttrs_str PySem.F.slot_str_join PySem.F.type_str_join pS zAu (zAa (mI (xa:=a) rfl (zBp (sc:=zAg dC) rfl (by decide +kernel)) (ah.own (x:="_law_word") (ah.own (x:="_law_held") ah.nil)) (pB (xa:=a) rfl T.z_zip (zAa (zAj (zAa zAu (zAa zAu (zAa zAu (zAa zAu zAb))))) (zAa (pv 1) zAb))) (λ_ _ _ _=>(qd (K:=K) (xa:=a) (n:=2) rfl (zBf (pgB (i:=0)) (zBf (pgB (i:=1)) zD5)))) (λ_ _ _ _=>(zCl (zBi (pv 1)))) (λ_ _ _ _=>(pv 0))) zAb))))))),?_⟩
  refine bE ?_;intro _ _ _ _;refine⟨_,rfl,a,Ce,none,Cn,b1,rfl,he,Kd.kit,Kd.k1,_,rfl,a,Ce,none,Cp,b2,rfl,he,Kd.kit,Kd.k2,_,rfl,a,Ce,none,Ct,b3,rfl,he,Kd.kit,Kd.k3,_,rfl,a,Ce,none,Cm,b4,rfl,he,Kd.kit,Kd.k4,(by walk_at"ln"),λl hl=>?_⟩;have k1:Kp [] H (upd H l (.lst [.bl b1,.bl b2,.bl b3,.bl b4])):=Kp.new Kp.refl hl;have e1:upd H l (.lst [.bl b1,.bl b2,.bl b3,.bl b4]) l=some (.lst ((fW b1 b2 b3 b4).map λp=>V.bl p.2)):=ac;generalize upd H l (.lst [.bl b1,.bl b2,.bl b3,.bl b4])=H1 at k1 e1;refine⟨_,rfl,(by show(9:Nat)<=sizeLine;decide),λt1 h1=>?_⟩;have k2:Kp [] H1 (upd H1 t1 (.tup [.ref (D1 0),.ref (D1 1),.ref (D1 2),.ref (D1 3),.ref (D1 4),.ref (D1 5),.ref (D1 6),.ref (D1 7),.ref (D1 8)])):=Kp.new Kp.refl h1;have e2:upd H1 t1 (.tup [.ref (D1 0),.ref (D1 1),.ref (D1 2),.ref (D1 3),.ref (D1 4),.ref (D1 5),.ref (D1 6),.ref (D1 7),.ref (D1 8)]) t1=some (.tup [.ref (D1 0),.ref (D1 1),.ref (D1 2),.ref (D1 3),.ref (D1 4),.ref (D1 5),.ref (D1 6),.ref (D1 7),.ref (D1 8)]):=ac;refine⟨a,Ce,none,t1,false,[D1 0,D1 1,D1 2,D1 3,D1 4,D1 5,D1 6,D1 7,D1 8],rfl,(k1.trans k2) _ _ he (by simp),e2,Kd.kit,Kd.a1,?_⟩;have k02:Kp [] H _:=k1.trans k2;have e12:=k2 _ _ e1 (by simp);refine⟨_,rfl,false,rfl,aw ?_⟩;refine⟨_,rfl,(by show(3:Nat)<=sizeLine;decide),λt2 h2=>?_⟩;have k3:Kp [] H (upd (upd H1 t1 (.tup [.ref (D1 0),.ref (D1 1),.ref (D1 2),.ref (D1 3),.ref (D1 4),.ref (D1 5),.ref (D1 6),.ref (D1 7),.ref (D1 8)])) t2 (.tup [.ref (D2 0),.ref (D2 1),.ref (D2 2)])):=Kp.new k02 (k02.fre h2 (by simp));have e13:=(Kp.new (M:=[]) (o:=.tup [.ref (D2 0),.ref (D2 1),.ref (D2 2)]) Kp.refl h2) _ _ e12 (by simp);refine⟨a,Ce,none,t2,false,[D2 0,D2 1,D2 2],rfl,k3 _ _ he (by simp),ac,Kd.kit,Kd.a2,_,rfl,aw ?_⟩;generalize upd (upd H1 t1 (.tup [.ref (D1 0),.ref (D1 1),.ref (D1 2),.ref (D1 3),.ref (D1 4),.ref (D1 5),.ref (D1 6),.ref (D1 7),.ref (D1 8)])) t2 (.tup [.ref (D2 0),.ref (D2 1),.ref (D2 2)])=H3 at k3 e13;refine⟨_,rfl,a,Ce,none,"ValueError",true,rfl,k3 _ _ he (by simp),Kd.kit,Kd.av,_,rfl,aw ?_⟩;refine⟨rfl,(by walk_at"ln"),λl2 hl2=>?_⟩;have k4:Kp [] H3 (upd H3 l2 (.lst [.str "bench",.str "paper",.str "turns",.str "many"])):=Kp.new Kp.refl hl2;have e4:upd H3 l2 (.lst [.str "bench",.str "paper",.str "turns",.str "many"]) l2=some (.lst ((fW b1 b2 b3 b4).map λp=>V.str p.1)):=ac;generalize upd H3 l2 (.lst [.str "bench",.str "paper",.str "turns",.str "many"])=H4 at k4 e4;have k04:=k3.trans k4;have e14:=k4 _ _ e13 (by simp);refine⟨_,rfl,l2,l,rfl,⟨_,SqL.of e4⟩,⟨_,SqL.of e14⟩,λD hD=>kT (xs:=(fW b1 b2 b3 b4).map λp=>V.str p.1) (ys:=(fW b1 b2 b3 b4).map λp=>V.bl p.2) rfl (λi zs τ H5=>(∃o0 o1,τ=[o0,o1])/\zs=(((fW b1 b2 b3 b4).take i).filter (·.2)).map (λp=>V.str p.1)/\Kp [] H4 H5/\H5 D=some (.lst zs)) ⟨⟨_,_,rfl⟩,rfl,Kp.new Kp.refl hD,ac⟩ (λi zs τ H5 ⟨_,_,k5,_⟩=>⟨SqL.of (k5 _ _ e4 (by simp)),SqL.of (k5 _ _ e14 (by simp)),Ce,none,(k04.trans k5) _ _ he (by simp)⟩) ?_ ?_⟩
  .rintro i x y t zs τ H5 hx hy ⟨⟨o0,o1,rfl⟩,rfl,k5,h5⟩ ht;rw[qAY]at hx hy;obtain⟨p,ep,rfl⟩:=qBU.mp hx;rw[ep]at hy
   cases hy
   have k6:Kp [] H5 (upd H5 t (.tup [.str p.1,.bl p.2])):=Kp.new Kp.refl ht;have h6:=k6 _ _ h5 (by simp);have hi:i<4:=(qAL.mp ep).1;refine⟨t,_,rfl,.inl (.inl ac),rfl,⟨Ce,none,((k04.trans k5).trans k6) _ _ he (by simp)⟩,_,_,rfl,_,_,rfl,rfl,?_⟩;refine⟨_,rfl,_,rfl,aA (λc=>?_) (λc=>?_)⟩
   .refine ⟨_,rfl,h6,?_,⟨_,_,rfl⟩,?_,Kp.new (k5.trans k6) hD,ac⟩
    .have h1:=qBe (λp:Str×Bool=>p.2) ((fW b1 b2 b3 b4).take i);rw[qAU]at h1;rw[qAD,qAK];lia
    .rw [vF ep c,qAP];rfl
   .refine ⟨⟨_,_,rfl⟩,?_,k5.trans k6,h6⟩;rw[vD ep (by simpa using c)]
  .rintro zs τ H5 ⟨_,rfl,k5,h5⟩;refine⟨_,D,((fW b1 b2 b3 b4).filter (λp:Str×Bool=>p.2)).map (λp:Str×Bool=>p.1),rfl,rfl,SqL.of (by rw[h5,qBO];rfl),?_,k H5 (k04.trans k5)⟩
   cases b1<;>cases b2<;>cases b3<;>cases b4<;>decide
inductive bx(vs:List V)(H:Hp)(Q:VK)(u_3:XK):Prop
 |mk:∀(c:Int),vs=[.int c]->(∀(v:V)(H':Hp),af H' v->bY v=false->Kp [] H H'->Q v H')->bx vs H Q u_3
abbrev zGe:Stmt:=top 66
theorem zHh:ag ["_law_cell_here","_law_far"] ["_law_cell_here"] (zAg zGe):=fnS
theorem gC(F:Fun K "_law_no_bench" "_law_no_bench" zGe f fd)(T:Txt K mg):ak P w K mg base CX0 1 f fd ["_law_cell_here"] bx:=by
 refine F.ok zHh (λvs H Q E h=>?_) (λcdv A outer s H vs Q E hr h=>?_)
 .obtain ⟨c,rfl,_⟩:=h;rfl
 .obtain ⟨c,rfl,k⟩:=h
  refine⟨_,(zAc (psS (i:=1) zHh.nd (zAn zBa (zAn zJi (pv 0) zAd) (zAn iw zAd zAd))) (zAe (zAw (zBd zA0 (zFg (zA5 zAd (zA5 (zAn zE9 (n_ iF zAd) (pv 1)) (zA5 zHn (zA5 zEs (zA5 zEs (zA5 zAu (zA5 (zCa (zAa zAd zAb)) (zA5 (zAj (zAa zAd zAb)) (zA5 zBv (zA5 zAu (zA5 zAd zCn)))))))))))) (zAn zBa (pv 0) zAd) (λ_ _=>rfl))))),?_⟩
  refine bG ?_;intro _ _;refine⟨_,rfl,_,_,rfl,rfl,⟨by decide,by decide⟩,_,_,rfl,rfl,⟨by decide,by decide,by decide⟩,_,_,rfl,rfl,(show(0:Int)<10^(58:Int).toNat by decide +kernel),?_⟩;have hz0:0<=(c / 11 % (10:Int)^(58:Int).toNat):=qAw _ (by decide +kernel);refine⟨_,rfl,_,rfl,_,_,rfl,rfl,(by walk_at"ln"),λl1 h1=>⟨(by walk_at"ln"),λl2 h2=>λl3 h3=>⟨(by walk_at"ln"),λl4 h4=>?_⟩⟩⟩;have k1:Kp [] H (upd H l1 (.tup [.int 2])):=Kp.new Kp.refl h1;have e1:upd H l1 (.tup [.int 2]) l1=some (.tup [.int 2]):=ac;generalize upd H l1 (.tup [.int 2])=H1 at k1 e1 h2 h3 h4;have k2:Kp [] H1 (upd H1 l2 (.lst [.int 2])):=Kp.new Kp.refl h2;have e2:upd H1 l2 (.lst [.int 2]) l2=some (.lst [.int 2]):=ac;generalize upd H1 l2 (.lst [.int 2])=H2 at k2 e2 h3 h4;have k3:Kp [] H2 (upd H2 l3 (.dK [])):=Kp.new Kp.refl h3;have e3:upd H2 l3 (.dK []) l3=some (.dK []):=ac;generalize upd H2 l3 (.dK [])=H3 at k3 e3 h4;have k4:Kp [] H3 (upd H3 l4 (.lst [.int 0,.int (-1-(c / 11 % (10:Int)^(58:Int).toNat)),.non,.bl true,.bl false,.str "2",.ref l1,.ref l2,.ref l3,.str "",.int 0])):=Kp.new Kp.refl h4;have e4:upd H3 l4 (.lst [.int 0,.int (-1-(c / 11 % (10:Int)^(58:Int).toNat)),.non,.bl true,.bl false,.str "2",.ref l1,.ref l2,.ref l3,.str "",.int 0]) l4=some (.lst [.int 0,.int (-1-(c / 11 % (10:Int)^(58:Int).toNat)),.non,.bl true,.bl false,.str "2",.ref l1,.ref l2,.ref l3,.str "",.int 0]):=ac;have w1:=(k2.trans (k3.trans k4)) _ _ e1 (by simp);have w2:=(k3.trans k4) _ _ e2 (by simp);have w3:=k4 _ _ e3 (by simp);have d0:=qAw c (show(11:Int)≠0 by decide);have d1:=qA0 c (show(0:Int)<11 by decide)
  obtain⟨v,ev,tv,bv⟩:∃v,atI [V.int 0,.int (-1-(c / 11 % (10:Int)^(58:Int).toNat)),.non,.bl true,.bl false,.str "2",.ref l1,.ref l2,.ref l3,.str "",.int 0] (c % 11)=some v/\af (upd H3 l4 (.lst [.int 0,.int (-1-(c / 11 % (10:Int)^(58:Int).toNat)),.non,.bl true,.bl false,.str "2",.ref l1,.ref l2,.ref l3,.str "",.int 0])) v/\bY v=false:=by
   generalize c % 11=e at d0 d1;generalize (c / 11 % (10:Int)^(58:Int).toNat)=z at hz0 w1 w2 w3;have:e=0\/e=1\/e=2\/e=3\/e=4\/e=5\/e=6\/e=7\/e=8\/e=9\/e=10:=by lia
   rcases this with rfl|rfl|rfl|rfl|rfl|rfl|rfl|rfl|rfl|rfl|rfl
   .exact ⟨_,rfl,.inr (.inr (.inr (.inl ⟨_,rfl⟩))),rfl⟩
   .exact ⟨_,rfl,.inr (.inr (.inr (.inl ⟨_,rfl⟩))),qAZ (by lia)⟩
   .exact ⟨_,rfl,.inr (.inl rfl),rfl⟩
   .exact ⟨_,rfl,.inr (.inr (.inl ⟨_,rfl⟩)),rfl⟩
   .exact ⟨_,rfl,.inr (.inr (.inl ⟨_,rfl⟩)),rfl⟩
   .exact ⟨_,rfl,.inl ⟨_,rfl⟩,rfl⟩
   .exact ⟨_,rfl,.inr (.inr (.inr (.inr ⟨l1,rfl,.inr (.inl ⟨_,w1⟩)⟩))),rfl⟩
   .exact ⟨_,rfl,.inr (.inr (.inr (.inr ⟨l2,rfl,.inl ⟨_,w2⟩⟩))),rfl⟩
   .exact ⟨_,rfl,.inr (.inr (.inr (.inr ⟨l3,rfl,.inr (.inr ⟨_,w3⟩)⟩))),rfl⟩
   .exact ⟨_,rfl,.inl ⟨_,rfl⟩,rfl⟩
   .exact ⟨_,rfl,.inr (.inr (.inr (.inl ⟨_,rfl⟩))),rfl⟩
  exact⟨_,rfl,_,_,rfl,rfl,(show(0:Int)<11 by decide),_,_,_,_,rfl,rfl,SqL.of e4,ev,k v _ tv bv (k1.trans (k2.trans (k3.trans k4)))⟩
end
def u8(t:TS):TS:=λD σ H=>∃a kvs,H a=some (.dK kvs)/\∀o,t (qZ D a o kvs) σ (upd H a (.frz o (.dK kvs)))
theorem pX{t:TS}(h:PS X st t):PS X st (u8 t):=sV h
theorem rT{B:List Str}{kk:Key}(h:(dT1 B λ_=>V.bl true)[m]?=some (kk,v)):∃y,B[m]?=some y/\kk=Sum.inr y:=by
 unfold dT1 at h;rw[qAY]at h;obtain⟨y,e,r⟩:=qBU.mp h
 cases r
 exact⟨y,e,rfl⟩
inductive Tx2(s:Addr)(H:Hp)(v:V):Prop
 |mk:∀(a:Addr)(as:List Addr) (rs:List (List Str)),v= .ref a->au H a as rs->rs.length<=64->(∀r∈rs,r.length<=64)->a≠s->(∀b∈as,b≠s)->Tx2 s H v
theorem Tx2.kp{M:List Addr}(h:Tx2 s H v)(k:Kp M H H')(m:∀a,a≠s->∀xs,H a=some (.lst xs)->a∉M):Tx2 s H' v:=by
 obtain⟨a,as,rs,e,R,l1,l2,n1,n2⟩:=h;exact⟨a,as,rs,e,⟨k _ _ R.top (m _ n1 _ R.top),R.len,λi b r e1 e2=>k _ _ (R.row i b r e1 e2) (m _ (n2 b (qAJ e1)) _ (R.row i b r e1 e2))⟩,l1,l2,n1,n2⟩
theorem Tx2.kp0(h:Tx2 s H v)(k:Kp [] H H'):Tx2 s H' v:=h.kp k λ_ _ _ _=>by simp
theorem Tx2.put(h:Tx2 s H v)(k:Kp [s] H H'):Tx2 s H' v:=h.kp k λ_ n _ _=>nm1 n
theorem Tx2.of2{b1 b2:Addr}{r1 r2:List Str}(hc:H c=some (.lst [.ref b1,.ref b2]))(h1:Txs H b1 r1)(h2:Txs H b2 r2)(l1:r1.length<=64)(l2:r2.length<=64)(n:c≠s)(n1:b1≠s)(n2:b2≠s):Tx2 s H (.ref c):=by
 refine⟨c,[b1,b2],[r1,r2],rfl,⟨hc,rfl,λi a r e1 e2=>?_⟩,by simp,λr h=>?_,n,λb h=>?_⟩
 .rcases i with _|_|i<;>simp at e1 e2<;>subst e1 e2
  .exact h1
  .exact h2
 .rcases qAT.mp h with e|h
  .rw [e];exact l1
  .rw [qAO.mp h];exact l2
 .rcases qAT.mp h with e|h
  .rw [e];exact n1
  .rw [qAO.mp h];exact n2
theorem zGd{s:Addr}(hs:H s=some (.lst xs)){r1 r2:List Str}{X1 X2:List V}{b1 b2:Addr}(h1:H b1=none)(h2:upd H b1 (.lst X1) b2=none)(h3:upd (upd H b1 (.lst X1)) b2 (.lst X2) c=none)(e1:X1=r1.map V.str)(e2:X2=r2.map V.str)(l1:r1.length<=64)(l2:r2.length<=64) :
  ∃H',upd (upd (upd H b1 (.lst X1)) b2 (.lst X2)) c (.lst [.ref b1,.ref b2])=H'/\Kp [] H H'/\Tx2 s H' (.ref c):=by
 subst e1 e2;have k1:Kp [] H (upd H b1 (.lst (r1.map V.str))):=Kp.new Kp.refl h1;have k2:Kp [] (upd H b1 (.lst (r1.map V.str))) (upd (upd H b1 (.lst (r1.map V.str))) b2 (.lst (r2.map V.str))):=Kp.new Kp.refl h2;have k3:Kp [] (upd (upd H b1 (.lst (r1.map V.str))) b2 (.lst (r2.map V.str))) (upd (upd (upd H b1 (.lst (r1.map V.str))) b2 (.lst (r2.map V.str))) c (.lst [.ref b1,.ref b2])):=Kp.new Kp.refl h3;exact⟨_,rfl,(k1.trans k2).trans k3,Tx2.of2 ac ((k2.trans k3) _ _ ac (by simp)) (k3 _ _ ac (by simp)) l1 l2 (zAm ((k1.trans k2) _ _ hs (by simp)) h3).symm (zAm hs h1).symm (zAm (k1 _ _ hs (by simp)) h2).symm⟩
inductive Som(s:Addr)(H:Hp)(n:Nat):Prop
 |mk:∀vs:List V,H s=some (.lst vs)->vs≠[]->vs.length<=n->(∀v∈vs,Tx2 s H v)->Som s H n
theorem Som.kp0(h:Som s H n)(k:Kp [] H H'):Som s H' n:=by
 obtain⟨vs,e,ne,l,t⟩:=h;exact⟨vs,k _ _ e (by simp),ne,l,λv hv=>(t v hv).kp0 k⟩
theorem Som.le(h:Som s H n)(l:n<=m):Som s H m:=by
 obtain⟨vs,e,ne,l',t⟩:=h;exact⟨vs,e,ne,qAW l' l,t⟩
theorem Som.dic{s a:Addr}{o:HO}(h:Som s H n)(no:∀xs,H a≠some (.lst xs)):Som s (upd H a o) n:=by
 obtain⟨vs,e,ne,l,t⟩:=h;have k:Kp [a] H (upd H a o):=Kp.put Kp.refl (by simp);exact⟨vs,k _ _ e (nm1 λz=>no vs (z▸e)),ne,l,λv hv=>(t v hv).kp k λb _ xs hb=>nm1 λz=>no xs (z▸hb)⟩
theorem Som.more{vs zs:List V}(hs:H s=some (.lst vs))(ne:vs≠[])(l:vs.length<=n)(t:∀v∈vs,Tx2 s H v)(t':∀v∈zs,Tx2 s H v):Som s (upd H s (.lst (vs++zs))) (n+zs.length):=by
 have k:Kp [s] H (upd H s (.lst (vs++zs))):=Kp.put Kp.refl (by simp);refine⟨_,ac,λz=>ne (List.append_eq_nil_iff.mp z).1,by rw[qAN];lia,λv hv=>?_⟩;rcases qAR.mp hv with z|z
 .exact (t v z).put k
 .exact (t' v z).put k
theorem zI4{ns:List Str}{i:Int}(h0:-(ns.length:Int)<=i)(h1:i<ns.length):∃x∈ns,atI (ns.map V.str) i=some (.str x):=by
 by_cases c:0<=i
 .have hi:i.toNat<ns.length:=by lia
  exact⟨ns[i.toNat],qB8 hi,zEj c (by rw[qAY,qAq hi];rfl)⟩
 .have hi:(i+ns.length).toNat<ns.length:=by lia
  refine⟨ns[(i+ns.length).toNat],qB8 hi,?_⟩;unfold atI ixN;rw[qAB c,qAD,qAC (by lia)];show(ns.map V.str)[_]?=_;rw[qAY,qAq hi];rfl
section
inductive cj(vs:List V)(H:Hp)(Q:VK)(u_3:XK):Prop
 |mk:∀(l d:Addr)(ns:List Str)(la:Str->Addr)(L:Str->List Str),vs=[.ref l,.ref d]->Txs H l ns->DR H d ns la L->(∀n∈ns,la n≠d)->ns.Nodup->ns.length<=20->ns≠[]->(∀n∈ns,(L n).Nodup/\∀x∈L n,x∈ns)->(∀(s:Addr)(vs:List V)(H':Hp),Kp [] H H'->Fre H s->H' s=some (.lst vs)->vs≠[]->vs.length<=20000->(∀v∈vs,Tx2 s H' v)->Q (.ref s) H')->cj vs H Q u_3
abbrev zG3:Stmt:=top 67
theorem zDt:ag ["_law_names_here","_law_behind_here","_law_some","_law_one","_law_other","_law_more","_law_name"] ["_law_names_here","_law_behind_here"] (zAg zG3):=fnS
theorem kD(F:Fun K "_law_halves" "_law_halves" zG3 f fd):ak P w K mg base CX0 2 f fd ["_law_names_here","_law_behind_here"] cj:=by
 refine F.ok zDt (λvs H Q E h=>?_) (λcdv A outer s H vs Q E hr h=>?_)
 .obtain ⟨l,d,ns,la,L,rfl,_⟩:=h;rfl
 .obtain ⟨l,d,ns,la,L,rfl,hl,D0,ne0,nd,few,nn,lin,k⟩:=h;have hu:=zF2 hr
  refine⟨_,(zAc (psS (i:=2) zDt.nd (zAj (zAa (zAj (zAa (zAj (zAa (zBd zA0 (pv 0) zAd (λ_ _=>rfl)) zAb)) (zAa (zAj (zAa (zBd zA0 (pv 0) (n_ iF zAd) (λ_ _=>rfl)) zAb)) zAb))) zAb))) (zAc (zA7 qAc rfl (zAq (pv 0)) (pgN (i:=3) zDt.nd)
    (zAe (pX (zA7 qAc rfl (oR (zB8 hu (pv 1) (pv 3) (fun _ _=>rfl))) (pgN (i:=4) zDt.nd)
     (zAc (zGi (i:=5) rfl (zBp (sc:=zAg zG3) rfl (by decide +kernel)) (ah.own (x:= "_law_name") (dtk (i:=3) rfl (dtk (i:=4) rfl ah.nil))) (zAq (pv 0)) (fun _ _ _ _=>(pgB (i:=0))) (fun _ _ _ _=>(zCl (PW.pt (zHl (zAr zFu (pv 0) (pv 1) (zAv _)) (zGg (zAr zFu (pv 0) (pv 2) (zAv _))))))) (fun _ _ _ _=>(pv 0)) zDt.nd rfl rfl)
     (zAe (zA7 qAc rfl (zAq (zB1 zCi (pv 5) zCr (zCd zAd))) (pgN (i:=6) zDt.nd)
      (zAc (zBk (zEg (zDa hu (pv 4) (zB8 hu (pv 1) (pv 6) (fun _ _=>rfl))))
       (zAe (zA2 (zD6 qAx qCi qCj zEv (pv 2) (zAa (zAj (zAa (zAj (zAa (zAj (zAa (pv 3) (zAa (pv 6) zAb))) (zAa (zAj (zAa (pv 4) zAb)) zAb))) (zAa (zAj (zAa (zAj (zAa (pv 6) (zAa (pv 3) zAb))) (zAa (zAj (zAa (pv 4) zAb)) zAb))) zAb))) zAb))))
       zAs)
      (zAe (zBk (zEg (zDa hu (pv 6) (zB8 hu (pv 1) (pv 3) (fun _ _=>rfl))))
       (zAe (zA2 (zD6 qAx qCi qCj zEv (pv 2) (zAa (zAj (zAa (zAj (zAa (zAj (zAa (pv 3) zAb)) (zAa (zAj (zAa (pv 4) (zAa (pv 6) zAb))) zAb))) (zAa (zAj (zAa (zAj (zAa (pv 3) zAb)) (zAa (zAj (zAa (pv 6) (zAa (pv 4) zAb))) zAb))) (zAa (zAj (zAa (zAj (zAa (pv 3) zAb)) (zAa (zAj (zAa (pv 6) zAb)) zAb))) zAb)))) zAb))))
       zAs))))))))))
   (zAe (zAw (pv 2))))),?_⟩
  refine cy ?_;intro _ _ _;have hz:=qAK;have pos:0<ns.length:=qB1.mpr nn;obtain⟨x0,_,a0⟩:=zI4 (ns:=ns) (i:=0) (by lia) (by lia);obtain⟨x1,_,a1⟩:=zI4 (ns:=ns) (i:=-1) (by lia) (by lia);refine⟨_,rfl,_,_,_,_,rfl,rfl,SqL.of hl,a0,(by walk_at"ln"),λb1 h1=>?_⟩;have k1:Kp [] H (upd H b1 (.lst [.str x0])):=Kp.new Kp.refl h1;refine⟨_,rfl,_,rfl,_,_,_,_,rfl,rfl,SqL.of (k1 _ _ hl (by simp)),a1,(by walk_at"ln"),λb2 h2=>?_⟩;refine⟨(by walk_at"ln"),λc h3=>?_⟩;obtain⟨H1,e1,k01,t1⟩:=zGd (s:=l) (r1:=[x0]) (r2:=[x1]) hl h1 h2 h3 rfl rfl (by simp) (by simp);rw[e1];refine⟨(by walk_at"ln"),λs hs=>?_⟩;have fs:Fre H s:=k01.fre hs (by simp)
  have S0:Som s (upd H1 s (.lst [.ref c])) 1:=by
   have k:Kp [] H1 (upd H1 s (.lst [.ref c])):=Kp.new Kp.refl hs;refine⟨_,ac,(λz=>nomatch z),qAG _,λv hv=>?_⟩;rw[qAO.mp hv];obtain⟨a,as,rs,e,R,l1,l2,_,_⟩:=t1
   exact Tx2.kp0 ⟨a,as,rs,e,R,l1,l2,(zAm R.top hs),λb hb=>by
    obtain⟨i,ei⟩:=qDN hb;have hi:i<rs.length:=by rw[<-R.len];exact(qAL.mp ei).1
    exact zAm (R.row i b _ ei (qAq hi)) hs⟩ k
  have k02:Kp [] H (upd H1 s (.lst [.ref c])):=Kp.new k01 fs;generalize upd H1 s (.lst [.ref c])=H2 at S0 k02;refine⟨_,rfl,_,rfl,⟨_,SqL.of (k02 _ _ hl (by simp))⟩,zA3 (xs:=ns.map V.str) (λi σ H3=>(∃o3 o4 o5 o6:Option V,σ=[some (.ref l),some (.ref d),some (.ref s),o3,o4,o5,o6])/\Kp [] H H3/\Som s H3 (1+600*i)) ⟨⟨_,_,_,_,rfl⟩,k02,S0⟩ (λi σ H3 _ ⟨_,k3,_⟩=>SqL.of (k3 _ _ hl (by simp))) ?_ ?_⟩
  .rintro i v σ H3 hv ⟨⟨o3,o4,o5,o6,rfl⟩,k3,S3⟩;obtain⟨n,en,rfl⟩:=zA9 hv;have mn:=qAJ en;have il:=(qAL.mp en).1;have D3:=D0.kp0 k3;have hrow:H3 (la n)=some (.dK (dT1 (L n) λ_=>.bl true)):=D3.row n mn;have ll:(L n).length<=20:=qAW (zB3 (lin n mn).1 (lin n mn).2) few;refine⟨la n,dT1 (L n) λ_=>.bl true,hrow,λo=>?_⟩;have Sf:=S3.dic (a:=la n) (o:=.frz o (.dK (dT1 (L n) λ_=>.bl true))) λxs z=>by rw[hrow]at z;cases z
   have kf:Kp [la n] H3 (upd H3 (la n) (.frz o (.dK (dT1 (L n) λ_=>.bl true)))):=Kp.put Kp.refl (by simp);have ff:upd H3 (la n) (.frz o (.dK (dT1 (L n) λ_=>.bl true))) (la n)=some (.frz o (.dK (dT1 (L n) λ_=>.bl true))):=ac;generalize upd H3 (la n) (.frz o (.dK (dT1 (L n) λ_=>.bl true)))=Hf at kf ff Sf;have ns_:∀{a o'},H a=some o'->a≠s:=λh=>ae fs h;have hlf:Txs Hf l ns:=kf _ _ (k3 _ _ hl (by simp)) (nm1 (zCp (k3 _ _ hl (by simp)) hrow λz=>nomatch z))
   have dgf:∀z∈ns,∀{H5},Kp [s] Hf H5->aH H5 d (.str z) (some (.ref (la z))):=λz hz {H5} k5=>by
    have:=aH.k (k:=Sum.inr z) (k5 _ _ (kf _ _ D3.top (nm1 (ne0 n mn).symm)) (nm1 (ns_ D0.top)));rw[zCh,qAC hz]at this;exact this
   have rdf:∀z∈ns,∀{H5},Kp [s] Hf H5->∀y,aH H5 (la z) (.str y) (aR (dT1 (L z) λ_=>V.bl true) (Sum.inr y)):=λz hz {H5} k5 y=>by
    refine .inl ⟨_,Sum.inr y,?_,rfl,rfl⟩
    by_cases c:la z=la n
    .refine .inr ⟨o,?_⟩
     have:dT1 (L z) (λ_=>V.bl true)=dT1 (L n) λ_=>V.bl true:=by
      have h1:=D3.row z hz;have h1:H3 (la z)=some (.dK (dT1 (L z) λ_=>.bl true)):=h1;rw[c,hrow]at h1;exact(HO.dK.inj (qAb h1)).symm
     rw[this,c];exact k5 _ _ ff (nm1 (ns_ (D0.row n mn)))
    .exact .inl (k5 _ _ (kf _ _ (D3.row z hz) (nm1 c)) (nm1 (ns_ (D0.row z hz))))
   refine⟨_,rfl,_,rfl,d,_,rfl,dgf n mn Kp.refl,la n,o,_,rfl,ff,mU (λm σ H4=>(∃o4 o5 o6:Option V,σ=[some (.ref l),some (.ref d),some (.ref s),some (.str n),o4,o5,o6])/\Kp [s] Hf H4/\Som s H4 (1+600*i+30*m)) ⟨⟨_,_,_,rfl⟩,Kp.refl,Sf⟩ (λm σ H4 _ ⟨_,k4,_⟩=>k4 _ _ ff (nm1 (ns_ (D0.row n mn)))) ?_ ?_⟩
   .rintro m kk v σ H4 hv ⟨⟨o4,o5,o6,rfl⟩,k4,S4⟩;refine bG ?_;intro _ _;obtain⟨y,ey,rfl⟩:=rT hv;have ml:=(qAL.mp ey).1;have hl4:Txs H4 l ns:=k4 _ _ hlf (nm1 (ns_ hl));refine⟨_,rfl,_,rfl,⟨_,SqL.of hl4⟩,λY hY=>zBt (ns.map V.str) (λi ys τ H5=>∃zs:List Str,(∃o0,τ=[o0,some (.str n),some (.str y)])/\ys=zs.map V.str/\zs.length<=i/\(∀z∈zs,z∈ns)/\H5=upd H4 Y (.lst ys)) ⟨[],⟨_,rfl⟩,rfl,qAG _,(λ_ h=>nomatch h),rfl⟩ (λi ys τ H5 ⟨_,_,_,_,_,z⟩=>by subst z;exact SqL.of ((Kp.new (M:=[]) Kp.refl hY) _ _ hl4 (by simp))) ?_ ?_⟩
    .rintro i' v ys τ H5 hv ⟨zs,⟨o0,rfl⟩,rfl,zl,zin,rfl⟩;obtain⟨x,ex,rfl⟩:=zA9 hv;have xl:=(qAL.mp ex).1;refine⟨_,rfl,_,rfl,rfl,_,rfl,aA (λc=>?_) (λc=>?_)⟩
     .refine ⟨_,rfl,_,rfl,rfl,_,rfl,aA (λc=>?_) (λc=>?_)⟩
      .refine ⟨_,rfl,ac,by rw[qAD,qAK];lia,zs++[x],⟨_,rfl⟩,by rw[qAP];rfl,by rw[qAN,qAn];lia,λz hz=>?_,zB7⟩;rcases qAR.mp hz with h|h
       .exact zin z h
       .rw [qAO.mp h];exact qAJ ex
      .exact ⟨zs,⟨_,rfl⟩,rfl,by lia,zin,rfl⟩
     .exact ⟨zs,⟨_,rfl⟩,rfl,by lia,zin,rfl⟩
    rintro ys τ H5 ⟨zs,_,rfl,zl,zin,rfl⟩;have kY:Kp [] H4 (upd H4 Y (.lst (zs.map V.str))):=Kp.new Kp.refl hY;have hY5:upd H4 Y (.lst (zs.map V.str)) Y=some (.lst (zs.map V.str)):=ac;generalize upd H4 Y (.lst (zs.map V.str))=H5 at kY hY5 ⊢;refine gN ?_;dsimp only;refine⟨_,rfl,_,rfl,_,_,rfl,SqL.of hY5,λsl hsl=>?_⟩;rw[eU _ (by decide)];have es:(zs.map V.str).take (6:Int).toNat=(zs.take 6).map V.str:=by rw[qBk];rfl
    rw[es];have k6:Kp [] H5 (upd H5 sl (.lst ((zs.take 6).map V.str))):=Kp.new Kp.refl hsl;have e6:Txs (upd H5 sl (.lst ((zs.take 6).map V.str))) sl (zs.take 6):=ac;generalize upd H5 sl (.lst ((zs.take 6).map V.str))=H6 at k6 e6;have k46:=kY.trans k6
    have nsl:sl≠s:=by
     obtain⟨vs,e,_⟩:=S4.kp0 kY;exact(zAm e hsl).symm
    have l6:(zs.take 6).length<=6:=by rw[qAU];lia
    have zin6:∀z∈zs.take 6,z∈ns:=λz hz=>zin z (qBj hz);have K46:Kp [s] Hf H6:=k4.trans (k46.weak (by simp));generalize zs.take 6=us at e6 l6 zin6;refine⟨_,rfl,⟨_,SqL.of e6⟩,zA3 (xs:=us.map V.str) (λp σ H7=>(∃o6:Option V,σ=[some (.ref l),some (.ref d),some (.ref s),some (.str n),some (.str y),some (.ref Y),o6])/\Kp [s] Hf H7/\Txs H7 sl us/\Som s H7 (1+600*i+30*m+5*p)) ⟨⟨_,rfl⟩,K46,e6,S4.kp0 k46⟩ (λp σ H7 _ ⟨_,_,h7,_⟩=>SqL.of h7) ?_ ?_⟩
    .rintro p v σ H7 hv ⟨⟨o6,rfl⟩,k7,h7,S7⟩;obtain⟨z,ez,rfl⟩:=zA9 hv;have mz:=zin6 z (qAJ ez);have pl:=(qAL.mp ez).1;refine gN ?_;dsimp only;refine ou (λσ H8=>σ=[some (.ref l),some (.ref d),some (.ref s),some (.str n),some (.str y),some (.ref Y),some (.str z)]/\Kp [s] Hf H8/\Txs H8 sl us/\Som s H8 (1+600*i+30*m+5*p+2)) ?_ λkey=>?_
     .rintro σ H8 ⟨rfl,k8,h8,S8⟩;refine⟨_,rfl,_,rfl,_,rfl,d,_,rfl,dgf n mn k8,_,_,rfl,rdf n mn k8 z,_,rfl,aA (λc=>?_) (λc=>?_)⟩
      .obtain ⟨vs,e8,ne8,l8,t8⟩:=S8;refine⟨_,rfl,.inl ⟨rfl,_,SqL.of e8⟩,?_⟩;refine⟨_,rfl,(by walk_at"ln"),λb1 q1=>⟨_,rfl,_,rfl,(by walk_at"ln"),λb2 q2=>⟨(by walk_at"ln"),λc1 q3=>?_⟩⟩⟩;obtain⟨Ha,ea,ka,ta⟩:=zGd (s:=s) (r1:=[n]) (r2:=[y,z]) e8 q1 q2 q3 rfl rfl (by simp) (by simp);rw[ea];refine⟨_,rfl,(by walk_at"ln"),λb3 q4=>⟨_,rfl,_,rfl,(by walk_at"ln"),λb4 q5=>⟨(by walk_at"ln"),λc2 q6=>?_⟩⟩⟩;have e8a:=ka _ _ e8 (by simp);obtain⟨Hb,eb,kb,tb⟩:=zGd (s:=s) (r1:=[n]) (r2:=[z,y]) e8a q4 q5 q6 rfl rfl (by simp) (by simp);rw[eb];refine⟨_,rfl,(by walk_at"ln"),λb5 q7=>⟨_,rfl,(by walk_at"ln"),λb6 q8=>⟨(by walk_at"ln"),λc3 q9=>?_⟩⟩⟩;have e8b:=kb _ _ e8a (by simp);obtain⟨Hc,ec,kc,tc⟩:=zGd (s:=s) (r1:=[n]) (r2:=[z]) e8b q7 q8 q9 rfl rfl (by simp) (by simp);rw[ec];refine⟨(by walk_at"ln"),λq hq=>?_⟩;have kd:Kp [] Hc (upd Hc q (.lst [.ref c1,.ref c2,.ref c3])):=Kp.new Kp.refl hq;have ed:upd Hc q (.lst [.ref c1,.ref c2,.ref c3]) q=some (.lst [.ref c1,.ref c2,.ref c3]):=ac;generalize upd Hc q (.lst [.ref c1,.ref c2,.ref c3])=Hd at kd ed;have k8d:=((ka.trans kb).trans kc).trans kd;have e8d:=k8d _ _ e8 (by simp);refine⟨s,q,_,_,rfl,rfl,e8d,ed,?_,⟨_,rfl⟩,?_,?_,?_⟩
       .simp only[qAa,qBB];lia
       .exact (k8.trans (k8d.weak (by simp))).trans (Kp.put Kp.refl (by simp))
       .exact (ad nsl).trans (k8d _ _ h8 (by simp))
       .refine (Som.more e8d ne8 l8 (λv hv=>(t8 v hv).kp0 k8d) λv hv=>?_).le (by simp only[qAa,qBB];lia);rcases qAT.mp hv with z|hv
        .rw [z];exact ta.kp0 ((kb.trans kc).trans kd)
        rcases qAT.mp hv with z|hv
        .rw [z];exact tb.kp0 (kc.trans kd)
        .rw [qAO.mp hv];exact tc.kp0 kd
      .exact ⟨⟨_,rfl⟩,k8,h8,S8.le (by lia)⟩
     .refine ⟨_,rfl,_,rfl,_,rfl,d,_,rfl,dgf z mz k7,_,_,rfl,rdf z mz k7 y,_,rfl,aA (λc=>?_) (λc=>?_)⟩
      .obtain ⟨vs,e8,ne8,l8,t8⟩:=S7;refine⟨_,rfl,.inl ⟨rfl,_,SqL.of e8⟩,?_⟩;refine⟨_,rfl,_,rfl,(by walk_at"ln"),λb1 q1=>⟨_,rfl,(by walk_at"ln"),λb2 q2=>⟨(by walk_at"ln"),λc1 q3=>?_⟩⟩⟩;obtain⟨Ha,ea,ka,ta⟩:=zGd (s:=s) (r1:=[n,z]) (r2:=[y]) e8 q1 q2 q3 rfl rfl (by simp) (by simp);rw[ea];refine⟨_,rfl,_,rfl,(by walk_at"ln"),λb3 q4=>⟨_,rfl,(by walk_at"ln"),λb4 q5=>⟨(by walk_at"ln"),λc2 q6=>?_⟩⟩⟩;have e8a:=ka _ _ e8 (by simp);obtain⟨Hb,eb,kb,tb⟩:=zGd (s:=s) (r1:=[z,n]) (r2:=[y]) e8a q4 q5 q6 rfl rfl (by simp) (by simp);rw[eb];refine⟨(by walk_at"ln"),λq hq=>?_⟩;have kd:Kp [] Hb (upd Hb q (.lst [.ref c1,.ref c2])):=Kp.new Kp.refl hq;have ed:upd Hb q (.lst [.ref c1,.ref c2]) q=some (.lst [.ref c1,.ref c2]):=ac;generalize upd Hb q (.lst [.ref c1,.ref c2])=Hd at kd ed;have k8d:=(ka.trans kb).trans kd;have e8d:=k8d _ _ e8 (by simp);refine⟨s,q,_,_,rfl,rfl,e8d,ed,?_,key _ _ ⟨rfl,?_,?_,?_⟩⟩
       .simp only[qAa,qBB];lia
       .exact (k7.trans (k8d.weak (by simp))).trans (Kp.put Kp.refl (by simp))
       .exact (ad nsl).trans (k8d _ _ h7 (by simp))
       .refine (Som.more e8d ne8 l8 (λv hv=>(t8 v hv).kp0 k8d) λv hv=>?_).le (by simp only[qAa,qBB];lia);rcases qAT.mp hv with z|hv
        .rw [z];exact ta.kp0 (kb.trans kd)
        .rw [qAO.mp hv];exact tb.kp0 kd
      .exact key _ _ ⟨rfl,k7,h7,S7.le (by lia)⟩
    .rintro σ H7 ⟨⟨o6,rfl⟩,k7,h7,S7⟩;rw[qAD]at S7;exact⟨⟨_,_,_,rfl⟩,k7,S7.le (by lia)⟩
   .rintro σ H4 ⟨⟨o4,o5,o6,rfl⟩,k4,S4⟩;rw[zEa]at S4;have f4:=k4 _ _ ff (nm1 (ns_ (D0.row n mn)));refine⟨f4,⟨_,_,_,_,rfl⟩,?_,(S4.dic λxs z=>by rw[f4]at z;cases z).le (by lia)⟩;intro a u h _
    by_cases z:a=la n
    .rw [z,ac,<-hrow,<-z];exact k3 _ _ h (by simp)
    .rw [ad z];exact k4 _ _ (kf _ _ (k3 _ _ h (by simp)) (nm1 z)) (nm1 (ns_ h))
  .rintro σ H3 ⟨⟨o3,o4,o5,o6,rfl⟩,k3,S3⟩;obtain⟨vs,e,ne,l',t⟩:=S3;rw[qAD]at l';exact⟨_,rfl,k s vs H3 k3 fs e ne (by lia) t⟩
end
theorem Tx2.ofL(bs:List (Addr×List Str))(hc:H c=some (.lst (bs.map λp=>.ref p.1)))(h:∀p∈bs,Txs H p.1 p.2/\p.2.length<=64/\p.1≠s)(l:bs.length<=64)(n:c≠s):Tx2 s H (.ref c):=by
 refine⟨c,bs.map (·.1),bs.map (·.2),rfl,⟨by rw[qBO];exact hc,by rw[qAD,qAD],λi a r e1 e2=>?_⟩,by rw[qAD];exact l,λr hr=>?_,n,λb hb=>?_⟩
 .rw [qAY]at e1 e2;obtain⟨q,h1,rfl⟩:=qBU.mp e1;rw[h1]at e2;cases e2;exact(h q (qAJ h1)).1
 .obtain ⟨q,hq,rfl⟩:=qAe.mp hr;exact(h q hq).2.1
 .obtain ⟨q,hq,rfl⟩:=qAe.mp hb;exact(h q hq).2.2
section
inductive eK(vs:List V)(H:Hp)(Q:VK)(u_3:XK):Prop
 |mk:∀(l d:Addr)(ns:List Str)(la:Str->Addr)(L:Str->List Str),vs=[.ref l,.ref d]->Txs H l ns->DR H d ns la L->ns.length<=20->(∀(s:Addr)(vs:List V)(H':Hp),Kp [] H H'->Fre H s->H' s=some (.lst vs)->vs.length<=20000->(∀v∈vs,Tx2 s H' v)->Q (.ref s) H')->eK vs H Q u_3
abbrev zGf:Stmt:=top 68
theorem zDy:ag ["_law_names_here","_law_behind_here","_law_some","_law_one","_law_late","_law_soon","_law_loose_here","_law_name"] ["_law_names_here","_law_behind_here"] (zAg zGf):=fnS
inductive Sme(s:Addr)(H:Hp)(n:Nat):Prop
 |mk:∀vs:List V,H s=some (.lst vs)->vs.length<=n->(∀v∈vs,Tx2 s H v)->Sme s H n
theorem Sme.kp0(h:Sme s H n)(k:Kp [] H H'):Sme s H' n:=by
 obtain⟨vs,e,l,t⟩:=h;exact⟨vs,k _ _ e (by simp),l,λv hv=>(t v hv).kp0 k⟩
theorem Sme.le(h:Sme s H n)(l:n<=m):Sme s H m:=by
 obtain⟨vs,e,l',t⟩:=h;exact⟨vs,e,qAW l' l,t⟩
theorem Sme.one{vs:List V}(hs:H s=some (.lst vs))(l:vs.length<=n)(t:∀v∈vs,Tx2 s H v)(t':Tx2 s H v):Sme s (upd H s (.lst (vs++[v]))) (n+1):=by
 have k:Kp [s] H (upd H s (.lst (vs++[v]))):=Kp.put Kp.refl (by simp);refine⟨_,ac,by rw[qAN,qAn];lia,λu hu=>?_⟩;rcases qAR.mp hu with z|z
 .exact (t u z).put k
 .rw [qAO.mp z];exact t'.put k
abbrev mix(zs:List Str)(x:Str):List Str:=zs.take 1++[x]++zs.drop 1
theorem dH(zs:List Str)(x:Str):(mix zs x).length=zs.length+1:=by
 unfold mix;simp only[qAN,qAU,qAz,qAn];lia
theorem pk{K:PySem.W.Frag}{e:Addr}(h1:SqL K H c xs)(h2:SqL K H e [])(h:∀bb:Bool,Q (.bl bb) H):aO K 8 false (.ref c) (.ref e) H Q\/aP K true (.ref c) (.ref e) H Q:=by
 by_cases z:xs=[]
 .subst z;exact .inl ⟨c,e,_,_,rfl,rfl,h1,h2,rfl,(λi x y h=>by simp at h),h false⟩
 .exact .inr ⟨c,e,_,_,rfl,rfl,h1,h2,λy=>z (qBx.mp y),h true⟩
theorem pJ(bb:Bool)(n:Str):(List.replicate (if bb=true then(1:Int)else 0).toNat [V.str n]).flatten=(if bb then[n]else[]).map V.str:=by cases bb<;>rfl
theorem zJp{K:PySem.W.Frag}{j:Nat}{R:Addr}{rs:List Str}(ei:σ[i]?=some (some (.ref R)))(ej:σ[j]?=some (some (.str x)))(hR:Txs H R rs)(l:rs.length<=20)(k:∀r H',Kp [] H H'->Fre H r->Txs H' r (mix rs x)->Q (.ref r) H') :
  tOp lu (tOp lu (tSl (kI K) (bu i) zHf (gu (tC (V.int 1)))) (bI (zIf (bu j) cz))) (tSl (kI K) (bu i) (gu (tC (V.int 1))) zHf) σ H Q:=by
 have hz:=qAK;refine⟨_,ei,_,rfl,_,_,rfl,SqL.of hR,λt1 q2=>?_⟩;rw[eU _ (by decide),show(rs.map V.str).take (1:Int).toNat=(rs.take 1).map V.str by rw[qBk];rfl];obtain⟨Hb,eb,kb,hb⟩:=aG (o:=.lst ((rs.take 1).map V.str)) q2;rw[eb];refine⟨_,ej,(by walk_at"ln"),λt2 q3=>?_⟩;obtain⟨Hc,ec,kc,hc⟩:=aG (o:=.lst [.str x]) q3;rw[ec];refine⟨_,_,_,_,rfl,rfl,kc _ _ hb (by simp),hc,by rw[qAD,qAU,qAn];lia,λt3 q4=>?_⟩;obtain⟨Hd,ed,kd,hd⟩:=aG (o:=.lst ((rs.take 1).map V.str++[.str x])) q4;rw[ed];have kbd:=kb.trans (kc.trans kd);refine⟨_,ei,_,rfl,_,_,rfl,SqL.of (kbd _ _ hR (by simp)),λt4 q5=>?_⟩;rw[zF3 _ (by decide),show(rs.map V.str).drop (1:Int).toNat=(rs.drop 1).map V.str by rw[qBl];rfl];obtain⟨He,ee,ke,he⟩:=aG (o:=.lst ((rs.drop 1).map V.str)) q5;rw[ee];refine⟨_,_,_,_,rfl,rfl,ke _ _ hd (by simp),he,by simp only[qAN,qAD,qAU,qAz,qAn];lia,λt5 q6=>?_⟩;have kbe:=kbd.trans ke;refine k t5 _ (Kp.new kbe (kbe.fre q6 (by simp))) (kbe.fre q6 (by simp)) ?_;show upd He t5 _ t5=some (.lst ((rs.take 1++[x]++rs.drop 1).map V.str));rw[ac,qAP,qAP];rfl
theorem nq(F:Fun K "_law_loose" "_law_loose" zGf f fd)(T:Txt K mg):ak P w K mg base CX0 2 f fd ["_law_names_here","_law_behind_here"] eK:=by
 refine F.ok zDy (λvs H Q E h=>?_) (λcdv A outer s H vs Q E hr h=>?_)
 .obtain ⟨l,d,ns,la,L,rfl,_⟩:=h;rfl
 .obtain ⟨l,d,ns,la,L,rfl,hl,D0,few,k⟩:=h;have hu:=zF2 hr
  refine⟨_,(zAc (psS (i:=2) zDy.nd (zAj zAb)) (zAc (zA7 qAc rfl (zAq (pv 0)) (pgN (i:=3) zDy.nd)
    (zAc (psS (i:=4) zDy.nd (zBn rfl (zBp (sc:=zAg zGf) rfl (by decide +kernel)) (ah.own (x:= "_law_name") (dtk (i:=1) rfl (dtk (i:=3) rfl ah.nil))) (zAq (pv 0)) (fun _ _ _ _=>(pgB (i:=0))) (fun _ _ _ _=>(zCl (zEg (zHp hu (pv 0) (zB8 hu (pv 1) (pv 2) (fun _ _=>rfl)))))) (fun _ _ _ _=>(pv 0))))
    (zAc (psS (i:=5) zDy.nd (zBn rfl (zBp (sc:=zAg zGf) rfl (by decide +kernel)) (ah.own (x:= "_law_name") (dtk (i:=3) rfl (dtk (i:=1) rfl ah.nil))) (zAq (pv 0)) (fun _ _ _ _=>(pgB (i:=0))) (fun _ _ _ _=>(zCl (zEg (zHp hu (pv 1) (zB8 hu (pv 2) (pv 0) (fun _ _=>rfl)))))) (fun _ _ _ _=>(pv 0))))
    (zAc (zGi (i:=6) rfl (zBp (sc:=zAg zGf) rfl (by decide +kernel)) (ah.own (x:= "_law_name") (dtk (i:=3) rfl (dtk (i:=4) rfl (dtk (i:=5) rfl ah.nil)))) (zAq (pv 0)) (fun _ _ _ _=>(pgB (i:=0))) (fun _ _ _ _=>(zCl (PW.pt (zHl (zAr zFu (pv 0) (pv 1) (zAv _)) (zHl (zAr (zD7 (K:=K)) (pv 0) (pv 2) (by rfl)) (zGg (zAr (zD7 (K:=K)) (pv 0) (pv 3) (by rfl)))))))) (fun _ _ _ _=>(pv 0)) zDy.nd rfl rfl)
    (zAe (zA7 qAc rfl (zAq (zB1 zCi (pv 6) zCr (zCd zAd))) (pgN (i:=7) zDy.nd)
     (zAc (zA2 (zD6 qAx qBz qB0 zCb (pv 2) (zAa (zAj (zAa (zAj (zAa (pv 3) zAb)) (zAa (zAn zC0 (zAn zC0 (zB1 zCi (pv 4) zCr (zCd zAd)) (zAj (zAa (pv 7) zAb))) (zB1 zCi (pv 4) (zCd zAd) zCr)) zAb))) zAb)))
     (zAc (zA2 (zD6 qAx qBz qB0 zCb (pv 2) (zAa (zAj (zAa (zAn zC0 (zAn zC0 (zB1 zCi (pv 5) zCr (zCd zAd)) (zAj (zAa (pv 7) zAb))) (zB1 zCi (pv 5) (zCd zAd) zCr)) (zAa (zAj (zAa (pv 3) zAb)) zAb))) zAb)))
     (zAe (zA2 (zD6 qAx qBz qB0 zCb (pv 2) (zAa (zAj (zAa (zAn zC0 (zAn zC0 (zB1 zCi (pv 5) zCr (zCd zAd)) (zAj (zAa (pv 7) zAb))) (zB1 zCi (pv 5) (zCd zAd) zCr)) (zAa (zAn g_ (zAj (zAa (pv 3) zAb)) (zA8 zEz (by rfl) T.z_int zIb (zAa (zCs (zEt hr) (pv 5) (zAj zAb) (zAv _)) zAb))) (zAa (pv 4) zAb)))) zAb))))))))))))
   (zAe (zAw (pv 2))))),?_⟩
  refine cy ?_;intro _ _ _;have hz:=qAK;refine⟨(by walk_at"ln"),λs hs=>?_⟩;have fs:Fre H s:=hs;have k0:Kp [] H (upd H s (.lst [])):=Kp.new Kp.refl hs;have S0:Sme s (upd H s (.lst [])) 0:=⟨[],ac,qAG _,(λ_ h=>nomatch h)⟩;generalize upd H s (.lst [])=H1 at k0 S0;refine⟨_,rfl,_,rfl,⟨_,SqL.of (k0 _ _ hl (by simp))⟩,zA3 (xs:=ns.map V.str) (λi σ H3=>(∃o3 o4 o5 o6 o7:Option V,σ=[some (.ref l),some (.ref d),some (.ref s),o3,o4,o5,o6,o7])/\Kp [] H H3/\Sme s H3 (9*i)) ⟨⟨_,_,_,_,_,rfl⟩,k0,S0⟩ (λi σ H3 _ ⟨_,k3,_⟩=>SqL.of (k3 _ _ hl (by simp))) ?_ ?_⟩
  .rintro i v σ H3 hv ⟨⟨o3,o4,o5,o6,o7,rfl⟩,k3,S3⟩;refine bE ?_;intro _ _ _ _;obtain⟨n,en,rfl⟩:=zA9 hv;have mn:=qAJ en;have il:=(qAL.mp en).1;have hl3:Txs H3 l ns:=k3 _ _ hl (by simp);have D3:=D0.kp0 k3;refine⟨_,rfl,_,rfl,⟨_,SqL.of hl3⟩,λY hY=>zBt (ns.map V.str) (λi ys τ H5=>∃zs:List Str,(∃o0,τ=[o0,some (.ref d),some (.str n)])/\ys=zs.map V.str/\zs.length<=i/\H5=upd H3 Y (.lst ys)) ⟨[],⟨_,rfl⟩,rfl,qAG _,rfl⟩ (λi ys τ H5 ⟨_,_,_,_,z⟩=>by subst z;exact SqL.of ((Kp.new (M:=[]) Kp.refl hY) _ _ hl3 (by simp))) ?_ ?_⟩
   .rintro i' v ys τ H5 hv ⟨zs,⟨o0,rfl⟩,rfl,zl,rfl⟩;obtain⟨x,ex,rfl⟩:=zA9 hv;have xl:=(qAL.mp ex).1;have D5:=D3.kp0 (Kp.new (l:=Y) (o:=.lst (zs.map V.str)) Kp.refl hY);obtain⟨o,g1,g2⟩:=zEm (D5.row n mn) x;refine⟨_,rfl,_,rfl,_,rfl,_,_,rfl,D5.get mn,_,o,rfl,g1,_,rfl,aA (λc=>?_) (λc=>?_)⟩
    .exact ⟨_,rfl,ac,by rw[qAD,qAK];lia,zs++[x],⟨_,rfl⟩,by rw[qAP];rfl,by rw[qAN,qAn];lia,zB7⟩
    .exact ⟨zs,⟨_,rfl⟩,rfl,by lia,rfl⟩
   rintro ys τ H5 ⟨zs,_,rfl,zl,rfl⟩;rw[qAD]at zl;obtain⟨H4,e4,k4,hY4⟩:=aG (o:=.lst (zs.map V.str)) hY;rw[e4];have D4:=D3.kp0 k4;have hl4:Txs H4 l ns:=k4 _ _ hl3 (by simp);refine⟨_,rfl,_,rfl,⟨_,SqL.of hl4⟩,λZ hZ=>zBt (ns.map V.str) (λi ys τ H5=>∃us:List Str,(∃o0,τ=[o0,some (.str n),some (.ref d)])/\ys=us.map V.str/\us.length<=i/\H5=upd H4 Z (.lst ys)) ⟨[],⟨_,rfl⟩,rfl,qAG _,rfl⟩ (λi ys τ H5 ⟨_,_,_,_,z⟩=>by subst z;exact SqL.of ((Kp.new (M:=[]) Kp.refl hZ) _ _ hl4 (by simp))) ?_ ?_⟩
   .rintro i' v ys τ H5 hv ⟨us,⟨o0,rfl⟩,rfl,ul,rfl⟩;obtain⟨x,ex,rfl⟩:=zA9 hv;have xl:=(qAL.mp ex).1;have mx:=qAJ ex;have D5:=D4.kp0 (Kp.new (l:=Z) (o:=.lst (us.map V.str)) Kp.refl hZ);obtain⟨o,g1,g2⟩:=zEm (D5.row x mx) n;refine⟨_,rfl,_,rfl,_,rfl,_,_,rfl,D5.get mx,_,o,rfl,g1,_,rfl,aA (λc=>?_) (λc=>?_)⟩
    .exact ⟨_,rfl,ac,by rw[qAD,qAK];lia,us++[x],⟨_,rfl⟩,by rw[qAP];rfl,by rw[qAN,qAn];lia,zB7⟩
    .exact ⟨us,⟨_,rfl⟩,rfl,by lia,rfl⟩
   rintro ys τ H5 ⟨us,_,rfl,ul,rfl⟩;rw[qAD]at ul;obtain⟨H5,e5,k5,hZ5⟩:=aG (o:=.lst (us.map V.str)) hZ;rw[e5];have hY5:=k5 _ _ hY4 (by simp);have hl5:Txs H5 l ns:=k5 _ _ hl4 (by simp);refine⟨_,rfl,_,rfl,⟨_,SqL.of hl5⟩,λW hW=>zBt (ns.map V.str) (λi ys τ H6=>∃ws:List Str,(∃o0,τ=[o0,some (.str n),some (.ref Y),some (.ref Z)])/\ys=ws.map V.str/\ws.length<=i/\H6=upd H5 W (.lst ys)) ⟨[],⟨_,rfl⟩,rfl,qAG _,rfl⟩ (λi ys τ H6 ⟨_,_,_,_,z⟩=>by subst z;exact SqL.of ((Kp.new (M:=[]) Kp.refl hW) _ _ hl5 (by simp))) ?_ ?_⟩
   .rintro i' v ys τ H6 hv ⟨ws,⟨o0,rfl⟩,rfl,wl,rfl⟩;obtain⟨x,ex,rfl⟩:=zA9 hv;have xl:=(qAL.mp ex).1;have kk:Kp [] H5 (upd H5 W (.lst (ws.map V.str))):=Kp.new Kp.refl hW;have no:∃ws':List Str,(∃o0,[some (V.str x),some (.str n),some (.ref Y),some (.ref Z)]=[o0,some (.str n),some (.ref Y),some (.ref Z)])/\ws.map V.str=ws'.map V.str/\ws'.length<=i'+1/\upd H5 W (.lst (ws.map V.str))=upd H5 W (.lst (ws.map V.str)):=⟨ws,⟨_,rfl⟩,rfl,by lia,rfl⟩;refine⟨_,rfl,_,rfl,rfl,_,rfl,aA (λc=>?_) (λc=>no)⟩;refine⟨_,rfl,_,rfl,_,_,rfl,.inl (SqL.of (kk _ _ hY5 (by simp))),rfl,zDd _,_,rfl,aA (λc=>?_) (λc=>no)⟩;refine⟨_,rfl,_,rfl,_,_,rfl,.inl (SqL.of (kk _ _ hZ5 (by simp))),rfl,zDd _,_,rfl,aA (λc=>?_) (λc=>no)⟩;exact⟨_,rfl,ac,by rw[qAD,qAK];lia,ws++[x],⟨_,rfl⟩,by rw[qAP];rfl,by rw[qAN,qAn];lia,zB7⟩
   rintro ys τ H6 ⟨ws,_,rfl,wl,rfl⟩;obtain⟨H6,e6,k6,hW6⟩:=aG (o:=.lst (ws.map V.str)) hW;rw[e6];refine gN ?_;dsimp only;refine⟨_,rfl,_,rfl,_,_,rfl,SqL.of hW6,λsl hsl=>?_⟩;rw[eU _ (by decide),show(ws.map V.str).take (3:Int).toNat=(ws.take 3).map V.str by rw[qBk];rfl];obtain⟨H7,e7,k7,h7⟩:=aG (o:=.lst ((ws.take 3).map V.str)) hsl;rw[e7];have l3:(ws.take 3).length<=3:=by rw[qAU];lia
   generalize ws.take 3=qs at h7 l3;have k37:=(k4.trans k5).trans (k6.trans k7);have S7:=S3.kp0 k37
   have nsl:sl≠s:=by
    obtain⟨vs,e,_⟩:=S3.kp0 ((k4.trans k5).trans k6);exact(zAm e hsl).symm
   have nY:Y≠s:=by
    obtain⟨vs,e,_⟩:=S3;exact(zAm e hY).symm
   have nZ:Z≠s:=by
    obtain⟨vs,e,_⟩:=S3.kp0 k4;exact(zAm e hZ).symm
   have hY7:=(k5.trans (k6.trans k7)) _ _ hY4 (by simp);have hZ7:=(k6.trans k7) _ _ hZ5 (by simp);have K7:=k3.trans k37;refine⟨_,rfl,⟨_,SqL.of h7⟩,zA3 (xs:=qs.map V.str) (λp σ H8=>(∃o7:Option V,σ=[some (.ref l),some (.ref d),some (.ref s),some (.str n),some (.ref Y),some (.ref Z),some (.ref W),o7])/\Kp [] H H8/\Txs H8 sl qs/\Txs H8 Y zs/\Txs H8 Z us/\Sme s H8 (9*i+3*p)) ⟨⟨_,rfl⟩,K7,h7,hY7,hZ7,S7⟩ (λp σ H8 _ ⟨_,_,h8,_⟩=>SqL.of h8) ?_ ?_⟩
   .rintro p v σ H8 hv ⟨⟨o7,rfl⟩,k8,h8,hY8,hZ8,S8⟩;refine cy ?_;intro _ _ _;obtain⟨z,ez,rfl⟩:=zA9 hv;have pl:=(qAL.mp ez).1;obtain⟨vs,e8,l8,t8⟩:=S8;have fsH:∀{a o},H a=some o->a≠s:=λh=>ae fs h;refine⟨_,rfl,.inl ⟨rfl,_,SqL.of e8⟩,_,rfl,(by walk_at"ln"),λb1 q1=>?_⟩;obtain⟨Ha,ea,ka,ha⟩:=aG (o:=.lst [.str n]) q1;rw[ea];refine zJp rfl rfl (ka _ _ hY8 (by simp)) (by lia) λr1 Hb kb f1 hr1=>?_;refine⟨(by walk_at"ln"),λc1 q2=>?_⟩;obtain⟨Hc,ec,kc,hc⟩:=aG (o:=.lst [.ref b1,.ref r1]) q2;rw[ec];have kac:=ka.trans (kb.trans kc);have e8c:=kac _ _ e8 (by simp);refine⟨_,_,_,rfl,rfl,e8c,by lia,?_⟩
    have t1:Tx2 s Hc (.ref c1):=Tx2.ofL [(b1,[n]),(r1,mix zs z)] hc (λp hp=>by
     rcases qAT.mp hp with e|hp
     .rw [e];exact⟨(kb.trans kc) _ _ ha (by simp),by simp,(zAm e8 q1).symm⟩
     .rw [qAO.mp hp];exact⟨kc _ _ hr1 (by simp),by rw[dH];lia,(ae f1 (ka _ _ e8 (by simp))).symm⟩) (by simp) (zAm ((ka.trans kb) _ _ e8 (by simp)) q2).symm
    have S9:=Sme.one e8c l8 (λv hv=>(t8 v hv).kp0 kac) t1;have k9:Kp [] H (upd Hc s (.lst (vs++[.ref c1]))):=Kp.new (k8.trans kac) fs;have o9:∀{a xs},H8 a=some (.lst xs)->a≠s->upd Hc s (.lst (vs++[.ref c1])) a=some (.lst xs):=λh n=>(ad n).trans (kac _ _ h (by simp));have h9:=o9 h8 nsl;have hY9:=o9 hY8 nY;have hZ9:=o9 hZ8 nZ;generalize upd Hc s (.lst (vs++[.ref c1]))=H9 at S9 k9 h9 hY9 hZ9;clear o9 t1 hc kc kac hr1 f1 kb ha ka e8 l8 t8 e8c k8 h8 hY8 hZ8;obtain⟨vs,e8,l8,t8⟩:=S9;refine⟨_,rfl,.inl ⟨rfl,_,SqL.of e8⟩,?_⟩;refine zJp rfl rfl hZ9 (by lia) λr1 Hb kb f1 hr1=>?_;refine⟨_,rfl,(by walk_at"ln"),λb1 q1=>?_⟩;obtain⟨Ha,ea,ka,ha⟩:=aG (o:=.lst [.str n]) q1;rw[ea];refine⟨(by walk_at"ln"),λc1 q2=>?_⟩;obtain⟨Hc,ec,kc,hc⟩:=aG (o:=.lst [.ref r1,.ref b1]) q2;rw[ec];have kac:=kb.trans (ka.trans kc);have e8c:=kac _ _ e8 (by simp);refine⟨_,_,_,rfl,rfl,e8c,by lia,?_⟩
    have t1:Tx2 s Hc (.ref c1):=Tx2.ofL [(r1,mix us z),(b1,[n])] hc (λp hp=>by
     rcases qAT.mp hp with e|hp
     .rw [e];exact⟨(ka.trans kc) _ _ hr1 (by simp),by rw[dH];lia,(ae f1 e8).symm⟩
     .rw [qAO.mp hp];exact⟨kc _ _ ha (by simp),by simp,(zAm (kb _ _ e8 (by simp)) q1).symm⟩) (by simp) (zAm ((kb.trans ka) _ _ e8 (by simp)) q2).symm
    have SA:=Sme.one e8c l8 (λv hv=>(t8 v hv).kp0 kac) t1;have kA:Kp [] H (upd Hc s (.lst (vs++[.ref c1]))):=Kp.new (k9.trans kac) fs;have o9:∀{a xs},H9 a=some (.lst xs)->a≠s->upd Hc s (.lst (vs++[.ref c1])) a=some (.lst xs):=λh n=>(ad n).trans (kac _ _ h (by simp));have hA:=o9 h9 nsl;have hYA:=o9 hY9 nY;have hZA:=o9 hZ9 nZ;generalize upd Hc s (.lst (vs++[.ref c1]))=HA at SA kA hA hYA hZA;clear o9 t1 hc kc kac hr1 f1 kb ha ka e8 l8 t8 e8c k9 h9 hY9 hZ9;obtain⟨vs,e8,l8,t8⟩:=SA;refine⟨_,rfl,.inl ⟨rfl,_,SqL.of e8⟩,?_⟩;refine zJp rfl rfl hZA (by lia) λr1 Hb kb f1 hr1=>?_;refine⟨_,rfl,(by walk_at"ln"),λb1 q1=>?_⟩;obtain⟨Ha,ea,ka,ha⟩:=aG (o:=.lst [.str n]) q1;rw[ea];refine⟨_,rfl,(by walk_at"ln"),λe0 qe=>?_⟩;obtain⟨Hz,ez',kz,hz0⟩:=aG (o:=.lst []) qe;rw[ez'];have kbz:=kb.trans (ka.trans kz);refine pk (SqL.of (kbz _ _ hZA (by simp))) (SqL.of hz0) λbb=>?_;refine .inr ⟨_,rfl,_,_,_,rfl,rfl,kz _ _ ha (by simp),by split<;>decide,by split<;>decide,by rw[qAK];show 1*_<=_;split<;>decide,λr2 q3=>?_⟩;rw[pJ];obtain⟨Hr,er,kr,hr2⟩:=aG (o:=.lst ((if bb then[n]else[]).map V.str)) q3;rw[er];refine⟨_,rfl,(by walk_at"ln"),λc1 q2=>?_⟩;obtain⟨Hc,ec,kc,hc⟩:=aG (o:=.lst [.ref r1,.ref r2,.ref Y]) q2;rw[ec];have kac:=kbz.trans (kr.trans kc);have e8c:=kac _ _ e8 (by simp);refine⟨_,_,_,rfl,rfl,e8c,by lia,?_⟩
    have t1:Tx2 s Hc (.ref c1):=Tx2.ofL [(r1,mix us z),(r2,if bb then[n]else[]),(Y,zs)] hc (λp hp=>by
     rcases qAT.mp hp with e|hp
     .rw [e];exact⟨((ka.trans kz).trans (kr.trans kc)) _ _ hr1 (by simp),by rw[dH];lia,(ae f1 e8).symm⟩
     rcases qAT.mp hp with e|hp
     .rw [e];exact⟨kc _ _ hr2 (by simp),by dsimp only;split<;>simp,(zAm (kbz _ _ e8 (by simp)) q3).symm⟩
     .rw [qAO.mp hp];exact⟨kac _ _ hYA (by simp),by dsimp only;lia,nY⟩) (by simp) (zAm ((kbz.trans kr) _ _ e8 (by simp)) q2).symm
    have o9:∀{a xs},HA a=some (.lst xs)->a≠s->upd Hc s (.lst (vs++[.ref c1])) a=some (.lst xs):=λh n=>(ad n).trans (kac _ _ h (by simp));exact⟨⟨_,rfl⟩,Kp.new (kA.trans kac) fs,o9 hA nsl,o9 hYA nY,o9 hZA nZ,(Sme.one e8c l8 (λv hv=>(t8 v hv).kp0 kac) t1).le (by lia)⟩
   .rintro σ H8 ⟨⟨o7,rfl⟩,k8,h8,hY8,hZ8,S8⟩;rw[qAD]at S8;exact⟨⟨_,_,_,_,_,rfl⟩,k8,S8.le (by lia)⟩
  .rintro σ H3 ⟨⟨o3,o4,o5,o6,o7,rfl⟩,k3,S3⟩;obtain⟨vs,e,l',t⟩:=S3;rw[qAD]at l';exact⟨_,rfl,k s vs H3 k3 fs e (by lia) t⟩
end
inductive TxB(H:Hp)(v:V):Prop
 |mk:∀(a:Addr)(as:List Addr) (rs:List (List Str)),v= .ref a->au H a as rs->rs.length<=64->(∀r∈rs,r.length<=64)->TxB H v
theorem TxB.kp0(h:TxB H v)(k:Kp [] H H'):TxB H' v:=by
 obtain⟨a,as,rs,e,R,l1,l2⟩:=h;exact⟨a,as,rs,e,R.kp k,l1,l2⟩
theorem Tx2.b(h:Tx2 s H v):TxB H v:=by
 obtain⟨a,as,rs,e,R,l1,l2,_⟩:=h;exact⟨a,as,rs,e,R,l1,l2⟩
theorem au.of{as:List Addr}{rs:List (List Str)}(R:au H l as rs)(h:(as.map V.ref)[i]?=some v):∃a r,as[i]?=some a/\rs[i]?=some r/\v= .ref a/\H a=some (.lst (r.map V.str)):=by
 have hi:i<rs.length:=by
  have:=(qAL.mp h).1;rw[qAD,R.len]at this;exact this
 obtain⟨a,r,ea,er,ev,ha⟩:=R.at hi;rw[ev]at h;exact⟨a,r,ea,er,(qAb h).symm,ha⟩
structure gW(H0 H:Hp)(l:Addr)(as:List Addr)(rs:List (List Str)):Prop where
 r:au H l as rs
 ne:∀a∈as,a≠l
 nd:as.Nodup
 fr:Fre H0 l
 frs:∀a∈as,Fre H0 a
theorem gW.push{H0:Hp}{as:List Addr}{rs:List (List Str)}{r:List Str}(R:gW H0 H l as rs)(hc:H c=none)(k:Kp [] H0 H):gW H0 (upd (upd H c (.lst (r.map V.str))) l (.lst (as.map V.ref++[.ref c]))) l (as++[c]) (rs++[r]):=by
 have kc:Kp [] H (upd H c (.lst (r.map V.str))):=Kp.new Kp.refl hc;have nl:l≠c:=zAm R.r.top hc
 have old:∀a∈as,∃xs,H a=some (.lst xs):=λa h=>by
  obtain⟨i,ei⟩:=qDN h;have hi:i<rs.length:=by rw[<-R.r.len];exact(qAL.mp ei).1
  exact⟨_,R.r.row i a _ ei (qAq hi)⟩
 refine⟨⟨by rw[ac,qAP];rfl,by rw[qAN,qAN,R.r.len];rfl,λi a r' e1 e2=>?_⟩,λa h=>?_,?_,R.fr,λa h=>?_⟩
 .by_cases hp:i<as.length
  .rw [qA5 hp]at e1;rw[qA5 (R.r.len▸hp)]at e2;exact(ad (R.ne a (qAJ e1))).trans (kc _ _ (R.r.row i a r' e1 e2) (by simp))
  .have:i=as.length:=by
    have:=(qAL.mp e1).1;rw[qAN,qAn]at this;lia
   subst this;rw[qBJ (qAG _),qCC]at e1;rw[R.r.len,qBJ (qAG _),qCC]at e2
   cases e1;cases e2
   exact(ad nl.symm).trans ac
 .rcases qAR.mp h with z|z
  .exact R.ne a z
  .rw [qAO.mp z];exact nl.symm
 .refine qBX.mpr ⟨R.nd,by simp,λa ha b hb=>?_⟩;rw[qAO.mp hb];obtain⟨xs,e⟩:=old a ha;exact zAm e hc
 .rcases qAR.mp h with z|z
  .exact R.frs a z
  .rw [qAO.mp z];exact k.fre hc (by simp)
theorem gW.set{H0:Hp}{as:List Addr}{rs:List (List Str)}{r:List Str}(R:gW H0 H l as rs)(h:as[i]?=some a)(l1:rs.length<=64)(l2:∀r∈rs,r.length<=64)(l3:r.length<=64):TxB (upd H a (.lst (r.map V.str))) (.ref l):=by
 have hi:i<rs.length:=by rw[<-R.r.len];exact(qAL.mp h).1
 refine⟨l,as,rs.set i r,rfl,⟨(ad (R.ne a (qAJ h)).symm).trans R.r.top,by rw[qCq];exact R.r.len,λj b q e1 e2=>?_⟩,by rw[qCq];exact l1,λq hq=>?_⟩
 .by_cases c:i=j
  .subst c;rw[h]at e1;cases e1;rw[qCE hi]at e2;cases e2;exact ac
  .rw [qCl c]at e2
   have nb:b≠a:=λz=>by
    subst z;exact c ((List.getElem?_inj (qAL.mp h).1 R.nd).mp (h.trans e1.symm))
   exact(ad nb).trans (R.r.row j b q e1 e2)
 .rcases List.mem_or_eq_of_mem_set hq with z|z
  .exact l2 q z
  .rw [z];exact l3
section
inductive dP(vs:List V)(H:Hp)(Q:VK)(u_3:XK):Prop
 |mk:∀(l m:Addr)(far:Int)(ns:List Str)(as:List Addr) (rs:List (List Str)),vs=[.ref l,.ref m,.int far]->Txs H l ns->ns≠[]->ns.length<=20->au H m as rs->rs.length<=20->(∀r∈rs,r≠[]/\r.length<=20)->0<=far->(∀v H',Kp [] H H'->TxB H' v->Q v H')->dP vs H Q u_3
abbrev zG2:Stmt:=top 69
theorem zEn:ag ["_law_names_here","_law_rows","_law_far","_law_found","_law_row","_law_name","_law_at"] ["_law_names_here","_law_rows","_law_far"] (zAg zG2):=fnS
theorem lD(F:Fun K "_law_put_in" "_law_put_in" zG2 f fd)(T:Txt K mg):ak P w K mg base CX0 2 f fd ["_law_names_here","_law_rows","_law_far"] dP:=by
 refine F.ok zEn (λvs H Q E h=>?_) (λcdv A outer s H vs Q E hr h=>?_)
 .obtain ⟨l,m,far,ns,as,rs,rfl,_⟩:=h;rfl
 .obtain ⟨l,m,far,ns,as,rs,rfl,hl,nn,few,R,rl,rne,f0,k⟩:=h;have hu:=zF2 hr
  refine⟨_,(zAc (zGi (i:=3) rfl (zBp (sc:=zAg zG2) rfl (by decide +kernel)) (ah.own (x:="_law_row") ah.nil) (zAq (pv 1)) (λ_ _ _ _=>(pgB (i:=0))) (λ_ _ _ _=>zCm) (λ_ _ _ _=>(zA8 (zJ3 (K:=K)) (by rfl) T.z_list zCe (zAa (pv 0) zAb))) zEn.nd rfl rfl) (zAc (zBk (zAr (eg hr) (pv 3) (zAj zAb) (zAv _))
    (zAe (zAw (zAj (zAa (zAj (zAa (zBd zA0 (pv 0) zAd (λ_ _=>rfl)) (zAa (zBd zA0 (pv 0) zAd (λ_ _=>rfl)) zAb))) zAb))))
    zAs)
   (zAc (psS (i:=4) zEn.nd (zBd zA0 (pv 3) (zAn zBa (pv 2) (zAi zAp (by rfl) T.z_len zBy (zAa (pv 3) zAb))) (fun _ _=>rfl)))
   (zAc (psS (i:=5) zEn.nd (zBd zA0 (pv 0) (zAn zBa (zAn zBr (pv 2) (zAi zAp (by rfl) T.z_len zBy (zAa (pv 3) zAb))) (zAi zAp (by rfl) T.z_len zBy (zAa (pv 0) zAb))) (fun _ _=>rfl)))
   (zAc (psS (i:=6) zEn.nd (zAn zBa (zAn zBr (zAn zBr (pv 2) (zAi zAp (by rfl) T.z_len zBy (zAa (pv 3) zAb))) (zAi zAp (by rfl) T.z_len zBy (zAa (pv 0) zAb))) (zAn zCy (zAi zAp (by rfl) T.z_len zBy (zAa (pv 4) zAb)) zAd)))
   (zAc (zBk (zAr zD8 (zAn zBa (zAn zBr (pv 2) zAd) zAd) zAd (zAv _))
    (zAe (zA2 (zD6 qAx qC8 qC9 ii (pv 4) (zAa (pv 6) (zAa (pv 5) zAb)))))
    (zAe (eC (pv 5) (iB (pv 4) (zAn zBa (pv 6) (zAi zAp (by rfl) T.z_len zBy (zAa (pv 4) zAb))) zI9))))
   (zAe (zAw (pv 3))))))))),?_⟩
  refine vE ?_;intro _ _ _ _ _ _ _;have hz:=qAK;have pos:0<ns.length:=qB1.mpr nn;refine⟨_,rfl,_,rfl,⟨_,SqL.of R.top⟩,λY hY=>zBc (as.map V.ref) (λi ys τ H2=>∃cs:List Addr,(∃o0,τ=[o0])/\ys=cs.map V.ref/\gW H H2 Y cs (rs.take i)/\Kp [] H H2) ⟨[],⟨_,rfl⟩,rfl,⟨⟨ac,rfl,(λ_ _ _ h=>nomatch h)⟩,(λ_ h=>nomatch h),qBC,hY,(λ_ h=>nomatch h)⟩,Kp.new Kp.refl hY⟩ (λi ys τ H2 ⟨_,_,_,_,k2⟩=>SqL.of (k2 _ _ R.top (by simp))) ?_ ?_⟩
  .rintro i v ys τ H2 hv ⟨cs,⟨o0,rfl⟩,rfl,RY,k2⟩;obtain⟨a,r,_,er,rfl,ha⟩:=R.of hv;refine⟨_,rfl,_,_,rfl,.inl (SqL.of (k2 _ _ ha (by simp))),λc hc=>?_⟩;have kc:Kp [] H2 (upd H2 c (.lst (r.map V.str))):=Kp.new Kp.refl hc;exact⟨kc _ _ RY.r.top (by simp),by rw[qAD,RY.r.len,qAU];lia,cs++[c],⟨_,rfl⟩,by rw[qAP];rfl,by rw[zAk er];exact RY.push hc k2,Kp.new (k2.trans kc) hY⟩
  rintro ys τ H2 ⟨cs,_,rfl,RY,k2⟩;rw[show rs.take (as.map V.ref).length=rs by rw[qAD,R.len,qAg]]at RY;refine gN ?_;dsimp only;have hl2:Txs H2 l ns:=k2 _ _ hl (by simp);refine⟨_,rfl,(by walk_at"ln"),λe0 qe=>?_⟩;have k3:Kp [] H2 (upd H2 e0 (.lst [])):=Kp.new Kp.refl qe;have h3:upd H2 e0 (.lst []) e0=some (.lst []):=ac;have RY3:gW H (upd H2 e0 (.lst [])) Y cs rs:=⟨RY.r.kp k3,RY.ne,RY.nd,RY.fr,RY.frs⟩;generalize upd H2 e0 (.lst [])=H3 at k3 h3 RY3;have hl3:Txs H3 l ns:=k3 _ _ hl2 (by simp);have k03:=k2.trans k3;refine zD9 (SqL.of RY3.r.top) (SqL.of h3) λbb hbb=>⟨_,rfl,aA (λc=>?_) (λc=>?_)⟩
  .obtain ⟨x0,_,a0⟩:=zI4 (ns:=ns) (i:=0) (by lia) (by lia);refine⟨_,rfl,_,_,_,_,rfl,rfl,SqL.of hl3,a0,_,rfl,_,_,_,_,rfl,rfl,SqL.of hl3,a0,(by walk_at"ln"),λb1 q1=>?_⟩;obtain⟨Ha,ea,ka,ha⟩:=aG (o:=.lst [.str x0,.str x0]) q1;rw[ea];refine⟨(by walk_at"ln"),λc1 q2=>?_⟩;obtain⟨Hc,ec,kc,hc⟩:=aG (o:=.lst [.ref b1]) q2;rw[ec];refine k _ Hc (k03.trans (ka.trans kc)) ⟨c1,[b1],[[x0,x0]],rfl,⟨hc,rfl,λi a r e1 e2=>?_⟩,by simp,λr hr=>by rw[qAO.mp hr];simp⟩;rcases i with _|i<;>simp at e1 e2;subst e1 e2;exact kc _ _ ha (by simp)
  .have cl:cs.length=rs.length:=RY.r.len
   have cpos:0<cs.length:=by
    rcases Nat.eq_zero_or_pos cs.length with z|z
    .exact absurd (hbb.mpr (by rw[qBx.mp z];rfl)) c
    .exact z
   obtain⟨p,ep⟩:∃p:Nat,far % (cs.length:Int)=p:=⟨(far % (cs.length:Int)).toNat,by have:=qAw far (show(cs.length:Int)≠0 by lia);lia⟩;have pl:p<cs.length:=by have:=qA0 far (show(0:Int)<cs.length by lia);lia
   have ec:cs[p]?=some cs[p]:=qAq pl;have er:rs[p]?=some (rs[p]'(by lia)):=qAq (by lia);generalize cs[p]=rw0 at ec;generalize rs[p]'(by lia)=r0 at er;have hrow:=RY3.r.row p rw0 r0 ec er;obtain⟨rn,r20⟩:=rne r0 (qAJ er);have rpos:0<r0.length:=qB1.mpr rn;refine⟨_,rfl,_,rfl,_,rfl,_,_,rfl,.inl (SqL.of RY3.r.top),_,_,rfl,rfl,by rw[qAD];lia,_,_,_,.ref rw0,rfl,rfl,SqL.of RY3.r.top,by rw[qAD,ep];exact fG (by rw[qAY,ec];rfl),?_⟩;have b100:∀{n:Nat},n<=20->(n:Int)<10^100:=λh=>Int.lt_trans (show(_:Int)<1000 by lia) (by decide +kernel);obtain⟨x,_,ax⟩:=zI4 (ns:=ns) (i:=far / (cs.length:Int) % (ns.length:Int)) (by have:=qAw (far / (cs.length:Int)) (show(ns.length:Int)≠0 by lia);lia) (qA0 _ (by lia));refine⟨_,rfl,_,rfl,_,rfl,_,_,rfl,.inl (SqL.of RY3.r.top),_,_,rfl,rfl,⟨by rw[qAD];lia,by rw[qAD];exact b100 (by lia)⟩,_,rfl,_,_,rfl,.inl (SqL.of hl3),_,_,rfl,rfl,by rw[qAD];lia,_,_,_,.str x,rfl,rfl,SqL.of hl3,by rw[qAD,qAD];exact ax,?_⟩;obtain⟨q,eq⟩:∃q:Nat,far / (cs.length:Int) / (ns.length:Int) % ((r0.length:Int)+1)=q:=⟨(far / (cs.length:Int) / (ns.length:Int) % ((r0.length:Int)+1)).toNat,by have:=qAw (far / (cs.length:Int) / (ns.length:Int)) (show(r0.length:Int)+1≠0 by lia);lia⟩;have ql:q<r0.length+1:=by have:=qA0 (far / (cs.length:Int) / (ns.length:Int)) (show(0:Int)<(r0.length:Int)+1 by lia);lia
   refine⟨_,rfl,_,rfl,_,_,rfl,.inl (SqL.of RY3.r.top),_,_,rfl,rfl,⟨by rw[qAD];lia,by rw[qAD];exact b100 (by lia)⟩,_,rfl,_,_,rfl,.inl (SqL.of hl3),_,_,rfl,rfl,⟨by rw[qAD];lia,by rw[qAD];exact b100 few⟩,_,rfl,_,_,rfl,.inl (SqL.of hrow),_,_,rfl,rfl,_,_,rfl,rfl,by rw[qAD];lia,?_⟩;rw[qAD,qAD,qAD,eq];have l64:rs.length<=64:=by lia
   have r64:∀r∈rs,r.length<=64:=λr h=>by have:=(rne r h).2;lia
   have fin:∀{r:List Str},r.length<=64->Q (.ref Y) (upd H3 rw0 (.lst (r.map V.str))):=λ{r} hr'=>by
    refine k _ _ (λa o h _=>?_) (RY3.set ec l64 r64 hr');rw[ad (ae (RY3.frs rw0 (qAJ ec)) h)];exact k03 _ _ h (by simp)
   refine⟨_,rfl,_,_,rfl,rfl,⟨by decide,by decide +kernel⟩,_,_,rfl,rfl,by decide,rfl,_,rfl,aA (λc=>?_) (λc=>?_)⟩
   .refine ⟨_,rfl,.inl ⟨rfl,_,SqL.of hrow⟩,_,rfl,_,rfl,rw0,_,_,_,rfl,rfl,hrow,by rw[qAD];lia,by lia,by lia,_,rfl,?_⟩
    have e:(r0.map V.str).take (q:Int).toNat++V.str x::(r0.map V.str).drop (q:Int).toNat=(r0.take q++x::r0.drop q).map V.str:=by
     rw[qAP,qAt,qBk,qBl];rfl
    rw[e];exact fin (by simp only[qAN,qAU,qAa,qAz];lia)
   .obtain ⟨u,eu⟩:∃u:Nat,(q:Int) % (r0.length:Int)=u:=⟨((q:Int) % (r0.length:Int)).toNat,by have:=qAw (q:Int) (show(r0.length:Int)≠0 by lia);lia⟩;have ul:u<r0.length:=by have:=qA0 (q:Int) (show(0:Int)<r0.length by lia);lia
    refine⟨_,rfl,_,rfl,_,rfl,_,rfl,_,_,rfl,.inl (SqL.of hrow),_,_,rfl,rfl,by rw[qAD];lia,rw0,_,_,u,rfl,rfl,hrow,?_,_,rfl,?_⟩
    .rw [qAD,eu];unfold ixN;rw[qAC (by lia),qAC (by lia)];rfl
    .have e:(r0.map V.str).set u (V.str x)=(r0.set u x).map V.str:=by rw[List.map_set]
     rw[e];exact fin (by rw[qCq];lia)
end
theorem zCu(h:af H v)(k:Kp [] H H'):af H' v:=by
 rcases h with h|h|h|h|⟨a,e,⟨xs,h⟩|⟨xs,h⟩|⟨xs,h⟩⟩
 .exact .inl h
 .exact .inr (.inl h)
 .exact .inr (.inr (.inl h))
 .exact .inr (.inr (.inr (.inl h)))
 .exact .inr (.inr (.inr (.inr ⟨a,e,.inl ⟨xs,k _ _ h (by simp)⟩⟩)))
 .exact .inr (.inr (.inr (.inr ⟨a,e,.inr (.inl ⟨xs,k _ _ h (by simp)⟩)⟩)))
 .exact .inr (.inr (.inr (.inr ⟨a,e,.inr (.inr ⟨xs,k _ _ h (by simp)⟩)⟩)))
theorem zHe(x:Str):af H (.str x):=.inl ⟨x,rfl⟩
theorem zFm(h:H a=some (.lst xs)):af H (.ref a):=.inr (.inr (.inr (.inr ⟨a,rfl,.inl ⟨xs,h⟩⟩)))
theorem zEl(h:H a=some (.tup xs)):af H (.ref a):=.inr (.inr (.inr (.inr ⟨a,rfl,.inr (.inl ⟨xs,h⟩)⟩)))
theorem zFn{xs:List (Key×V)}(h:H a=some (.dK xs)):af H (.ref a):=.inr (.inr (.inr (.inr ⟨a,rfl,.inr (.inr ⟨xs,h⟩)⟩)))
def zE8(H:Hp)(v:V):Prop:=af H v/\∀a xs,v= .ref a->H a≠some (.lst xs)
theorem zE8.kp0(h:zE8 H v)(k:Kp [] H H'):zE8 H' v:=by
 refine⟨zCu h.1 k,λa xs e z=>?_⟩;subst e;rcases h.1 with⟨_,e⟩|e|⟨_,e⟩|⟨_,e⟩|⟨b,e,y⟩
 .cases e
 .cases e
 .cases e
 .cases e
 .cases e
  rcases y with⟨ys,y⟩|⟨ys,y⟩|⟨ys,y⟩
  .exact h.2 a ys rfl y
  .rw [k _ _ y (by simp)]at z;cases z
  .rw [k _ _ y (by simp)]at z;cases z
inductive aQ(H:Hp)(v:V):Prop
 |lst:∀(a:Addr)(xs:List V),v= .ref a->H a=some (.lst xs)->xs.length<=64->(∀x∈xs,af H x)->aQ H v
 |no:zE8 H v->aQ H v
theorem aQ.kp0(h:aQ H v)(k:Kp [] H H'):aQ H' v:=by
 cases h with
 |lst a xs e h l t=>exact .lst a xs e (k _ _ h (by simp)) l λx hx=>zCu (t x hx) k
 |no h=>exact .no (h.kp0 k)
theorem aQ.txs{r:List Str}(h:Txs H a r)(l:r.length<=64):aQ H (.ref a):=.lst a _ rfl h (by rw[qAD];exact l) λx hx=>by
 obtain⟨y,_,rfl⟩:=qAe.mp hx;exact zHe y
inductive aJ(H:Hp)(v:V):Prop
 |lst:∀(a:Addr)(xs:List V),v= .ref a->H a=some (.lst xs)->xs.length<=64->(∀x∈xs,aQ H x)->aJ H v
 |no:zE8 H v->aJ H v
theorem aJ.kp0(h:aJ H v)(k:Kp [] H H'):aJ H' v:=by
 cases h with
 |lst a xs e h l t=>exact .lst a xs e (k _ _ h (by simp)) l λx hx=>(t x hx).kp0 k
 |no h=>exact .no (h.kp0 k)
theorem au.blk{as:List Addr}{rs:List (List Str)}(R:au H a as rs)(l2:∀r∈rs,r.length<=64):∀v∈as.map V.ref,aQ H v:=λv hv=>by
 obtain⟨i,ei⟩:=qDN hv;obtain⟨b,r,_,er,rfl,hb⟩:=R.of ei;exact aQ.txs hb (l2 r (qAJ er))
theorem TxB.blks(h:TxB H v):aJ H v:=by
 obtain⟨a,as,rs,e,R,l1,l2⟩:=h;exact .lst a _ e R.top (by rw[qAD,R.len];exact l1) (R.blk l2)
theorem tu{xs:List V}(h:0<xs.length)(i:Int):∃v∈xs,atI xs (i % (xs.length:Int))=some v:=by
 have h1:=qAw i (show(xs.length:Int)≠0 by lia);have h2:=qA0 i (show(0:Int)<xs.length by lia);have hi:(i % (xs.length:Int)).toNat<xs.length:=by lia
 exact⟨_,qB8 hi,zEj h1 (qAq hi)⟩
def Gn(R:Hp->V->Prop)(te:TE)(σ:St)(H:Hp):Prop:=∀H1,Kp [] H H1->∀Q:VK,(∀v H',Kp [] H1 H'->R H' v->Q v H')->te σ H1 Q
def GnL(R:Hp->V->Prop)(t:L2.TA)(σ:St)(H:Hp)(n:Nat):Prop:=∀H1,Kp [] H H1->∀Q:List V->Hp->Prop,(∀vs H',Kp [] H1 H'->vs.length=n->(∀v∈vs,R H' v)->Q vs H')->t σ H1 Q
def aV(R:Hp->V->Prop):Prop:=∀H H' v,R H v->Kp [] H H'->R H' v
def zGo(R:Hp->V->Prop)(n:Nat)(H:Hp)(v:V):Prop:=∃a xs,v= .ref a/\H a=some (.lst xs)/\xs.length=n/\∀x∈xs,R H x
def zE0(R:Hp->V->Prop)(n:Nat)(H:Hp)(v:V):Prop:=∃a xs,v= .ref a/\H a=some (.lst xs)/\xs.length<=n/\∀x∈xs,R H x
theorem zAo:aV af:=λ_ _ _ h k=>zCu h k
theorem zBh:aV aQ:=λ_ _ _ h k=>h.kp0 k
theorem zA4:aV aJ:=λ_ _ _ h k=>h.kp0 k
theorem zGo.le{R:Hp->V->Prop}(h:zGo R n H v)(l:n<=m):zE0 R m H v:=by
 obtain⟨a,xs,e,ha,hn,r⟩:=h;exact⟨a,xs,e,ha,by lia,r⟩
theorem zE0.blk(h:zE0 af n H v)(l:n<=64):aQ H v:=by
 obtain⟨a,xs,e,ha,hn,r⟩:=h;exact .lst a xs e ha (by lia) r
theorem zE0.blks(h:zE0 aQ n H v)(l:n<=64):aJ H v:=by
 obtain⟨a,xs,e,ha,hn,r⟩:=h;exact .lst a xs e ha (by lia) r
section
variable{R R':Hp->V->Prop}{te ta tb:TE}{t:L2.TA}{σ:St}{H:Hp}{n m:Nat}{K:PySem.W.Frag}
theorem zH8(h:Gn R te σ H)(f:∀H v,R H v->R' H v):Gn R' te σ H:=λH1 k1 _ k=>h H1 k1 _ λv H2 k2 r=>k v H2 k2 (f _ _ r)
theorem zAt:GnL R cz σ H 0:=λH1 _ _ k=>k [] H1 Kp.refl rfl (λ_ h=>nomatch h)
theorem zAf(S:aV R)(h:Gn R te σ H)(hs:GnL R t σ H n):GnL R (zIf te t) σ H (n+1):=λH1 k1 _ k=>h H1 k1 _ λv H2 k2 r=>hs H2 (k1.trans k2) _ λvs H3 k3 l rs=>k (v::vs) H3 (k2.trans k3) (by rw[qAa,l]) λu hu=>by
 rcases qAT.mp hu with e|e
 .rw [e];exact S _ _ _ r k3
 .exact rs u e
theorem zC1(S:aV R)(h:GnL R t σ H n)(l:n<=1000):Gn (zGo R n) (bI t) σ H:=λH1 k1 _ k=>h H1 k1 _ λvs H2 k2 e rs=>⟨by rw[e,qAK];lia,λp hp=>k _ _ (k2.trans (Kp.new Kp.refl hp)) ⟨p,vs,rfl,ac,e,λx hx=>S _ _ _ (rs x hx) (Kp.new Kp.refl hp)⟩⟩
theorem rM(h:GnL R t σ H n)(l:n<=1000):Gn af (cC t) σ H:=λH1 k1 _ k=>h H1 k1 _ λvs H2 k2 e _=>⟨by rw[e,qAK];lia,λp hp=>k _ _ (k2.trans (Kp.new Kp.refl hp)) (zEl ac)⟩
theorem uR:Gn af zIr σ H:=λH1 _ _ k p hp=>k _ _ (Kp.new Kp.refl hp) (zFn ac)
theorem zDc(S:aV R)(e:σ[i]?=some (some v))(r:R H v):Gn R (bu i) σ H:=λH1 k1 _ k=>⟨v,e,k v H1 Kp.refl (S _ _ _ r k1)⟩
theorem cA(r:∀H,R H v):Gn R (tC v) σ H:=λH1 _ _ k=>k v H1 Kp.refl (r H1)
theorem zFa :Gn af (tC (.str x)) σ H:=cA λ_=>.inl ⟨x,rfl⟩
theorem bU{i:Int}:Gn af (tC (.int i)) σ H:=cA λ_=>.inr (.inr (.inr (.inl ⟨i,rfl⟩)))
theorem tw:Gn af (tC .non) σ H:=cA λ_=>.inr (.inl rfl)
theorem b7(S:aV R)(ha:Gn (zE0 R n) ta σ H)(hb:Gn (zE0 R m) tb σ H)(l:n+m<=1000):Gn (zE0 R (n+m)) (tOp lu ta tb) σ H:=λH1 k1 _ k=>ha H1 k1 _ λx H2 k2 ⟨p,xs,ex,hp,lx,rx⟩=>hb H2 (k1.trans k2) _ λy H3 k3 ⟨q,ys,ey,hq,ly,ry⟩=>⟨p,q,xs,ys,ex,ey,k3 _ _ hp (by simp),hq,by rw[qAK];lia,λr hr=>k _ _ ((k2.trans k3).trans (Kp.new Kp.refl hr)) ⟨r,xs++ys,rfl,ac,by rw[qAN];lia,λu hu=>by
 rcases qAR.mp hu with e|e
 .exact S _ _ _ (rx u e) (k3.trans (Kp.new Kp.refl hr))
 .exact S _ _ _ (ry u e) (Kp.new Kp.refl hr)⟩⟩
theorem eJ(S:aV R)(ha:Gn (zGo R n) ta σ H)(hb:Gn (zGo R m) tb σ H)(l:n+m<=1000):Gn (zGo R (n+m)) (tOp lu ta tb) σ H:=λH1 k1 _ k=>ha H1 k1 _ λx H2 k2 ⟨p,xs,ex,hp,lx,rx⟩=>hb H2 (k1.trans k2) _ λy H3 k3 ⟨q,ys,ey,hq,ly,ry⟩=>⟨p,q,xs,ys,ex,ey,k3 _ _ hp (by simp),hq,by rw[qAK];lia,λr hr=>k _ _ ((k2.trans k3).trans (Kp.new Kp.refl hr)) ⟨r,xs++ys,rfl,ac,by rw[qAN];lia,λu hu=>by
 rcases qAR.mp hu with e|e
 .exact S _ _ _ (rx u e) (k3.trans (Kp.new Kp.refl hr))
 .exact S _ _ _ (ry u e) (Kp.new Kp.refl hr)⟩⟩
theorem uK(S:aV R){j:Int}(hj:0<=j)(ha:Gn (zE0 R n) ta σ H):Gn (zE0 R n) (tSl (kI K) ta zHf (gu (tC (.int j)))) σ H:=λH1 k1 _ k=>ha H1 k1 _ λx H2 k2 ⟨p,xs,ex,hp,lx,rx⟩=>⟨_,rfl,p,xs,ex,SqL.of hp,λr hr=>by
 rw[eU _ hj];exact k _ _ (k2.trans (Kp.new Kp.refl hr)) ⟨r,_,rfl,ac,by rw[qAU];lia,λu hu=>S _ _ _ (rx u (qBj hu)) (Kp.new Kp.refl hr)⟩⟩
theorem pb(S:aV R){j:Int}(hj:0<=j)(ha:Gn (zE0 R n) ta σ H):Gn (zE0 R n) (tSl (kI K) ta (gu (tC (.int j))) zHf) σ H:=λH1 k1 _ k=>ha H1 k1 _ λx H2 k2 ⟨p,xs,ex,hp,lx,rx⟩=>⟨_,rfl,p,xs,ex,SqL.of hp,λr hr=>by
 rw[zF3 _ hj];exact k _ _ (k2.trans (Kp.new Kp.refl hr)) ⟨r,_,rfl,ac,by rw[qAz];lia,λu hu=>S _ _ _ (rx u (qCz hu)) (Kp.new Kp.refl hr)⟩⟩
def Ixd(tb:TE)(σ:St)(H:Hp)(n:Nat):Prop:=∀H1,Kp [] H H1->∀Q:VK,(∀i:Int,0<=i->i<n->Q (.int i) H1)->tb σ H1 Q
theorem zFk{j:Nat}{c:Int}(e:σ[j]?=some (some (.int c)))(n:Nat)(hn:0<n):Ixd (tOp (rI (λ_ j=>0<j) λi j=>.int (i % j)) (bu j) (tC (.int n))) σ H n:=λH1 _ _ k=>⟨_,e,_,_,rfl,rfl,by lia,k _ (qAw _ (by lia)) (qA0 _ (by lia))⟩
theorem zJx(ha:Gn (zGo R n) ta σ H)(hb:Ixd tb σ H n):Gn R (tOp (qz K) ta tb) σ H:=λH1 k1 _ k=>ha H1 k1 _ λx H2 k2 ⟨p,xs,ex,hp,lx,rx⟩=>hb H2 (k1.trans k2) _ λi h0 h1=>by
 have hi:i.toNat<xs.length:=by lia
 exact⟨p,xs,i,_,ex,rfl,SqL.of hp,zEj h0 (qAq hi),k _ _ k2 (rx _ (qB8 hi))⟩
end
theorem bS{R:Hp->V->Prop}(S:aV R):aV (zGo R n):=λ_ _ _ ⟨a,xs,e,ha,l,r⟩ k=>⟨a,xs,e,k _ _ ha (by simp),l,λx hx=>S _ _ _ (r x hx) k⟩
theorem cK{R:Hp->V->Prop}(S:aV R):aV (zE0 R n):=λ_ _ _ ⟨a,xs,e,ha,l,r⟩ k=>⟨a,xs,e,k _ _ ha (by simp),l,λx hx=>S _ _ _ (r x hx) k⟩
theorem d_(h:GnL af t σ H n)(l:n<=64:=by decide):Gn aQ (bI t) σ H:=zH8 (zC1 zAo h (by lia)) λ_ _ r=>(r.le (qAG _)).blk l
theorem fL(h:GnL aQ t σ H n)(l:n<=64:=by decide):Gn aJ (bI t) σ H:=zH8 (zC1 zBh h (by lia)) λ_ _ r=>(r.le (qAG _)).blks l
theorem gle{R:Hp->V->Prop}(h:Gn (zGo R n) te σ H):Gn (zE0 R n) te σ H:=zH8 h λ_ _ r=>r.le (qAG _)
theorem gbk(h:Gn (zE0 aQ n) te σ H)(l:n<=64:=by decide):Gn aJ te σ H:=zH8 h λ_ _ r=>r.blks l
theorem mZ{R:Hp->V->Prop}{u:TS}(g:Gn R te σ H)(k:∀v H',Kp [] H H'->R H' v->u D (σ.set i (some v)) H'):aq (ki te (zJy i)) u D σ H:=g H Kp.refl _ λv H' k1 r=>k v H' k1 r
theorem sK(h:∀H,af H v)(n:∀a,v≠.ref a):Gn aQ (tC v) σ H:=cA λH=>.no ⟨h H,λa _ e=>absurd e (n a)⟩
theorem zE8.tup{H:Hp}{a:Addr}{xs:List V}(h:H a=some (.tup xs)):zE8 H (.ref a):=⟨zEl h,λb ys e z=>by cases e;rw[h]at z;cases z⟩
theorem zIm{K:PySem.W.Frag}(hK:X.K=K:=by rfl):zCz X (.type "tuple") (λxs H Q=>∃p ys,xs=[.ref p]/\((SqL K H p ys/\∀l,H l=none->Q (.ref l) (upd H l (.tup ys)))\/(SqT K H p ys/\Q (.ref p) H))):=by subst hK;exact zF7
section
inductive bP(vs:List V)(H:Hp)(Q:VK)(u_3:XK):Prop
 |mk:∀(c:Int)(l m h:Addr)(ns:List Str)(as:List Addr) (rs:List (List Str)) (hs:List V),vs=[.int c,.ref l,.ref m,.ref h]->Txs H l ns->ns≠[]->ns.length<=20->au H m as rs->rs.length<=20->(∀r∈rs,r≠[]/\r.length<=20)->0<=c->H h=some (.lst hs)->hs≠[]->hs.length<=40000->(∀v∈hs,TxB H v)->(∀v H',Kp [] H H'->aJ H' v->Q v H')->bP vs H Q u_3
abbrev zFr:Stmt:=top 70
theorem zB6:ag ["_law_cell_here","_law_names_here","_law_rows","_law_halves_here","_law_far","_law_thing","_law_one","_law_other","_law_some"] ["_law_cell_here","_law_names_here","_law_rows","_law_halves_here"] (zAg zFr):=fnS
theorem iP(F:Fun K "_law_bad_row" "_law_bad_row" zFr f fd)(T:Txt K mg)(C_put_in:Cal P w K mg base "_law_put_in" 2 ["_law_names_here","_law_rows","_law_far"] dP):ak P w K mg base CX0 3 f fd ["_law_cell_here","_law_names_here","_law_rows","_law_halves_here"] bP:=by
 refine F.ok zB6 (λvs H Q E h=>?_) (λcdv A outer s H vs Q E hr h=>?_)
 .obtain ⟨c,l,m,h,ns,as,rs,hs,rfl,_⟩:=h;rfl
 .obtain ⟨c,l,m,h,ns,as,rs,hs,rfl,hl,nn,few,R,rl,rne,c0,hh,hne,hlen,ht,k⟩:=h
  refine⟨_,(@zAc _ _ _ _ _ (by exact(psS (i:=4) zB6.nd (zAn zBr (pv 0) zAd))) (@zAc _ _ _ _ _ (@zIt _ _ 5 _ _ _ _ (by exact zB6.nd) (by rfl) (by walk_at "lc") (@zBd _ _ _ _ _ _ _ zA0 (@zFg _ _ _ _ (zA5 zHn (zA5 zAd (zA5 zAu (zA5 zAu (zA5 (by exact (zCa (zAa zAu zAb))) (zA5 (by exact (zAj (zAa zAu zAb))) (zA5 zBv (zA5 zAu zCn))))))))) (by exact (zAn zBa (pv 4) zAd)) (by exact (fun _ _=>rfl))) (by rfl) (by first| exact Or.inl rfl| exact Or.inr rfl))
   (@zAc _ _ _ _ _ (by exact (psS (i:=6) zB6.nd (zBd zA0 (pv 1) (zAn zBa (zAn zBr (pv 4) zAd) (zAi zAp (by rfl) T.z_len zBy (zAa (pv 1) zAb))) (fun _ _=>rfl))))
   (@zAc _ _ _ _ _ (by exact (psS (i:=7) zB6.nd (zBd zA0 (pv 1) (zAn zBa (zAn zBr (zAn zBr (pv 4) zAd) (zAi zAp (by rfl) T.z_len zBy (zAa (pv 1) zAb))) (zAi zAp (by rfl) T.z_len zBy (zAa (pv 1) zAb))) (fun _ _=>rfl))))
   (@zAc _ _ _ _ _ (@zIt _ _ 8 _ _ _ _ (by exact zB6.nd) (by rfl) (by walk_at "lc") (@zFg _ _ _ _ (zA5 (by exact (zAn zC0 (pv 2) (zAj (zAa (zAj zAb) zAb)))) (zA5 (by exact (zAn zC0 (zAj (zAa (zAj zAb) zAb)) (pv 2))) (zA5 (by exact (zAn zC0 (zAn zC0 (zB1 zCi (pv 2) zCr (zCd zAd)) (zAj (zAa (zAj zAb) zAb))) (zB1 zCi (pv 2) (zCd zAd) zCr))) (zA5 (by exact (zAj (zAa (zAj (zAa (pv 6) (zAa (pv 7) (zAa (pv 6) zAb)))) zAb))) (zA5 (by exact (zAj (zAa (zAj (zAa (pv 6) zAb)) (zAa (zAj (zAa (pv 6) zAb)) zAb)))) zCn)))))) (by rfl) (by first| exact Or.inl rfl| exact Or.inr rfl))
   (@zAc _ _ _ _ _ (@zIt _ _ 8 _ _ _ _ (by exact zB6.nd) (by rfl) (by walk_at "lc") (@zAn _ _ _ _ _ _ _ _ zC0 (by exact (pv 8)) (@zFg _ _ _ _ (zA5 (by exact (zAn zC0 (pv 2) (zAj (zAa (zAj (zAa (pv 5) zAb)) zAb)))) (zA5 (by exact (zAj (zAa (zAj (zAa (pv 5) (zAa (pv 6) zAb))) zAb))) (zA5 (by exact (zAj (zAa (zBd zA0 (zAj (zAa (zAj (zAa zAu zAb)) (zAa zAu (zAa zHn (zAa zAd zAb))))) (zAn zBa (pv 4) zAd) (fun _ _=>rfl)) zAb))) (zA5 (by exact (zA8 zF7 (by rfl) T.z_tuple zGa (zAa (pv 2) zAb))) zCn)))))) (by rfl) (by first| exact Or.inl rfl| exact Or.inr rfl))
   (@zAc _ _ _ _ _ (@zIt _ _ 8 _ _ _ _ (by exact zB6.nd) (by rfl) (by walk_at "lc") (@zAn _ _ _ _ _ _ _ _ zC0 (by exact (pv 8)) (@zFg _ _ _ _ (zA5 (by exact (zBn rfl (zBp (sc:=zAg zFr) rfl (by decide +kernel)) (ah.own (x:= "_law_row") ah.nil) (zAq (pv 2)) (fun _ _ _ _=>(pgB (i:=0))) (fun _ _ _ _=>zCm) (fun _ _ _ _=>(zA8 (zIm (K:=K)) (by rfl) T.z_tuple zGa (zAa (pv 0) zAb))))) (zA5 (by exact (zBd zA0 (pv 3) (zAn zBa (pv 4) (zAi zAp (by rfl) T.z_len zBy (zAa (pv 3) zAb))) (fun _ _=>rfl))) (zA5 (by exact (zAj (zAa (zAj (zAa (pv 6) zAb)) (zAa (zAj (zAa (pv 7) zAb)) zAb)))) zCn))))) (by rfl) (by first| exact Or.inl rfl| exact Or.inr rfl))
   (@zAc _ _ _ _ _ (by exact (psS (i:=8) zB6.nd (zAn zC0 (pv 8) (zAj (zAa (zAh C_put_in hr rfl (zAa (pv 1) (zAa (pv 2) (zAa (pv 4) zAb)))) (zAa (zAh C_put_in hr rfl (zAa (pv 1) (zAa (pv 2) (zAa (zAn zBr (pv 4) zAd) zAb)))) zAb))))))
   (by exact(zAe (zAw (zBd zA0 (pv 8) (zAn zBa (pv 0) zAd) (λ_ _=>rfl))))))))))))),?_⟩
  refine so ?_;intro _ _ _ _ _ _ _ _ _;have hz:=qAK;have pos:0<ns.length:=qB1.mpr nn;have b100:∀{n:Nat},n<=20->(n:Int)<10^100:=λh=>Int.lt_trans (show(_:Int)<1000 by lia) (by decide +kernel);refine⟨_,rfl,_,_,rfl,rfl,⟨by decide,by decide +kernel⟩,?_⟩;refine gN ?_;dsimp only;refine zJx (R:=af) (n:=8) ?_ ?_ H Kp.refl _ λv5 H1 k1 r5=>?_
  .exact (zC1 zAo (zAf zAo tw (zAf zAo bU (zAf zAo zFa (zAf zAo zFa (zAf zAo (rM (zAf zAo zFa zAt) (by decide)) (zAf zAo (zH8 (zC1 zAo (zAf zAo zFa zAt) (by decide)) λ_ _ ⟨_,_,e,h,_⟩=>by rw[e];exact zFm h) (zAf zAo uR (zAf zAo zFa zAt)))))))) (by decide))
  .exact zFk rfl 8 (by decide)
  have hl1:Txs H1 l ns:=k1 _ _ hl (by simp);obtain⟨x6,_,a6⟩:=zI4 (ns:=ns) (i:=c / 14 / 8 % (ns.length:Int)) (by have:=qAw (c / 14 / 8) (show(ns.length:Int)≠0 by lia);lia) (qA0 _ (by lia));refine⟨_,rfl,_,rfl,_,_,rfl,rfl,⟨by decide,by decide +kernel⟩,_,rfl,_,_,rfl,.inl (SqL.of hl1),_,_,rfl,rfl,by rw[qAD];lia,_,_,_,.str x6,rfl,rfl,SqL.of hl1,by rw[qAD];exact a6,?_⟩;obtain⟨x7,_,a7⟩:=zI4 (ns:=ns) (i:=c / 14 / 8 / (ns.length:Int) % (ns.length:Int)) (by have:=qAw (c / 14 / 8 / (ns.length:Int)) (show(ns.length:Int)≠0 by lia);lia) (qA0 _ (by lia));refine⟨_,rfl,_,rfl,_,_,rfl,rfl,⟨by decide,by decide +kernel⟩,_,rfl,_,_,rfl,.inl (SqL.of hl1),_,_,rfl,rfl,⟨by rw[qAD];lia,by rw[qAD];exact b100 few⟩,_,rfl,_,_,rfl,.inl (SqL.of hl1),_,_,rfl,rfl,by rw[qAD];lia,_,_,_,.str x7,rfl,rfl,SqL.of hl1,by rw[qAD];exact a7,?_⟩;have R1:=R.kp k1;have B2:zE0 aQ 20 H1 (.ref m):=⟨m,_,rfl,R1.top,by rw[qAD,R1.len];exact rl,R1.blk λr hr=>by have:=(rne r hr).2;lia⟩;have E1:∀{σ:St}{H:Hp},Gn (zE0 aQ 1) (bI (zIf (bI cz) cz)) σ H:=gle (zC1 zBh (zAf zBh (d_ zAt) zAt) (by decide));have s6:∀{σ:St}{H:Hp},σ[6]?=some (some (.str x6))->Gn af (bu 6) σ H:=λe=>zDc zAo e (zHe x6);have s7:∀{σ:St}{H:Hp},σ[7]?=some (some (.str x7))->Gn af (bu 7) σ H:=λe=>zDc zAo e (zHe x7);refine gN ?_;dsimp only;refine mZ (R:=zGo aJ 5) ?_ λv8 H2 k2 r8=>?_
  .refine zC1 zA4 (zAf zA4 ?_ (zAf zA4 ?_ (zAf zA4 ?_ (zAf zA4 ?_ (zAf zA4 ?_ zAt))))) (by decide)
   .exact gbk (b7 zBh (zDc (cK zBh) rfl B2) E1 (by decide))
   .exact gbk (b7 zBh E1 (zDc (cK zBh) rfl B2) (by decide))
   .exact gbk (b7 zBh (b7 zBh (uK zBh (by decide) (zDc (cK zBh) rfl B2)) E1 (by decide)) (pb zBh (by decide) (zDc (cK zBh) rfl B2)) (by decide))
   .exact fL (zAf zBh (d_ (zAf zAo (s6 rfl) (zAf zAo (s7 rfl) (zAf zAo (s6 rfl) zAt)))) zAt)
   .exact fL (zAf zBh (d_ (zAf zAo (s6 rfl) zAt)) (zAf zBh (d_ (zAf zAo (s6 rfl) zAt)) zAt))
  have R2:=R.kp (k1.trans k2);have B3:=cK zBh _ _ _ B2 k2;have r5b:=zCu r5 k2;refine mZ (R:=zGo aJ 9) (eJ (n:=5) (m:=4) zA4 ?_ ?_ (by decide)) λv9 H3 k3 r9=>?_
  .exact zDc (bS zA4) rfl r8
  .refine zC1 zA4 (zAf zA4 ?_ (zAf zA4 ?_ (zAf zA4 ?_ (zAf zA4 ?_ zAt)))) (by decide)
   .exact gbk (b7 zBh (zDc (cK zBh) rfl B3) (gle (zC1 zBh (zAf zBh (d_ (zAf zAo (zDc zAo rfl r5b) zAt)) zAt) (by decide))) (by decide))
   .exact fL (zAf zBh (d_ (zAf zAo (zDc zAo rfl r5b) (zAf zAo (s6 rfl) zAt))) zAt)
   .refine fL (zAf zBh (zJx (n:=4) ?_ ?_) zAt)
    .exact zC1 zBh (zAf zBh (d_ (zAf zAo zFa zAt)) (zAf zBh (sK (λ_=>.inl ⟨_,rfl⟩) (λ_ e=>nomatch e)) (zAf zBh (sK (λ_=>.inr (.inl rfl)) (λ_ e=>nomatch e)) (zAf zBh (sK (λ_=>.inr (.inr (.inr (.inl ⟨_,rfl⟩)))) (λ_ e=>nomatch e)) zAt)))) (by decide)
    .exact zFk rfl 4 (by decide)
   .exact λH3 k3 Q k=>⟨_,rfl,_,_,rfl,.inl ⟨SqL.of (k3 _ _ R2.top (by simp)),λl hl=>k _ _ (Kp.new Kp.refl hl) (.no (zE8.tup ac))⟩⟩
  have R3:=R2.kp k3;have hh3:=((k1.trans k2).trans k3) _ _ hh (by simp);refine mZ (R:=zGo aJ 12) (eJ (n:=9) (m:=3) zA4 ?_ ?_ (by decide)) λv10 H4 k4 r10=>?_
  .exact zDc (bS zA4) rfl r9
  .refine zC1 zA4 (zAf zA4 ?_ (zAf zA4 ?_ (zAf zA4 ?_ zAt))) (by decide)
   .intro H4 k4 Q k;have R4:=R3.kp k4;refine⟨_,rfl,_,rfl,⟨_,SqL.of R4.top⟩,λY hY=>zBc (as.map V.ref) (λi ys τ H5=>(∃o0,τ=[o0])/\Kp [] H4 H5/\H5 Y=some (.lst ys)/\ys.length=i/\∀y∈ys,∃t xs,y= .ref t/\H5 t=some (.tup xs)) ⟨⟨_,rfl⟩,Kp.new Kp.refl hY,ac,rfl,(λ_ h=>nomatch h)⟩ (λi ys τ H5 ⟨_,k5,_⟩=>SqL.of (k5 _ _ R4.top (by simp))) ?_ ?_⟩
    .rintro i v ys τ H5 hv ⟨⟨o0,rfl⟩,k5,hy,ly,ty⟩;obtain⟨a,r,_,er,rfl,ha⟩:=R4.of hv;have il:=(qAL.mp er).1;refine⟨_,rfl,_,_,rfl,.inl ⟨SqL.of (k5 _ _ ha (by simp)),λt ht=>?_⟩⟩;have kt:Kp [] H5 (upd H5 t (.tup (r.map V.str))):=Kp.new Kp.refl ht;refine⟨kt _ _ hy (by simp),by lia,⟨_,rfl⟩,Kp.new (k5.trans kt) hY,ac,by rw[qAN,ly];rfl,λy hy'=>?_⟩
     have nY:∀{b xs},upd H5 t (.tup (r.map V.str)) b=some (.tup xs)->b≠Y:=λh z=>by
      rw[z,kt _ _ hy (by simp)]at h;cases h
     rcases qAR.mp hy' with z|z
     .obtain ⟨b,xs,e,hb⟩:=ty y z;have hb':=kt _ _ hb (by simp);exact⟨b,xs,e,(ad (nY hb')).trans hb'⟩
     .exact ⟨t,_,qAO.mp z,(ad (nY ac)).trans ac⟩
    .rintro ys τ H5 ⟨_,k5,hy,ly,ty⟩;refine k _ _ k5 (.lst Y ys rfl hy (by rw[ly,qAD,R4.len];lia) λy hy'=>?_);obtain⟨t,xs,e,ht⟩:=ty y hy';rw[e];exact .no (zE8.tup ht)
   .refine zJx (n:=hs.length) ?_ ?_
    .exact zDc (bS zA4) rfl ⟨h,hs,rfl,hh3,rfl,λv hv=>((ht v hv).kp0 ((k1.trans k2).trans k3)).blks⟩
    .intro H4 k4 Q k;have hp:0<hs.length:=qB1.mpr hne;exact⟨_,rfl,_,rfl,_,_,rfl,.inl (SqL.of (k4 _ _ hh3 (by simp))),_,_,rfl,rfl,by lia,k _ (qAw _ (by lia)) (qA0 _ (by lia))⟩
   .exact fL (zAf zBh (d_ (zAf zAo (s6 rfl) zAt)) (zAf zBh (d_ (zAf zAo (s7 rfl) zAt)) zAt))
  refine mZ (R:=zGo aJ 14) (eJ (n:=12) (m:=2) zA4 ?_ ?_ (by decide)) λv11 H5 k5 r11=>?_
  .exact zDc (bS zA4) rfl r10
  .have k04:=((k1.trans k2).trans k3).trans k4;refine zC1 zA4 (zAf zA4 ?_ (zAf zA4 ?_ zAt)) (by decide)
   .intro H5 k5 Q k;exact⟨_,rfl,_,rfl,_,rfl,l,m,c / 14,ns,as,rs,rfl,(k04.trans k5) _ _ hl (by simp),nn,few,R.kp (k04.trans k5),rl,rne,qCQ c0 (by decide),λv H6 k6 t=>k v H6 k6 t.blks⟩
   .intro H5 k5 Q k;exact⟨_,rfl,_,rfl,_,rfl,_,_,rfl,rfl,⟨by decide,by decide +kernel⟩,l,m,c / 14 / 2,ns,as,rs,rfl,(k04.trans k5) _ _ hl (by simp),nn,few,R.kp (k04.trans k5),rl,rne,qCQ (qCQ c0 (by decide)) (by decide),λv H6 k6 t=>k v H6 k6 t.blks⟩
  refine zJx (R:=aJ) (n:=14) ?_ ?_ H5 Kp.refl _ λv H6 k6 r=>?_
  .exact zDc (bS zA4) rfl r11
  .exact zFk rfl 14 (by decide)
  exact k _ _ (((((k1.trans k2).trans k3).trans k4).trans k5).trans k6) r
end
def zGt(H:Hp)(v:V):Prop:=af H v/\∀i,v= .int i->i<0
def Oth(H:Hp)(v:V):Prop:=af H v/\∀t xs,v= .ref t->H t=some (.tup xs)->xs.length≠2
def jW(H:Hp)(v:V):Prop:=af H v/\∀x,v= .str x->x≠ "blocks"/\x≠ "behind"/\x≠ "ahead"
inductive bt(H:Hp)(v:V):Prop
 |blk:∀(t:Addr)(b:V),v= .ref t->H t=some (.tup [.str "blocks",b])->aJ H b->bt H v
 |num:∀(t:Addr)(x:Str)(n:V),v= .ref t->H t=some (.tup [.str x,n])->(x="behind"\/x="ahead")->zGt H n->bt H v
 |odd:∀(t:Addr)(x n:V),v= .ref t->H t=some (.tup [x,n])->jW H x->af H n->bt H v
 |oth:Oth H v->bt H v
theorem zIg:aV zE8:=λ_ _ _ h k=>h.kp0 k
theorem zEd:aV zGt:=λ_ _ _ h k=>⟨zCu h.1 k,h.2⟩
theorem zC5:aV jW:=λ_ _ _ h k=>⟨zCu h.1 k,h.2⟩
theorem Oth.kp0(h:Oth H v)(k:Kp [] H H'):Oth H' v:=by
 refine⟨zCu h.1 k,λt xs e z=>?_⟩;subst e;rcases h.1 with⟨_,e⟩|e|⟨_,e⟩|⟨_,e⟩|⟨b,e,y⟩
 .cases e
 .cases e
 .cases e
 .cases e
 .cases e
  rcases y with⟨ys,y⟩|⟨ys,y⟩|⟨ys,y⟩
  .rw [k _ _ y (by simp)]at z;cases z
  .rw [k _ _ y (by simp)]at z;cases z;exact h.2 t _ rfl y
  .rw [k _ _ y (by simp)]at z;cases z
theorem zFo:aV Oth:=λ_ _ _ h k=>h.kp0 k
theorem bt.kp0(h:bt H v)(k:Kp [] H H'):bt H' v:=by
 cases h with
 |blk t b e h r=>exact .blk t b e (k _ _ h (by simp)) (r.kp0 k)
 |num t x n e h w r=>exact .num t x n e (k _ _ h (by simp)) w (zEd _ _ _ r k)
 |odd t x n e h w r=>exact .odd t x n e (k _ _ h (by simp)) (zC5 _ _ _ w k) (zCu r k)
 |oth h=>exact .oth (h.kp0 k)
def ss(R S:Hp->V->Prop)(H:Hp)(v:V):Prop:=∃t x y,v= .ref t/\H t=some (.tup [x,y])/\R H x/\S H y
section
variable{R R':Hp->V->Prop}{te ta tb:TE}{t:L2.TA}{σ:St}{H:Hp}{n m:Nat}{K:PySem.W.Frag}
theorem dO(S:aV R)(S':aV R')(h1:Gn R ta σ H)(h2:Gn R' tb σ H):Gn (ss R R') (cC (zIf ta (zIf tb cz))) σ H:=λH1 k1 _ k=>h1 H1 k1 _ λx H2 k2 r=>h2 H2 (k1.trans k2) _ λy H3 k3 r'=>⟨by show(2:Nat)<=sizeLine;decide,λp hp=>k _ _ ((k2.trans k3).trans (Kp.new Kp.refl hp)) ⟨p,x,y,rfl,ac,S _ _ _ r (k3.trans (Kp.new Kp.refl hp)),S' _ _ _ r' (Kp.new Kp.refl hp)⟩⟩
theorem gY(h:∀H,af H v)(n:∀a,v≠.ref a):Gn Oth (tC v) σ H:=cA λH=>⟨h H,λt _ e=>absurd e (n t)⟩
theorem cQ(h:∀H,af H v)(n:∀a,v≠.ref a):Gn zE8 (tC v) σ H:=cA λH=>⟨h H,λt _ e=>absurd e (n t)⟩
theorem dy(h:GnL R t σ H n)(l:n<=1000)(n2:n≠2):Gn Oth (cC t) σ H:=λH1 k1 _ k=>h H1 k1 _ λvs H2 k2 e _=>⟨by rw[e,qAK];lia,λp hp=>k _ _ (k2.trans (Kp.new Kp.refl hp)) ⟨zEl ac,λt xs z y=>by cases z;rw[ac]at y;cases y;lia⟩⟩
theorem p6(h:GnL R t σ H n)(l:n<=1000):Gn Oth (bI t) σ H:=λH1 k1 _ k=>h H1 k1 _ λvs H2 k2 e _=>⟨by rw[e,qAK];lia,λp hp=>k _ _ (k2.trans (Kp.new Kp.refl hp)) ⟨zFm ac,λt xs z y=>by cases z;rw[ac]at y;cases y⟩⟩
theorem rH:Gn Oth zIr σ H:=λH1 _ _ k p hp=>k _ _ (Kp.new Kp.refl hp) ⟨zFn ac,λt xs z y=>by cases z;rw[ac]at y;cases y⟩
theorem tF:Gn zE8 zIr σ H:=λH1 _ _ k p hp=>k _ _ (Kp.new Kp.refl hp) ⟨zFn ac,λt xs z y=>by cases z;rw[ac]at y;cases y⟩
theorem oW(h:GnL R t σ H n)(l:n<=1000):Gn zE8 (cC t) σ H:=λH1 k1 _ k=>h H1 k1 _ λvs H2 k2 e _=>⟨by rw[e,qAK];lia,λp hp=>k _ _ (k2.trans (Kp.new Kp.refl hp)) (zE8.tup ac)⟩
theorem jE(h:GnL R t σ H n)(l:n<=1000):Gn af (bI t) σ H:=λH1 k1 _ k=>h H1 k1 _ λvs H2 k2 e _=>⟨by rw[e,qAK];lia,λp hp=>k _ _ (k2.trans (Kp.new Kp.refl hp)) (zFm ac)⟩
theorem zJw(h:∀H,af H v)(n:∀i,v≠.int i):Gn zGt (tC v) σ H:=cA λH=>⟨h H,λi e=>absurd e (n i)⟩
theorem qF(h:GnL R t σ H n)(l:n<=1000):Gn zGt (cC t) σ H:=λH1 k1 _ k=>h H1 k1 _ λvs H2 k2 e _=>⟨by rw[e,qAK];lia,λp hp=>k _ _ (k2.trans (Kp.new Kp.refl hp)) ⟨zEl ac,λ_ z=>nomatch z⟩⟩
theorem qv(h:GnL R t σ H n)(l:n<=1000):Gn zGt (bI t) σ H:=λH1 k1 _ k=>h H1 k1 _ λvs H2 k2 e _=>⟨by rw[e,qAK];lia,λp hp=>k _ _ (k2.trans (Kp.new Kp.refl hp)) ⟨zFm ac,λ_ z=>nomatch z⟩⟩
theorem oZ:Gn zGt zIr σ H:=λH1 _ _ k p hp=>k _ _ (Kp.new Kp.refl hp) ⟨zFn ac,λ_ z=>nomatch z⟩
theorem zIz(h:∀H,af H v)(n:∀x,v= .str x->x≠ "blocks"/\x≠ "behind"/\x≠ "ahead"):Gn jW (tC v) σ H:=cA λH=>⟨h H,n⟩
theorem s_(h:GnL R t σ H n)(l:n<=1000):Gn jW (cC t) σ H:=λH1 k1 _ k=>h H1 k1 _ λvs H2 k2 e _=>⟨by rw[e,qAK];lia,λp hp=>k _ _ (k2.trans (Kp.new Kp.refl hp)) ⟨zEl ac,λ_ z=>nomatch z⟩⟩
theorem si:Gn jW zIr σ H:=λH1 _ _ k p hp=>k _ _ (Kp.new Kp.refl hp) ⟨zFn ac,λ_ z=>nomatch z⟩
theorem lJ{j:Nat}{c:Int}(e:σ[j]?=some (some (.int c)))(d n:Nat)(hd:0<d)(hd':(d:Int)<10^100)(hn:0<n):Ixd (tOp (rI (λ_ j=>0<j) λi j=>.int (i % j)) (tOp (rI (λ_ j=>0<j/\j<10^100) λi j=>.int (i / j)) (bu j) (tC (.int d))) (tC (.int n))) σ H n:=λH1 _ _ k=>⟨_,e,_,_,rfl,rfl,⟨by lia,hd'⟩,_,_,rfl,rfl,by lia,k _ (qAw _ (by lia)) (qA0 _ (by lia))⟩
end
theorem sh{R:Hp->V->Prop}(g:Gn R te σ H)(k:∀v H',Kp [] H H'->R H' v->D.rt v H'):rK te D σ H:=g H Kp.refl _ k
theorem neR{K:PySem.W.Frag}{e:Addr}(h1:SqL K H c xs)(h2:SqL K H e [])(h:∀bb:Bool,(bb=true↔xs≠[])->Q (.bl bb) H):aO K 8 false (.ref c) (.ref e) H Q\/aP K true (.ref c) (.ref e) H Q:=by
 by_cases z:xs=[]
 .subst z;exact .inl ⟨c,e,_,_,rfl,rfl,h1,h2,rfl,(λi x y h=>by simp at h),h false (by simp)⟩
 .exact .inr ⟨c,e,_,_,rfl,rfl,h1,h2,λy=>z (qBx.mp y),h true (by simp[z])⟩
theorem nxG(h:D.nx σ H):i7 D σ H:=h
theorem tI{i:Int}:af H (.int i):=.inr (.inr (.inr (.inl ⟨i,rfl⟩)))
theorem tS :af H (.str x):=.inl ⟨x,rfl⟩
theorem tN :af H .non:=.inr (.inl rfl)
theorem tB{b:Bool}:af H (.bl b):=.inr (.inr (.inl ⟨b,rfl⟩))
structure PEW(X:Cx)(e:Expr)(t:TE):Prop where
 to:PE X e t
structure PSW(X:Cx)(st:Stmt)(t:TS):Prop where
 to:PS X st t
structure PSZ(X:Cx)(st:List Stmt)(t:TS):Prop where
 to:PSs X st t
section
variable{X:Cx}
theorem aF{t:TE}(h:PE X e t):PEW X e t:=⟨h⟩
theorem br{e:Stmt}{t:TS}(h:PS X e t):PSW X e t:=⟨h⟩
theorem zBx(ha:PEW X e te)(hr:PAI X es t)(hs:fh e=true:=by rfl):PAI X (e::es) (zIf te t):=zA5 ha.to hr hs
theorem zJg(h:PAI X es t):PEW X (.List es pos) (bI t):=⟨zFg h⟩
theorem dZ{x1}(h:PAI X es t):PEW X (.Tuple es x1 pos) (cC t):=⟨jG h⟩
theorem dI{a b:Expr}{ta tb:TE}{r:R2}(hr:IxR X r)(ha:PEW X a ta)(hb:PEW X b tb)(hs:jR b):PEW X (.Subscript a b pos) (tOp r ta tb):=⟨zBd hr ha.to hb.to hs⟩
theorem zBe{rest:List Stmt}{t u:TS}(h:PSW X st t)(r:PSZ X rest u):PSZ X (st::rest) (aq t u):=⟨zAc h.to r.to⟩
theorem zEq{t:TS}(h:PSW X st t):PSZ X [st] t:=⟨zAe h.to⟩
theorem zHm:PSZ X [] i7:=⟨zAs⟩
theorem zGh(h:PEW X e te):PSW X (.Return (some e) pos) (rK te):=⟨zAw h.to⟩
theorem bQ{c:Expr}{a b:List Stmt}{tc:TT}{t u:TS}(hc:PT X c tc)(ha:PSZ X a t)(hb:PSZ X b u):PSW X (.If c a b pos) (uE tc t u):=⟨zBk hc ha.to hb.to⟩
theorem qf{i:Nat}{pos':Pos}(h1:X.N.Nodup)(h2:X.N[i]?=some x)(h3:Loc X.env.scope x)(h4:PEW X e te)(h5:PySem.swapsWith e (some (.Name x pos')) pos.line X.env=pure false:=by rfl)(h6:X.fn x=true\/List.lookup x X.env.scope.names=some .local:=by first|exact Or.inl rfl|exact Or.inr rfl):PSW X (.Assign [.Name x pos'] e pos) (ki te (zJy i)):=⟨zIt h1 h2 h3 h4.to h5 h6⟩
end
section
inductive og(vs:List V)(H:Hp)(Q:VK)(u_3:XK):Prop
 |mk:∀(c:Int)(l m h:Addr)(ns:List Str)(as:List Addr) (rs:List (List Str)) (hs:List V),vs=[.int c,.ref l,.ref m,.ref h]->Txs H l ns->ns.length<=20->au H m as rs->rs.length<=20->(∀r∈rs,r≠[]/\r.length<=20)->0<=c->H h=some (.lst hs)->(ns≠[]->hs≠[])->hs.length<=40000->(∀v∈hs,TxB H v)->(∀v H',Kp [] H H'->bt H' v->Q v H')->og vs H Q u_3
abbrev lO:Stmt:=top 71
theorem iM:ag ["_law_cell_here","_law_names_here","_law_rows","_law_halves_here","_law_far","_law_number"] ["_law_cell_here","_law_names_here","_law_rows","_law_halves_here"] (zAg lO):=fnS
theorem rS(F:Fun K "_law_bad" "_law_bad" lO f fd)(T:Txt K mg)(C_bad_row:Cal P w K mg base "_law_bad_row" 3 ["_law_cell_here","_law_names_here","_law_rows","_law_halves_here"] bP):ak P w K mg base CX0 4 f fd ["_law_cell_here","_law_names_here","_law_rows","_law_halves_here"] og:=by
 refine F.ok iM (λvs H Q E h=>?_) (λcdv A outer s H vs Q E hr h=>?_)
 .obtain ⟨c,l,m,h,ns,as,rs,hs,rfl,_⟩:=h;rfl
 .obtain ⟨c,l,m,h,ns,as,rs,hs,rfl,hl,few,R,rl,rne,c0,hh,hne,hlen,ht,k⟩:=h
  refine⟨_,(PSZ.to (zBe (br (by exact(psS (i:=4) iM.nd (zAn zBr (pv 0) zAd)))) (zBe (bQ (by exact (PW.pt (zHl (zAr fQ (zAn zBa (pv 0) zAd) zAd (zAv _)) (zGg (zAr (zEt hr) (pv 1) (zAj zAb) (zAv _))))))
    (zEq (zGh (dZ (zBx (aF zAu) (zBx (aF (by exact(zAh C_bad_row hr rfl (zAa (pv 4) (zAa (pv 1) (zAa (pv 2) (zAa (pv 3) zAb))))))) zCn)))))
    zHm)
   (zBe (qf (i:=5) (by exact iM.nd) (by rfl) (by walk_at "lc") (dI zA0 (zJg (zBx (aF (by exact (zAn zE9 (n_ iF zAd) (zAn zBa (pv 4) (zAn iw zAd zAd))))) (zBx (aF zHn) (zBx (aF zEs) (zBx (aF zEs) (zBx (aF zAu) (zBx (aF (by exact (zCa (zAa zAd zAb)))) (zBx (aF (by exact (zAj zAb))) (zBx (aF zBv) zCn))))))))) (aF (by exact (zAn zBa (pv 4) zAd))) (by exact (fun _ _=>rfl))))
   (zBe (bQ (by exact (zAr zD8 (zAn zBa (pv 0) zAd) zAd (zAv _)))
    (zEq (zGh (aF (by exact(zCa (zAa zAu (zAa (pv 5) zAb)))))))
    zHm)
   (zBe (bQ (by exact (zAr zD8 (zAn zBa (pv 0) zAd) zAd (zAv _)))
    (zEq (zGh (aF (by exact(zCa (zAa zAu (zAa (pv 5) zAb)))))))
    zHm)
   (zBe (bQ (by exact (zAr zD8 (zAn zBa (pv 0) zAd) zAd (zAv _)))
    (zEq (zGh (dI zA0 (zJg (zBx (aF zHn) (zBx (aF zAu) (zBx (aF (by exact(zCa (zAa zAu zAb)))) (zBx (aF (by exact(zCa (zAa zAu (zAa zAd (zAa zAd zAb)))))) (zBx (aF (by exact(zAj (zAa zAu (zAa (zAj zAb) zAb))))) (zBx (aF zAd) (zBx (aF (by exact(zCa zAb))) (zBx (aF zBv) zCn))))))))) (aF (by exact(zAn zBa (pv 4) zAd))) (by exact(λ_ _=>rfl)))))
    zHm)
   (zBe (bQ (by exact (zAr zD8 (zAn zBa (pv 0) zAd) zAd (zAv _)))
    (zEq (zGh (dZ (zBx (aF zAu) (zBx (dI zA0 (zJg (zBx (aF zHn) (zBx (aF zAu) (zBx (aF zAd) (zBx (aF zBv) (zBx (aF zAu) (zBx (aF zEs) (zBx (aF zAd) (zBx (aF (by exact(zCa zAb))) zCn))))))))) (aF (by exact(zAn zBa (pv 4) zAd))) (by exact(λ_ _=>rfl))) zCn)))))
    zHm)
   (zEq (zGh (dZ (zBx (dI zA0 (zJg (zBx (aF zHn) (zBx (aF zAu) (zBx (aF zAu) (zBx (aF zAd) (zBx (aF (by exact(zCa (zAa zAu zAb)))) (zBx (aF zEs) (zBx (aF zAu) (zBx (aF zBv) zCn))))))))) (aF (by exact(zAn zBa (pv 4) zAd))) (by exact(λ_ _=>rfl))) (zBx (aF (by exact(zBd zA0 (zAj (zAa (zAj zAb) (zAa zAd zAb))) (zAn zBa (zAn zBr (pv 4) zAd) zAd) (λ_ _=>rfl)))) zCn))))))))))))),?_⟩
  refine vz ?_;intro _ _ _ _ _ _ _ _;have hz:=qAK;refine⟨_,rfl,_,_,rfl,rfl,⟨by decide,by decide +kernel⟩,?_⟩;refine gN ?_;dsimp only;refine ou (λσ H'=>σ=[some (.int c),some (.ref l),some (.ref m),some (.ref h),some (.int (c / 10)),none]/\Kp [] H H') ?_ λkey=>?_
  .rintro σ H1 ⟨rfl,k1⟩;have num:∀(x:Str),(x="behind"\/x="ahead")->∀(v5:V)(H2:Hp),Kp [] H H2->zGt H2 v5->∀(σ:St),σ[5]?=some (some v5)->cC (zIf (tC (.str x)) (zIf (bu 5) cz)) σ H2 Q:=λx hx v5 H2 k2 r5 σ e5=>dO (R:=λ_ v=>v= .str x) (λ_ _ _ h _=>h) zEd (cA λ_=>rfl) (zDc zEd e5 r5) H2 Kp.refl _ λv H3 k3 ⟨t,y,z,e,h,ey,rz⟩=>k v H3 (k2.trans k3) (.num t x z e (ey▸h) hx rz);refine mZ (R:=zGt) (zJx (n:=8) ?_ ?_) λv5 H2 k2 r5=>?_
   .refine zC1 zEd (zAf zEd ?_ (zAf zEd (zJw (λ_=>tN) (λ_ e=>nomatch e)) (zAf zEd (zJw (λ_=>tB) (λ_ e=>nomatch e)) (zAf zEd (zJw (λ_=>tB) (λ_ e=>nomatch e)) (zAf zEd (zJw (λ_=>tS) (λ_ e=>nomatch e)) (zAf zEd (qF (zAf zAo bU zAt) (by decide)) (zAf zEd (qv (R:=af) zAt (by decide)) (zAf zEd oZ zAt)))))))) (by decide);intro H2 k2 Q' k';refine⟨_,rfl,_,rfl,_,_,rfl,rfl,⟨by decide,by decide,by decide⟩,_,_,rfl,rfl,(show(0:Int)<10^(58:Int).toNat by decide +kernel),_,_,rfl,rfl,k' _ _ Kp.refl ⟨tI,λi e=>?_⟩⟩;have:=qAw (c / 10) (show(10:Int)^(58:Int).toNat≠0 by decide +kernel)
    cases e
    lia
   .exact zFk rfl 8 (by decide)
   have k02:=k1.trans k2;refine⟨_,rfl,_,_,rfl,rfl,(by decide),rfl,_,rfl,aA (λc5=>num _ (.inl rfl) _ _ k02 r5 _ rfl) (λc5=>?_)⟩;refine⟨_,rfl,_,_,rfl,rfl,(by decide),rfl,_,rfl,aA (λc6=>num _ (.inr rfl) _ _ k02 r5 _ rfl) (λc6=>?_)⟩;refine⟨_,rfl,_,_,rfl,rfl,(by decide),rfl,_,rfl,aA (λc7=>?_) (λc7=>?_)⟩
   .refine sh (R:=Oth) (zJx (n:=8) ?_ ?_) λv H3 k3 r=>k v H3 (k02.trans k3) (.oth r)
    .exact zC1 zFo (zAf zFo (gY (λ_=>tN) (λ_ e=>nomatch e)) (zAf zFo (gY (λ_=>tS) (λ_ e=>nomatch e)) (zAf zFo (dy (zAf zAo zFa zAt) (by decide) (by decide)) (zAf zFo (dy (zAf zAo zFa (zAf zAo bU (zAf zAo bU zAt))) (by decide) (by decide)) (zAf zFo (p6 (zAf zAo zFa (zAf zAo (jE (R:=af) zAt (by decide)) zAt)) (by decide)) (zAf zFo (gY (λ_=>tI) (λ_ e=>nomatch e)) (zAf zFo (dy (R:=af) zAt (by decide) (by decide)) (zAf zFo rH zAt)))))))) (by decide)
    .exact zFk rfl 8 (by decide)
   refine⟨_,rfl,_,_,rfl,rfl,(by decide),rfl,_,rfl,aA (λc8=>?_) (λc8=>?_)⟩
   .refine sh (R:=ss (λ_ v=>v= .str "blocks") zE8) (dO (λ_ _ _ h _=>h) zIg (cA λ_=>rfl) (zJx (n:=8) ?_ ?_)) λv H3 k3 ⟨t,x,y,e,h,ex,ry⟩=>k v H3 (k02.trans k3) (.blk t y e (ex▸h) (.no ry))
    .exact zC1 zIg (zAf zIg (cQ (λ_=>tN) (λ_ e=>nomatch e)) (zAf zIg (cQ (λ_=>tS) (λ_ e=>nomatch e)) (zAf zIg (cQ (λ_=>tI) (λ_ e=>nomatch e)) (zAf zIg tF (zAf zIg (cQ (λ_=>tS) (λ_ e=>nomatch e)) (zAf zIg (cQ (λ_=>tB) (λ_ e=>nomatch e)) (zAf zIg (cQ (λ_=>tI) (λ_ e=>nomatch e)) (zAf zIg (oW (R:=af) zAt (by decide)) zAt)))))))) (by decide)
    .exact zFk rfl 8 (by decide)
   refine nxG ?_;dsimp only
   refine sh (R:=ss jW af) (dO zC5 zAo (zJx (n:=8) ?_ ?_) (zJx (n:=2) ?_ ?_)) λv H3 k3 r=>by
    obtain⟨t,x,y,e,h,ex,ry⟩:=r;exact k v H3 (k02.trans k3) (.odd t x y e h ex ry)
   .exact zC1 zC5 (zAf zC5 (zIz (λ_=>tN) (λ_ e=>nomatch e)) (zAf zC5 (zIz (λ_=>tS) (λ_ e=>by cases e;decide)) (zAf zC5 (zIz (λ_=>tS) (λ_ e=>by cases e;decide)) (zAf zC5 (zIz (λ_=>tI) (λ_ e=>nomatch e)) (zAf zC5 (s_ (zAf zAo zFa zAt) (by decide)) (zAf zC5 (zIz (λ_=>tB) (λ_ e=>nomatch e)) (zAf zC5 (zIz (λ_=>tS) (λ_ e=>by cases e;decide)) (zAf zC5 si zAt)))))))) (by decide)
   .exact zFk rfl 8 (by decide)
   .exact zC1 zAo (zAf zAo (jE (R:=af) zAt (by decide)) (zAf zAo bU zAt)) (by decide)
   .exact lJ rfl 8 2 (by decide) (by decide +kernel) (by decide)
  .refine ⟨_,rfl,_,_,rfl,rfl,(by decide),_,_,rfl,rfl,_,rfl,aA (λc1=>?_) (λc1=>key _ _ ⟨rfl,Kp.refl⟩)⟩;refine⟨_,rfl,(by walk_at"ln"),λe0 qe=>?_⟩;obtain⟨H1,e1,k1,h1⟩:=aG (o:=.lst []) qe;rw[e1];refine neR (SqL.of (k1 _ _ hl (by simp))) (SqL.of h1) λbb hbb=>⟨_,rfl,aA (λc2=>?_) (λc2=>key _ _ ⟨rfl,k1⟩)⟩;have nn:ns≠[]:=λz=>hbb.mp c2 (by rw[z];rfl);refine⟨_,rfl,_,rfl,_,rfl,_,rfl,c / 10,l,m,h,ns,as,rs,hs,rfl,k1 _ _ hl (by simp),nn,few,R.kp k1,rl,rne,qCQ c0 (by decide),k1 _ _ hh (by simp),hne nn,hlen,λv hv=>(ht v hv).kp0 k1,λv H2 k2 r=>⟨by show(2:Nat)<=sizeLine;decide,λp hp=>?_⟩⟩;have k3:Kp [] H2 (upd H2 p (.tup [.str "blocks",v])):=Kp.new Kp.refl hp;exact k _ _ ((k1.trans k2).trans k3) (.blk p v rfl ac (r.kp0 k3))
end
theorem pT{bs:List (List Str)}{p:Nat}{B:List Str}(nd:bs.flatten.Nodup)(h:bs[i]?=some B)(hx:B[p]?=some x):x∉(bs.take i).flatten++B.take p:=by
 have hi:=(qAL.mp h).1
 have e:bs=bs.take i++(B::bs.drop (i+1)):=by
  have h1:=(qBb i bs).symm;rw[qC7 hi]at h1;rw[(qAL.mp h).2]at h1;exact h1
 have eB:B=B.take p++(x::B.drop (p+1)):=by
  have hp:=(qAL.mp hx).1;have h1:=(qBb p B).symm;rw[qC7 hp,(qAL.mp hx).2]at h1;exact h1
 rw[e,qBn,qBA]at nd;generalize (bs.take i).flatten=U at nd ⊢;rw[eB,qBK,<-qBK]at nd;intro hm;exact(qBX.mp nd).2.2 x hm x (by simp) rfl
theorem jk:∀{l:List (List Str)},(∀r∈l,r.length<=64)->l.flatten.length<=64*l.length
 |[],_=>qAG _
 |r::l,h=>by
  have h1:=h r (by simp);have h2:=jk (l:=l) λr hr=>h r (qAX _ hr);rw[qBA,qAN,qAa];lia
section
inductive dN(vs:List V)(H:Hp)(Q:VK)(u_3:XK):Prop
 |mk:∀(d bl:Addr)(k:Int)(J:JR)(as:List Addr) (bs:List (List Str)) (la:Str->Addr) (L:Str->List Str),vs=[.ref d,.int 1,.ref bl,.int k]->DR H d J.ns la L->(∀n∈J.ns,∀y∈J.ns,n∈J.S y->y∈L n)->au H bl as bs->bs.length<=64->(∀B∈bs,B.length<=64)->k=(bs.map λB=>(B.length:Int)).sum->(∀bb H',Kp [] H H'->(bi J bs->bb=true)->Q (.bl bb) H')->dN vs H Q u_3
abbrev zHk:Stmt:=top 60
theorem zDx:ag ["_law_behind_here","_law_benches","_law_rows","_law_length","_law_gone","_law_row","_law_name","_law_after","_law_one"] ["_law_behind_here","_law_benches","_law_rows","_law_length"] (zAg zHk):=fnS
theorem ma(F:Fun K "_law_shows" "_law_shows" zHk f fd)(T:Txt K mg):ak P w K mg base CX0 2 f fd ["_law_behind_here","_law_benches","_law_rows","_law_length"] dN:=by
 refine F.ok zDx (λvs H Q E h=>?_) (λcdv A outer s H vs Q E hr h=>?_)
 .obtain ⟨d,bl,k,J,as,bs,la,L,rfl,_⟩:=h;rfl
 .obtain ⟨d,bl,k,J,as,bs,la,L,rfl,D0,hLS,R,l64,r64,ek,kk⟩:=h;have hu:=zF2 hr
  refine⟨_,(zAc (psS (i:=4) zDx.nd (zAj zAb)) (zAc (zA7 qAc rfl (zAq (pv 2)) (pgN (i:=5) zDx.nd)
    (zAc (zBk (PW.pt (zEk (zBm (zBi (zAi zBg (by rfl) T.z_isinstance zAl (zAa (pv 5) (zAa (zBw (by rfl) T.z_list zCe (v:=.ty "list") rfl) zAb))))) (zDv (zAr (eg hr) (pv 5) (zAj zAb) (zAv _)))))
     (zAe (zAw zEs))
     zAs)
    (zAe (zA7 qAc rfl (zAq (pv 5)) (pgN (i:=6) zDx.nd)
     (zAc (zBk (PW.pt (zEk (zEg (zDa hu (pv 6) (pv 0))) (zDv (zAr zFw (pv 6) (pv 4) (by rfl)))))
      (zAe (zAw zEs))
      zAs)
     (zAe (zA2 (zD6 qAx qBz qB0 zCb (pv 4) (zAa (pv 6) zAb)))))))))
   (zAc (zA7 qAc rfl (iN rfl T.z_zip (zAa (pv 2) (zAa (zB1 zCi (pv 2) (zCd zAd) zCr) zAb))) (zIv rfl (zBf (pgN (i:=5) zDx.nd) (zBf (pgN (i:=7) zDx.nd) zD5)))
    (zAe (zA7 qAc rfl (zAq (pv 5)) (pgN (i:=8) zDx.nd)
     (zAe (zBk (zAr (zEt hr) (zBn rfl (zBp (sc:=zAg zHk) rfl (by decide +kernel)) (ah.own (x:= "_law_other") (dtk (i:=0) rfl (dtk (i:=8) rfl ah.nil))) (zAq (pv 7)) (fun _ _ _ _=>(pgB (i:=0))) (fun _ _ _ _=>(zCl (zEg (zDa hu (pv 0) (zB8 hu (pv 1) (pv 2) (fun _ _=>rfl)))))) (fun _ _ _ _=>(pv 0))) (zAj zAb) (zAv _))
      (zAe (zAw zEs))
      zAs)))))
   (zAe (zAw (zCs zD8 (zAi (zF8 rfl) (by rfl) T.z_sum dJ (zAa (zBn rfl (zBp (sc:=zAg zHk) rfl (by decide +kernel)) (ah.own (x:="_law_row") (dtk (i:=1) rfl ah.nil)) (zAq (pv 2)) (λ_ _ _ _=>(pgB (i:=0))) (λ_ _ _ _=>zCm) (λ_ _ _ _=>(zAn zBr (zAn zE9 (zAn zCy (zAi (zC3 (K:=K)) (by rfl) T.z_len zBy (zAa (pv 0) zAb)) (pv 1)) zAd) (pv 1)))) zAb)) (pv 3) (zAv _))))))),?_⟩
  refine bE ?_;intro _ _ _ _;have no:∀{H':Hp},Kp [] H H'->¬bi J bs->Q (.bl false) H':=λk' n=>kk false _ k' λg=>absurd g n
  have gl:∀i p B,bs[i]?=some B->((bs.take i).flatten++B.take p).length<=64*65:=λi p B e=>by
   have h1:=jk (l:=bs.take i) λr hr=>r64 r (qBj hr);have h2:=r64 B (qAJ e);rw[qAU]at h1;rw[qAN,qAU];have:min i bs.length<=64:=by lia
   lia
  refine⟨(by walk_at"ln"),λgn hgn=>?_⟩;have fg:Fre H gn:=hgn;have k1:Kp [] H (upd H gn (.lst [])):=Kp.new Kp.refl fg;have e1:Txs (upd H gn (.lst [])) gn (bs.take 0).flatten:=ac;generalize upd H gn (.lst [])=H1 at k1 e1;refine⟨_,rfl,_,rfl,⟨_,SqL.of (k1 _ _ R.top (by simp))⟩,zA3 (xs:=as.map V.ref) (λi σ H2=>(∃o5 o6 o7 o8:Option V,σ=[some (.ref d),some (.int 1),some (.ref bl),some (.int k),some (.ref gn),o5,o6,o7,o8])/\Kp [] H H2/\Txs H2 gn (bs.take i).flatten/\∀B∈bs.take i,∀x∈B,x∈J.ns) ⟨⟨_,_,_,_,rfl⟩,k1,e1,(λ_ h=>by simp at h)⟩ (λi σ H2 _ ⟨_,k2,_⟩=>SqL.of (k2 _ _ R.top (by simp))) ?_ ?_⟩
  .rintro i v σ H2 hv ⟨⟨o5,o6,o7,o8,rfl⟩,k2,h2,n2⟩;refine bG ?_;intro _ _
   have hi:i<bs.length:=by
    have:=(qAL.mp hv).1;rw[qAD,R.len]at this;exact this
   obtain⟨a,B,ea,eB,ev,ha⟩:=R.at hi;rw[ev]at hv
   cases hv
   have mB:=qAJ eB;have ha2:=k2 _ _ ha (by simp);refine⟨_,rfl,_,_,_,_,rfl,ao.lst ha2,zA1,_,rfl,aw ?_⟩;refine⟨_,rfl,(by walk_at"ln"),λz hz=>?_⟩;have kz:Kp [] H2 (upd H2 z (.lst [])):=Kp.new Kp.refl hz;have ez:upd H2 z (.lst []) z=some (.lst []):=ac;have hg3:=kz _ _ h2 (by simp);generalize upd H2 z (.lst [])=H3 at kz ez hg3;have k3:=k2.trans kz;refine zD9 (SqL.of (kz _ _ ha2 (by simp))) (SqL.of ez) λbb hbb=>⟨_,rfl,aA (λc=>no k3 λG=>G.ne B mB (qCd.mp (hbb.mp c))) (λc=>?_)⟩;have ha3:=k3 _ _ ha (by simp);refine⟨_,rfl,_,rfl,⟨_,SqL.of ha3⟩,zA3 (xs:=B.map V.str) (λp σ H4=>(∃o6:Option V,σ=[some (.ref d),some (.int 1),some (.ref bl),some (.int k),some (.ref gn),some (.ref a),o6,o7,o8])/\Kp [] H H4/\Txs H4 gn ((bs.take i).flatten++B.take p)/\∀x∈B.take p,x∈J.ns) ⟨⟨_,rfl⟩,k3,by rw[qC6,qAm];exact hg3,(λ_ h=>by simp at h)⟩ (λp σ H4 _ ⟨_,k4,_⟩=>SqL.of (k4 _ _ ha (by simp))) ?_ ?_⟩
   .rintro p v σ H4 hv ⟨⟨o6,rfl⟩,k4,h4,n4⟩;refine bG ?_;intro _ _;obtain⟨x,ex,rfl⟩:=zA9 hv;have mx:=qAJ ex;refine⟨_,rfl,_,rfl,_,_,rfl,aH.k (k:=Sum.inr x) (k4 _ _ D0.top (by simp)),_,rfl,?_⟩;rw[zJv]
    by_cases xn:x∈J.ns
    .rw [qAV xn];refine aw ?_;refine⟨_,rfl,_,rfl,_,_,rfl,.inl (SqL.of h4),rfl,zDd _,_,rfl,?_⟩;rw[qAB qAd,zH5]
     by_cases xg:x∈(bs.take i).flatten++B.take p
     .rw [qAV xg];exact no k4 λG=>pT G.nd eB ex xg
     .rw [qAZ xg];refine aw ?_;have gl:=gl i p B eB;refine⟨_,rfl,.inl ⟨rfl,_,SqL.of h4⟩,_,rfl,_,_,_,rfl,rfl,h4,by rw[qAD,qAK];lia,⟨_,rfl⟩,Kp.new k4 fg,?_,λy hy=>?_⟩
      .show upd _ gn _ gn=some (.lst (((bs.take i).flatten++B.take (p+1)).map V.str));rw[ac,zAk ex,<-qBK,qAP (l₁:=(bs.take i).flatten++B.take p)];rfl
      .rw [zAk ex]at hy;rcases qAR.mp hy with z|z
       .exact n4 y z
       .rw [qAO.mp z];exact xn
    .rw [qAZ xn];exact no k4 λG=>xn (G.ns B mB x mx)
   .rintro σ H4 ⟨⟨o6,rfl⟩,k4,h4,n4⟩;rw[qAD,qAg]at h4 n4;refine⟨⟨_,_,_,_,rfl⟩,k4,?_,λB' hB'=>?_⟩
    .rw [zAk eB,qBn];simpa using h4
    .rw [zAk eB]at hB';rcases qAR.mp hB' with z|z
     .exact n2 B' z
     .rw [qAO.mp z];exact n4
  rintro σ H2 ⟨⟨o5,o6,o7,o8,rfl⟩,k2,_,n2⟩;rw[qAD,R.len,qAg]at n2;refine⟨_,rfl,_,rfl,_,rfl,_,_,rfl,SqL.of (k2 _ _ R.top (by simp)),λsl hsl=>?_⟩;rw[zF3 _ (by decide)];have es:(as.map V.ref).drop (1:Int).toNat=(as.drop 1).map V.ref:=by rw[qBl];rfl
  rw[es];have k3:Kp [] H2 (upd H2 sl (.lst ((as.drop 1).map V.ref))):=Kp.new Kp.refl hsl;have e3:upd H2 sl (.lst ((as.drop 1).map V.ref)) sl=some (.lst ((as.drop 1).map V.ref)):=ac;generalize upd H2 sl (.lst ((as.drop 1).map V.ref))=H3 at k3 e3;have K3:=k2.trans k3;refine⟨bl,sl,rfl,⟨_,SqL.of (K3 _ _ R.top (by simp))⟩,⟨_,SqL.of e3⟩,dG (xs:=as.map V.ref) (ys:=(as.drop 1).map V.ref) (λi σ H4=>(∃o5 o6 o7 o8:Option V,σ=[some (.ref d),some (.int 1),some (.ref bl),some (.int k),some (.ref gn),o5,o6,o7,o8])/\Kp [] H3 H4) ⟨⟨_,_,_,_,rfl⟩,Kp.refl⟩ (λi σ H4 ⟨_,k4⟩=>⟨SqL.of ((K3.trans k4) _ _ R.top (by simp)),SqL.of (k4 _ _ e3 (by simp))⟩) ?_ ?_⟩
  .rintro i v1 v2 σ H4 t hv1 hv2 ⟨⟨o5,o6,o7,o8,rfl⟩,k4⟩ ht
   have hi:i<bs.length:=by
    have:=(qAL.mp hv1).1;rw[qAD,R.len]at this;exact this
   have hi1:i+1<bs.length:=by
    have:=(qAL.mp hv2).1;rw[qAD,qAz,R.len]at this;lia
   obtain⟨a,B,ea,eB,ev,ha⟩:=R.at hi;obtain⟨a',B',ea',eB',ev',ha'⟩:=R.at hi1;rw[ev]at hv1
   cases hv1
   have e2:((as.drop 1).map V.ref)[i]?=some (.ref a'):=by
    rw[qAY,qCL,qCs,ea'];rfl
   rw[e2]at hv2
   cases hv2
   have kt:Kp [] H4 (upd H4 t (.tup [.ref a,.ref a'])):=Kp.new Kp.refl ht;refine⟨_,_,rfl,.inl (.inl ac),rfl,_,_,rfl,_,_,rfl,rfl,?_⟩;generalize upd H4 t (.tup [.ref a,.ref a'])=H5 at kt;have K5:=(K3.trans k4).trans kt;have ha5:=K5 _ _ ha (by simp);have mB:=qAJ eB;have mB':=qAJ eB';refine⟨_,rfl,_,rfl,⟨_,SqL.of ha5⟩,zA3 (xs:=B.map V.str) (λp σ H6=>(∃o8:Option V,σ=[some (.ref d),some (.int 1),some (.ref bl),some (.int k),some (.ref gn),some (.ref a),o6,some (.ref a'),o8])/\Kp [] H3 H6) ⟨⟨_,rfl⟩,k4.trans kt⟩ (λp σ H6 _ ⟨_,k6⟩=>SqL.of ((K3.trans k6) _ _ ha (by simp))) ?_ ?_⟩
   .rintro p v σ H6 hv ⟨⟨o8,rfl⟩,k6⟩;obtain⟨x,ex,rfl⟩:=zA9 hv;have mx:=qAJ ex;have xn:=n2 B mB x mx;have K6:=K3.trans k6;have D6:=D0.kp0 K6;have ha6:=K6 _ _ ha' (by simp);refine⟨_,rfl,_,rfl,⟨_,SqL.of ha6⟩,λY hY=>zBt (B'.map V.str) (λm ys τ H7=>∃zs:List Str,(∃o0,τ=[o0,some (.ref d),some (.str x)])/\ys=zs.map V.str/\zs.length<=m/\(bi J bs->zs=[])/\H7=upd H6 Y (.lst ys)) ⟨[],⟨_,rfl⟩,rfl,qAG _,λ_=>rfl,rfl⟩ (λm ys τ H7 ⟨_,_,_,_,_,z⟩=>by subst z;exact SqL.of ((Kp.new (M:=[]) Kp.refl hY) _ _ ha6 (by simp))) ?_ ?_⟩
    .rintro m v ys τ H7 hv ⟨zs,⟨o0,rfl⟩,rfl,zl,zg,rfl⟩;obtain⟨y,ey,rfl⟩:=zA9 hv;have my:=qAJ ey;have yn:=n2 B' mB' y my;have ml:=(qAL.mp ey).1;have b64:=r64 B' mB';have D7:=D6.kp0 (Kp.new (l:=Y) (o:=.lst (zs.map V.str)) Kp.refl hY);obtain⟨o,g1,g2⟩:=zEm (D7.row x xn) y;refine⟨_,rfl,_,rfl,_,rfl,_,_,rfl,D7.get xn,_,o,rfl,g1,_,rfl,?_⟩;rw[g2]
     by_cases yl:y∈L x
     .rw [qAV yl];exact aw ⟨zs,⟨_,rfl⟩,rfl,by lia,zg,rfl⟩
     .rw [qAZ yl];exact⟨_,rfl,ac,by rw[qAD,qAK];lia,zs++[y],⟨_,rfl⟩,by rw[qAP];rfl,by rw[qAN,qAn];lia,λG=>absurd (hLS x xn y yn (G.nx i B B' eB eB' x mx y my)) yl,zB7⟩
    .rintro ys τ H7 ⟨zs,_,rfl,zl,zg,rfl⟩;have k7:Kp [] H6 (upd H6 Y (.lst (zs.map V.str))):=Kp.new Kp.refl hY;have e7:upd H6 Y (.lst (zs.map V.str)) Y=some (.lst (zs.map V.str)):=ac;generalize upd H6 Y (.lst (zs.map V.str))=H7 at k7 e7;refine⟨(by walk_at"ln"),λq hq=>?_⟩;have k8:Kp [] H7 (upd H7 q (.lst [])):=Kp.new Kp.refl hq;refine neR (SqL.of (k8 _ _ e7 (by simp))) (SqL.of ac) λbb hbb=>⟨_,rfl,aA (λc=>no ((K6.trans k7).trans k8) λG=>hbb.mp c (by rw[zg G];rfl)) (λc=>⟨⟨_,rfl⟩,(k6.trans k7).trans k8⟩)⟩
   .rintro σ H6 ⟨⟨o8,rfl⟩,k6⟩;exact⟨⟨_,_,_,_,rfl⟩,k6⟩
  rintro i σ H4 _ ⟨⟨o5,o6,o7,o8,rfl⟩,k4⟩;have K4:=K3.trans k4;have top4:=K4 _ _ R.top (by simp);refine⟨_,rfl,_,rfl,⟨_,SqL.of top4⟩,λY hY=>zBc (as.map V.ref) (λm ys τ H5=>(∃o0,τ=[o0,some (.int 1)])/\ys=(((bs.take m).map λB=>(B.length:Int)).map V.int)/\H5=upd H4 Y (.lst ys)) ⟨⟨_,rfl⟩,rfl,rfl⟩ (λm ys τ H5 ⟨_,_,z⟩=>by subst z;exact SqL.of ((Kp.new (M:=[]) Kp.refl hY) _ _ top4 (by simp))) ?_ ?_⟩
  .rintro m v ys τ H5 hv ⟨⟨o0,rfl⟩,rfl,rfl⟩
   have hi:m<bs.length:=by
    have:=(qAL.mp hv).1;rw[qAD,R.len]at this;exact this
   obtain⟨a,B,ea,eB,ev,ha⟩:=R.at hi;rw[ev]at hv
   cases hv
   have ha5:=(Kp.new (M:=[]) (l:=Y) (o:=.lst (((bs.take m).map λB=>(B.length:Int)).map V.int)) Kp.refl hY) _ _ (K4 _ _ ha (by simp)) (by simp);refine⟨_,rfl,_,_,rfl,.inl (SqL.of ha5),_,rfl,_,_,rfl,rfl,_,_,rfl,rfl,_,rfl,_,_,rfl,rfl,⟨by decide,by decide +kernel⟩,ac,?_,⟨_,rfl⟩,?_,zB7⟩
   .rw [qAD,qAD,qAU,qAK];lia
   .rw [zAk eB,qAP,qAP,qAD];show _++[V.int (((B.length:Int)+1-1) / 1)]=_++[V.int (B.length:Int)];rw[Int.add_sub_cancel,Int.ediv_one]
  .rintro ys τ H5 ⟨_,rfl,rfl⟩;rw[qAD,R.len,qAg];have k5:Kp [] H4 (upd H4 Y (.lst ((bs.map λB=>(B.length:Int)).map V.int))):=Kp.new Kp.refl hY;have e5:upd H4 Y (.lst ((bs.map λB=>(B.length:Int)).map V.int)) Y=some (.lst ((bs.map λB=>(B.length:Int)).map V.int)):=ac;generalize upd H4 Y (.lst ((bs.map λB=>(B.length:Int)).map V.int))=H5 at k5 e5;refine⟨Y,_,rfl,SqL.of e5,_,rfl,rfl,?_⟩;rw[<-ek,qAV rfl];exact kk true H5 (K4.trans k5) λ_=>rfl
end
end My
namespace L2
open PySem PySem.Spec PyProof.Rows
open AutoSeq1 (wpAny_loadPart')
theorem fY(a:Addr)(oa:Obj)(ca:oa.cls= .type "dict")(b:Str)(u:Tok) :
  Meets (Builtin.«dict.__ne__» ⟨[.ref a,.str b u],[]⟩) (λ_ R s=>s.heap.get? a=some oa/\R (.ok (.ret .notImplemented)) s) :=
 .of_wp λP w A R s ⟨ha,q⟩=>by
  have ta:s.TypeIs (.ref a) "dict":= ⟨_,ha,ca⟩;unfold Builtin.«dict.__ne__»;show wpAny _ _ (Builtin.Dict.dictSlotArgs "__ne__" ⟨[.ref a,.str b u],[]⟩ >>= _) _ _ s;unfold Builtin.Dict.dictSlotArgs;refine qAA (qAA (wpAny_notOrdered_dict ta ?_));show wpAny _ _ (pure ((Value.ref a,[Value.str b u]):Value×List Value) >>= _) _ _ s;refine qAA (qAE (qAE ?_));refine qAA (qCP (qBp s b u) qC4 ?_);rw[qAC (by simp)];exact qAA (qBD (qAE ⟨_,rfl,q⟩))
theorem fT(b:Str)(u:Tok)(l:Addr)(oa:Obj)(es:Array DictEntry)(ep:Nat)(da:oa.data= .dict es ep) :
  Meets (Builtin.«str.__ne__» ⟨[.str b u,.ref l],[]⟩) (λ_ R s=>s.heap.get? l=some oa/\R (.ok (.ret .notImplemented)) s):=by
 obtain⟨c,dd,data,sl⟩:=oa;simp only at da;subst da;exact .of_wp λprog w A R s h=>by obtain⟨hp,g,d,tk,os⟩:=s;obtain⟨hl,h⟩:=h;wp_walk using wpAny_loadPart' hl,qB4 hl;exact⟨_,rfl,h⟩
theorem fA{A:Around}{s:Shared}{l:Addr}{oa:Obj}{es:Array DictEntry}{ep:Nat}(b:Str)(u:Tok)(hl:s.heap.get? l=some oa)(ca:oa.cls= .type "dict")(da:oa.data= .dict es ep)(hu:A.units<cLine):SeqAt.RcNeAt A s (.ref l) (.str b u) true:=λprog w E Q h=>
 SeqAt.rc_ne_decline_or (k:=false) ⟨_,hl,ca⟩ (qBp s b u) (by decide) qC4 F.slot_dict_ne F.slot_str_ne_refl
  (λ_ hq=>qBT F.slot_dict_ne ⟨_,hl,ca⟩ F.entry_dict_ne (F.args_dict_ne_2 _ _) (fY l oa ca b u) ⟨hl,hq⟩)
  (λ_ hq=>qBT F.slot_str_ne_refl (qBp s b u) F.entry_str_ne (F.args_str_ne_2 _ _) (fT b u l oa es ep da) ⟨hl,hq⟩)
  (λ_ hq=>qCM (rfl:isSame (.ref l) (.str b u)=pure false) hq) (.inr hu) h
section
variable{X:Cx}
theorem qy(hu:X.A.units<cLine):OpR X (compareOp .NotEq) (λx y H Q=>∃z,y= .str z/\af H x/\Q (.bl (!decide (x= .str z))) H):=by
 intro pins s σ H x y v u Q I rx ry h;obtain⟨z,rfl,t,q⟩:=h;rcases t with⟨x,rfl⟩|rfl|⟨b,rfl⟩|⟨i,rfl⟩|⟨a,rfl,t⟩
 .exact zFu pins s σ H _ _ v u Q I rx ry ⟨rfl,q⟩
 .exact zFu pins s σ H _ _ v u Q I rx ry ⟨rfl,q⟩
 .exact zFu pins s σ H _ _ v u Q I rx ry ⟨rfl,q⟩
 .exact zFu pins s σ H _ _ v u Q I rx ry ⟨rfl,q⟩
 .cases rx
  obtain⟨tk,rfl⟩:=ry
  have q:Q (.bl true) H:=by
   rw[qAZ (λz=>nomatch z)]at q;exact q
  rcases t with⟨xs,t⟩|⟨xs,t⟩|⟨kvs,t⟩
  .obtain ⟨its,r,pl,hz⟩:=I.list (SqL.of t);exact SeqAt.RcNeAt.list_str z tk pl.isList hu X.prog X.w X.xe _ ⟨.bl true,H,I,rfl,q⟩
  .obtain ⟨its,r,pl,hz⟩:=I.tuple (SqT.of t);exact SeqAt.RcNeAt.tuple_str z tk (show s.heap.IsTuple a its.toArray from pl) hu X.prog X.w X.xe _ ⟨.bl true,H,I,rfl,q⟩
  .obtain ⟨z1,n1,vs,r1,o1,es,ep,g1,c1,d1,k1,p1,nd1⟩:=bX I.hok (show Rd H a (.dK kvs)from .inl t);exact fA z tk g1 c1.1 d1 hu X.prog X.w X.xe _ ⟨.bl true,H,I,rfl,q⟩
end
end L2
namespace My
open PySem L2
variable{H:Hp}{v:V}
section
variable{K:PySem.W.Frag}
theorem lS:PySem.W.kitOne K (.type "NoneType") (.type "str")=some false:=by rfl
theorem mG:PySem.W.kitOne K (.type "bool") (.type "str")=some false:=by rfl
theorem mD:PySem.W.kitOne K (.type "int") (.type "str")=some false:=by rfl
theorem mH:PySem.W.kitOne K (.type "list") (.type "str")=some false:=by rfl
theorem m7:PySem.W.kitOne K (.type "tuple") (.type "str")=some false:=by rfl
theorem nE:PySem.W.kitOne K (.type "dict") (.type "str")=some false:=by rfl
theorem tq:PySem.W.kitOne K (.type "NoneType") (.type "list")=some false:=by rfl
theorem sd:PySem.W.kitOne K (.type "bool") (.type "list")=some false:=by rfl
theorem rE:PySem.W.kitOne K (.type "int") (.type "list")=some false:=by rfl
theorem tD:PySem.W.kitOne K (.type "str") (.type "list")=some false:=by rfl
theorem sj:PySem.W.kitOne K (.type "tuple") (.type "list")=some false:=by rfl
theorem sI:PySem.W.kitOne K (.type "dict") (.type "list")=some false:=by rfl
theorem sT:PySem.W.kitOne K (.type "NoneType") (.type "tuple")=some false:=by rfl
theorem sy:PySem.W.kitOne K (.type "bool") (.type "tuple")=some false:=by rfl
theorem sS:PySem.W.kitOne K (.type "int") (.type "tuple")=some false:=by rfl
theorem rV:PySem.W.kitOne K (.type "str") (.type "tuple")=some false:=by rfl
theorem sL:PySem.W.kitOne K (.type "list") (.type "tuple")=some false:=by rfl
theorem rP:PySem.W.kitOne K (.type "dict") (.type "tuple")=some false:=by rfl
end
theorem ko{K:PySem.W.Frag}(h:af H v):∃t b,ao K H v t/\PySem.W.kitOne K t (.type "str")=some b/\(b=true↔∃x,v= .str x):=by
 rcases h with⟨x,rfl⟩|rfl|⟨x,rfl⟩|⟨x,rfl⟩|⟨a,rfl,⟨xs,h⟩|⟨xs,h⟩|⟨xs,h⟩⟩
 .exact ⟨_,true,ao.str x,zA1,by simp⟩
 .exact ⟨_,false,ao.non,lS,by simp⟩
 .exact ⟨_,false,ao.bl x,mG,by simp⟩
 .exact ⟨_,false,ao.int x,mD,by simp⟩
 .exact ⟨_,false,ao.lst h,mH,by simp⟩
 .exact ⟨_,false,ao.tup h,m7,by simp⟩
 .exact ⟨_,false,ao.dK h,nE,by simp⟩
theorem zG7{K:PySem.W.Frag}(h:zE8 H v):∃t,ao K H v t/\PySem.W.kitOne K t (.type "list")=some false:=by
 obtain⟨h,n⟩:=h;rcases h with⟨x,rfl⟩|rfl|⟨x,rfl⟩|⟨x,rfl⟩|⟨a,rfl,⟨xs,h⟩|⟨xs,h⟩|⟨xs,h⟩⟩
 .exact ⟨_,ao.str x,tD⟩
 .exact ⟨_,ao.non,tq⟩
 .exact ⟨_,ao.bl x,sd⟩
 .exact ⟨_,ao.int x,rE⟩
 .exact absurd h (n a xs rfl)
 .exact ⟨_,ao.tup h,sj⟩
 .exact ⟨_,ao.dK h,sI⟩
theorem Oth.is{K:PySem.W.Frag}(h:Oth H v):(∃t,ao K H v t/\PySem.W.kitOne K t (.type "tuple")=some false)\/∃a xs,v= .ref a/\H a=some (.tup xs)/\xs.length≠2:=by
 obtain⟨h,n⟩:=h;rcases h with⟨x,rfl⟩|rfl|⟨x,rfl⟩|⟨x,rfl⟩|⟨a,rfl,⟨xs,h⟩|⟨xs,h⟩|⟨xs,h⟩⟩
 .exact .inl ⟨_,ao.str x,rV⟩
 .exact .inl ⟨_,ao.non,sT⟩
 .exact .inl ⟨_,ao.bl x,sy⟩
 .exact .inl ⟨_,ao.int x,sS⟩
 .exact .inl ⟨_,ao.lst h,sL⟩
 .exact .inr ⟨a,xs,rfl,h,n a xs rfl h⟩
 .exact .inl ⟨_,ao.dK h,rP⟩
inductive aW(J:JR)(H:Hp)(v:V):Prop
 |mk:∀(t a:Addr)(as:List Addr) (bs:List (List Str)),v= .ref t->H t=some (.tup [.str "blocks",.ref a])->au H a as bs->bi J bs->aW J H v
theorem dE:∀{r r':List Str},r.map V.str=r'.map V.str->r=r'
 |[],[],_=>rfl
 |[],_::_,h=>nomatch h
 |_::_,[],h=>nomatch h
 |x::r,y::r',h=>by
  injection h with h1 h2;injection h1 with h1;rw[h1,dE h2]
theorem au.inj{a:Addr}{as as':List Addr}{bs bs':List (List Str)}(R:au H a as bs)(R':au H a as' bs'):bs=bs':=by
 have h1:as.map V.ref=as'.map V.ref:=by
  have:=R.top.symm.trans R'.top;injection this with this;injection this
 have l:bs.length=bs'.length:=by
  have:=qAl List.length h1;rw[qAD,qAD,R.len,R'.len]at this;exact this
 refine List.ext_getElem? λi=>?_
 by_cases hi:i<bs.length
 .obtain ⟨b,r,e1,e2,e3,h⟩:=R.at hi;obtain⟨b',r',e1',e2',e3',h'⟩:=R'.at (l▸hi);rw[h1,e3']at e3
  cases e3
  rw[h]at h';injection h' with h';injection h' with h';rw[e2,e2',dE h']
 .rw [qC0 (by lia),qC0 (by lia)]
def isS(v:V):Bool:=match v with
 | .str _=>true
 |_=>false
theorem ju :isS v=true↔∃x,v= .str x:=by
 cases v<;>simp[isS]
theorem jq:∀(ys:List V),(ys.filter λv=>!isS v)=[]->∃r:List Str,ys=r.map V.str
 |[],_=>⟨[],rfl⟩
 |y::ys,h=>by
  rw[qBF]at h
  cases c:isS y with
  |false=>rw[c]at h;simp at h
  |true=>
   rw[c]at h;obtain⟨x,rfl⟩:=ju.mp c;obtain⟨r,e⟩:=jq ys (by simpa using h);exact⟨x::r,by rw[e];rfl⟩
theorem qI(r:List Str):((r.map V.str).filter λv=>!isS v)=[]:=by
 rw[List.filter_eq_nil_iff];intro v hv;obtain⟨x,_,rfl⟩:=qAe.mp hv;simp[isS]
theorem ja :∀(xs:List V),(∀x∈xs,∃(b:Addr)(r:List Str),x= .ref b/\H b=some (.lst (r.map V.str))/\r.length<=64)->∃(as:List Addr) (rs:List (List Str)),xs=as.map V.ref/\as.length=rs.length/\(∀r∈rs,r.length<=64)/\∀(i:Nat)(a:Addr)(r:List Str),as[i]?=some a->rs[i]?=some r->H a=some (.lst (r.map V.str))
 |[],_=>⟨[],[],rfl,rfl,(λ_ h=>nomatch h),(λ_ _ _ h=>nomatch h)⟩
 |x::xs,h=>by
  obtain⟨b,r,rfl,hb,l⟩:=h x (by simp);obtain⟨as,rs,e,ll,hr,hh⟩:=ja xs λy hy=>h y (qAX _ hy);refine⟨b::as,r::rs,by rw[e];rfl,by simp[ll],λq hq=>?_,λi a q e1 e2=>?_⟩
  .rcases qAT.mp hq with z|z
   .rw [z];exact l
   .exact hr q z
  .cases i with
   |zero=>cases e1;cases e2;exact hb
   |succ i=>exact hh i a q e1 e2
section
variable{P:Program}{w:World}{K:PySem.W.Frag}{mg:Str->Option Value}{base:Heap}{C:Addr}
inductive bB(vs:List V)(H:Hp)(Q:VK)(u_3:XK):Prop
 |mk:∀(d:Addr)(v:V)(J:JR)(la:Str->Addr)(L:Str->List Str),vs=[.ref d,v]->DR H d J.ns la L->(∀n∈J.ns,∀y∈J.ns,n∈J.S y->y∈L n)->bt H v->(∀bb H',Kp [] H H'->(aW J H v->bb=true)->Q (.bl bb) H')->bB vs H Q u_3
abbrev zDu:Stmt:=top 72
theorem zFe:ag ["_law_behind_here","_law_paper","_law_row","_law_length"] ["_law_behind_here","_law_paper"] (zAg zDu):=fnS
theorem gA{f:Addr}{fd:FuncData}(F:Fun K "_law_is_paper" "_law_is_paper" zDu f fd)(T:Txt K mg)(C_shows:Cal P w K mg base "_law_shows" 2 ["_law_behind_here","_law_benches","_law_rows","_law_length"] dN):ak P w K mg base CX0 3 f fd ["_law_behind_here","_law_paper"] bB:=by
 refine F.ok zFe (λvs H Q E h=>?_) (λcdv A outer s H vs Q E hr h=>?_)
 .obtain ⟨d,v,J,la,L,rfl,_⟩:=h;rfl
 .obtain ⟨d,v,J,la,L,rfl,D0,hLS,hv,kk⟩:=h;have hu:=hu0 hr
  refine⟨_,(zAc (zBk (PW.pt (zEk (zBm (zBi (zAi zBg (by rfl) T.z_isinstance zAl (zAa (pv 1) (zAa (zBw (by rfl) T.z_tuple zGa (v:=.ty "tuple") rfl) zAb))))) (zEk (zAr zFu (zAi zAp (by rfl) T.z_len zBy (zAa (pv 1) zAb)) zAd (zAv _)) (zEk (zAr (qy hu) (zBd zDb (pv 1) zAd (λ_ _=>rfl)) zAu (zAv _)) (zDv (zBm (zBi (zAi zBg (by rfl) T.z_isinstance zAl (zAa (zBd zDb (pv 1) zAd (λ_ _=>rfl)) (zAa (zBw (by rfl) T.z_list zCe (v:=.ty "list") rfl) zAb)))))))))) (zAe (zAw zEs)) zAs) (zAc (zA7 qAc rfl (zAq (zBd zDb (pv 1) zAd (fun _ _=>rfl))) (pgN (i:=2) zFe.nd)
    (zAe (zBk (PW.pt (zEk (zBm (zBi (zAi zBg (by rfl) T.z_isinstance zAl (zAa (pv 2) (zAa (zBw (by rfl) T.z_list zCe (v:=.ty "list") rfl) zAb))))) (zDv (zAr (zEt hr) (zBn rfl (zBp (sc:=zAg zDu) rfl (by decide +kernel)) (ah.own (x:= "_law_name") ah.nil) (zAq (pv 2)) (fun _ _ _ _=>(pgB (i:=0))) (fun _ _ _ _=>(zCl (zBm (zBi (zAi (j4 (K:=K)) (by rfl) T.z_isinstance zAl (zAa (pv 0) (zAa (zBw (by rfl) T.z_str fj (v:=.ty "str") rfl) zAb))))))) (fun _ _ _ _=>(pv 0))) (zAj zAb) (zAv _)))))
     (zAe (zAw zEs))
     zAs)))
   (zAc (psS (i:=3) zFe.nd (zAi (zF8 rfl) (by rfl) T.z_sum dJ (zAa (zBn rfl (zBp (sc:=zAg zDu) rfl (by decide +kernel)) (ah.own (x:= "_law_row") ah.nil) (zAq (zBd zDb (pv 1) zAd (fun _ _=>rfl))) (fun _ _ _ _=>(pgB (i:=0))) (fun _ _ _ _=>zCm) (fun _ _ _ _=>(zAi (zC3 (K:=K)) (by rfl) T.z_len zBy (zAa (pv 0) zAb)))) zAb)))
   (zAe (zAw (zAh C_shows hr rfl (zAa (pv 0) (zAa zAd (zAa (zBd zDb (pv 1) zAd (λ_ _=>rfl)) (zAa (pv 3) zAb)))))))))),?_⟩
  refine bE ?_;intro _ _ _ _;have hz:=qAK;have no:∀{H':Hp},Kp [] H H'->¬aW J H v->Q (.bl false) H':=λk' n=>kk false _ k' λg=>absurd g n;have two:∀(t:Addr)(x y:V),v= .ref t->H t=some (.tup [x,y])->af H x->(x= .str "blocks"->af H y/\True)->True:=λ_ _ _ _ _ _ _=>trivial
  cases hv with
  |oth o=>
   have ng:¬aW J H v:=λ⟨t,a,as,bs,e,ht,_,_⟩=>o.2 t _ e ht rfl;rcases o.is (K:=K)with⟨t,ty,kt⟩|⟨a,xs,rfl,ha,n2⟩
   .exact ⟨_,rfl,_,_,_,_,rfl,ty,kt,_,rfl,no Kp.refl ng⟩
   .refine ⟨_,rfl,_,_,_,_,rfl,ao.tup ha,zA1,_,rfl,aw ?_⟩;refine⟨_,rfl,_,_,rfl,.inr (SqT.of ha),rfl,_,rfl,?_⟩;rw[qAZ (λz=>n2 (by injection z with z;lia))];exact no Kp.refl ng
  |odd t x n e ht wd th=>
   subst e
   have ng:¬aW J H (.ref t):=λ⟨t',a,as,bs,e,ht',_,_⟩=>by
    cases e;rw[ht]at ht';cases ht';exact(wd.2 _ rfl).1 rfl
   refine⟨_,rfl,_,_,_,_,rfl,ao.tup ht,zA1,_,rfl,aw ?_⟩;refine⟨_,rfl,_,_,rfl,.inr (SqT.of ht),rfl,_,rfl,aw ?_⟩;refine⟨_,rfl,_,_,_,_,rfl,rfl,SqT.of ht,rfl,_,rfl,wd.1,_,rfl,?_⟩;rw[qAZ (λz=>(wd.2 _ z).1 rfl)];exact no Kp.refl ng
  |num t x n e ht wd nb=>
   subst e;have nb':x≠ "blocks":= by rcases wd with rfl|rfl<;>decide
   have ng:¬aW J H (.ref t):=λ⟨t',a,as,bs,e,ht',_,_⟩=>by
    cases e;rw[ht]at ht';cases ht';exact nb' rfl
   refine⟨_,rfl,_,_,_,_,rfl,ao.tup ht,zA1,_,rfl,aw ?_⟩;refine⟨_,rfl,_,_,rfl,.inr (SqT.of ht),rfl,_,rfl,aw ?_⟩;refine⟨_,rfl,_,_,_,_,rfl,rfl,SqT.of ht,rfl,_,rfl,.inl ⟨x,rfl⟩,_,rfl,?_⟩;rw[qAZ (λz=>nb' (by injection z))];exact no Kp.refl ng
  |blk t b e ht hb=>
   subst e;refine⟨_,rfl,_,_,_,_,rfl,ao.tup ht,zA1,_,rfl,aw ?_⟩;refine⟨_,rfl,_,_,rfl,.inr (SqT.of ht),rfl,_,rfl,aw ?_⟩;refine⟨_,rfl,_,_,_,_,rfl,rfl,SqT.of ht,rfl,_,rfl,.inl ⟨_,rfl⟩,_,rfl,?_⟩;rw[qAV rfl];refine aw ?_
   cases hb with
   |no n=>
    obtain⟨ty,h1,h2⟩:=zG7 (K:=K) n
    exact⟨_,rfl,_,_,_,_,rfl,rfl,SqT.of ht,rfl,_,_,_,_,rfl,h1,h2,_,rfl,no Kp.refl λ⟨t',a,as,bs,e,ht',R,_⟩=>by
     cases e;rw[ht]at ht';cases ht';exact n.2 a _ rfl R.top⟩
   |lst a xs e ha l64 hx=>
    subst e;refine⟨_,rfl,_,_,_,_,rfl,rfl,SqT.of ht,rfl,_,_,_,_,rfl,ao.lst ha,zA1,_,rfl,aw ?_⟩
    have bad:∀{i:Nat}{x:V},xs[i]?=some x->(∀(b:Addr)(r:List Str),x= .ref b->H b≠some (.lst (r.map V.str)))->¬aW J H (.ref t):=λe n ⟨t',a',as,bs,e',ht',R,_⟩=>by
     cases e';rw[ht]at ht';cases ht'
     have:=ha.symm.trans R.top;injection this with this;injection this with this;rw[this]at e;obtain⟨b,r,_,_,e2,hb⟩:=R.of e;exact n b r e2 hb
    refine⟨_,rfl,_,_,_,_,rfl,rfl,SqT.of ht,rfl,_,rfl,⟨_,SqL.of ha⟩,zA3 (xs:=xs) (λi σ H2=>(∃o2 o3:Option V,σ=[some (.ref d),some (.ref t),o2,o3])/\Kp [] H H2/\∀x∈xs.take i,∃(b:Addr)(r:List Str),x= .ref b/\H b=some (.lst (r.map V.str))/\r.length<=64) ⟨⟨_,_,rfl⟩,Kp.refl,(λ_ h=>by simp at h)⟩ (λi σ H2 _ ⟨_,k2,_⟩=>SqL.of (k2 _ _ ha (by simp))) ?_ ?_⟩
    .rintro i v σ H2 hv ⟨⟨o2,o3,rfl⟩,k2,n2⟩;have mv:=qAJ hv
     cases hx v mv with
     |no n=>
      obtain⟨ty,h1,h2⟩:=zG7 (K:=K) (n.kp0 k2);exact⟨_,rfl,_,_,_,_,rfl,h1,h2,_,rfl,no k2 (bad hv λb r e=>n.2 b _ e)⟩
     |lst b ys e hb lb tb=>
      subst e;have hb2:=k2 _ _ hb (by simp);refine⟨_,rfl,_,_,_,_,rfl,ao.lst hb2,zA1,_,rfl,aw ?_⟩;refine⟨_,rfl,_,rfl,⟨_,SqL.of hb2⟩,λY hY=>zBt ys (λm zs τ H7=>(∃o0,τ=[o0])/\zs=(ys.take m).filter (λv=>!isS v)/\H7=upd H2 Y (.lst zs)) ⟨⟨_,rfl⟩,rfl,rfl⟩ (λm zs τ H7 ⟨_,_,z⟩=>by subst z;exact SqL.of ((Kp.new (M:=[]) Kp.refl hY) _ _ hb2 (by simp))) ?_ ?_⟩
      .rintro m u zs τ H7 hu' ⟨⟨o0,rfl⟩,rfl,rfl⟩;have k7:Kp [] H2 (upd H2 Y (.lst ((ys.take m).filter (λv=>!isS v)))):=Kp.new Kp.refl hY;obtain⟨ty,bb,h1,h2,h3⟩:=ko (K:=K) (zCu (tb u (qAJ hu')) (k2.trans k7))
       have ebb:bb=isS u:=by
        rw[qB5,h3,ju]
       subst ebb;have ml:=(qAL.mp hu').1;have h6:=qBe (λv=>!isS v) (ys.take m);rw[qAU]at h6;refine⟨_,rfl,_,_,_,_,rfl,h1,h2,_,rfl,?_⟩
       cases c:isS u with
       |true=>exact⟨⟨_,rfl⟩,by rw[zAk hu',qBY,qBF,c];simp,rfl⟩
       |false=>exact⟨_,rfl,ac,by lia,⟨_,rfl⟩,by rw[zAk hu',qBY,qBF,c];rfl,zB7⟩
      .rintro zs τ H7 ⟨_,rfl,rfl⟩;rw[qAg];obtain⟨H7,e7,k7,h7⟩:=aG (o:=.lst (ys.filter (λv=>!isS v))) hY;rw[e7];refine⟨(by walk_at"ln"),λq hq=>?_⟩;obtain⟨H8,e8,k8,h8⟩:=aG (o:=.lst []) hq;rw[e8];have K8:=k2.trans (k7.trans k8);refine neR (SqL.of (k8 _ _ h7 (by simp))) (SqL.of h8) λbb hbb=>⟨_,rfl,aA (λc=>no K8 (bad hv λb' r e h=>?_)) (λc=>⟨⟨_,_,rfl⟩,K8,λx hx'=>?_⟩)⟩
       .cases e
        rw[hb]at h;injection h with h;injection h with h;exact hbb.mp c (by rw[h];exact qI r)
       .rw [zAk hv]at hx';rcases qAR.mp hx' with z|z
        .exact n2 x z
        .obtain ⟨r,er⟩:=jq ys (by by_cases z:(ys.filter λv=>!isS v)=[];exact z;exact absurd (hbb.mpr z) c);rw[er]at hb lb;exact⟨b,r,qAO.mp z,hb,by rw[qAD]at lb;exact lb⟩
    rintro σ H2 ⟨⟨o2,o3,rfl⟩,k2,n2⟩;rw[qAg]at n2;obtain⟨as,bs,rfl,ll,r64,rr⟩:=ja xs n2;have R:au H a as bs:=⟨ha,ll,rr⟩;rw[qAD,ll]at l64;have ht2:=k2 _ _ ht (by simp);have R2:=R.kp k2;refine⟨_,rfl,_,_,_,_,rfl,rfl,SqT.of ht2,rfl,_,rfl,⟨_,SqL.of R2.top⟩,λY hY=>zBc (as.map V.ref) (λm ys τ H5=>(∃o0,τ=[o0])/\ys=(((bs.take m).map λB=>(B.length:Int)).map V.int)/\H5=upd H2 Y (.lst ys)) ⟨⟨_,rfl⟩,rfl,rfl⟩ (λm ys τ H5 ⟨_,_,z⟩=>by subst z;exact SqL.of ((Kp.new (M:=[]) Kp.refl hY) _ _ R2.top (by simp))) ?_ ?_⟩
    .rintro m v ys τ H5 hv ⟨⟨o0,rfl⟩,rfl,rfl⟩;obtain⟨b,B,_,eB,rfl,hb⟩:=R2.of hv;have ml:=(qAL.mp eB).1;have hb5:=(Kp.new (M:=[]) (l:=Y) (o:=.lst (((bs.take m).map λB=>(B.length:Int)).map V.int)) Kp.refl hY) _ _ hb (by simp);refine⟨_,rfl,_,_,rfl,.inl (SqL.of hb5),ac,?_,⟨_,rfl⟩,?_,zB7⟩
     .rw [qAD,qAD,qAU];lia
     .rw [zAk eB,qAP,qAP,qAD];rfl
    .rintro ys τ H5 ⟨_,rfl,rfl⟩;rw[qAD,ll,qAg];obtain⟨H5,e5,k5,h5⟩:=aG (o:=.lst ((bs.map λB=>(B.length:Int)).map V.int)) hY;rw[e5];have K5:=k2.trans k5;refine⟨Y,_,rfl,SqL.of h5,?_⟩;refine⟨_,rfl,_,rfl,_,_,_,_,rfl,rfl,SqT.of (K5 _ _ ht (by simp)),rfl,_,rfl,d,a,_,J,as,bs,la,L,rfl,D0.kp0 K5,hLS,R.kp K5,l64,r64,rfl,λbb H6 k6 g=>kk bb H6 (K5.trans k6) λ⟨t',a',as',bs',e',ht',R',G'⟩=>g ?_⟩
     cases e';rw[ht]at ht';cases ht'
     rw[R.inj R'];exact G'
end
end My
namespace L2
open PySem PySem.Spec PyProof.Rows
def zH3(v:V)(ns:List Str):Bool:=match v with
 | .str x=>decide (x∈ns)
 |_=>false
end L2
namespace My
open PySem L2
variable{P:Program}{w:World}{K:PySem.W.Frag}{mg:Str->Option Value}{base:Heap}{C:Addr}
variable{H H':Hp}{v:V}{ns:List Str}{f Cp p:Addr}{fd:FuncData}{J:JR}{as:List Addr}
theorem mK{K:PySem.W.Frag}(h:af H v):(∃x,v= .str x)\/(∃t,ao K H v t/\PySem.W.kitOne K t (.type "str")=some false/\∀ns,zH3 v ns=false):=by
 rcases h with h|rfl|⟨b,rfl⟩|⟨i,rfl⟩|⟨a,rfl,⟨xs,h⟩|⟨xs,h⟩|⟨xs,h⟩⟩
 .exact .inl h
 .exact .inr ⟨_,ao.non,lS,λ_=>rfl⟩
 .exact .inr ⟨_,ao.bl b,mG,λ_=>rfl⟩
 .exact .inr ⟨_,ao.int i,mD,λ_=>rfl⟩
 .exact .inr ⟨_,ao.lst h,mH,λ_=>rfl⟩
 .exact .inr ⟨_,ao.tup h,m7,λ_=>rfl⟩
 .exact .inr ⟨_,ao.dK h,nE,λ_=>rfl⟩
theorem jQ(h:zH3 v ns=true):∃x,v= .str x/\x∈ns:=by
 cases v with
 |str x=>exact⟨x,rfl,qBm h⟩
 |_=>cases h
theorem kE{st:Addr}{B B':List Str}(h:af H v)(k:Kp [st] H H')(hs:aK H st B)(hs':aK H' st B'):af H' v:=by
 rcases h with h|h|h|h|⟨a,e,h⟩
 .exact .inl h
 .exact .inr (.inl h)
 .exact .inr (.inr (.inl h))
 .exact .inr (.inr (.inr (.inl h)))
 .by_cases z:a=st
  .subst z;exact .inr (.inr (.inr (.inr ⟨a,e,.inr (.inr ⟨_,hs'⟩)⟩)))
  .rcases h with⟨xs,h⟩|⟨xs,h⟩|⟨xs,h⟩
   .exact .inr (.inr (.inr (.inr ⟨a,e,.inl ⟨xs,k _ _ h (nm1 z)⟩⟩)))
   .exact .inr (.inr (.inr (.inr ⟨a,e,.inr (.inl ⟨xs,k _ _ h (nm1 z)⟩)⟩)))
   .exact .inr (.inr (.inr (.inr ⟨a,e,.inr (.inr ⟨xs,k _ _ h (nm1 z)⟩)⟩)))
inductive uD(ns B:List Str)(H:Hp)(v:V):Prop
 |mk:∀(r:Addr)(row:List Str),v= .ref r->H r=some (.lst (row.map V.str))->row≠[]->(∀x∈row,x∈ns)->(B++row).Nodup->uD ns B H v
section
inductive ci(K:PySem.W.Frag)(vs:List V)(H:Hp)(Q:VK)(u_3:XK):Prop
 |mk:∀(v:V)(l:Addr)(ns:List Str),vs=[v,.ref l]->af H v->(SqL K H l (ns.map V.str)\/SqT K H l (ns.map V.str))->Q (.bl (zH3 v ns)) H->ci K vs H Q u_3
theorem pW(F:Fun K "is_one_of" "is_one_of" zD0 f fd)(T:Txt K mg):ak P w K mg base CX0 1 f fd ["thing","names"] (ci K):=by
 refine F.ok zGp (λvs H Q E h=>?_) (λcdv A outer s H vs Q E hr h=>?_)
 .obtain ⟨v,l,ns,rfl,_⟩:=h;rfl
 .obtain ⟨v,l,ns,rfl,hv,hl,k⟩:=h;refine⟨_,(zAe (zAw (dL (zAi zBg (by rfl) T.z_isinstance zAl (zAa (pv 0) (zAa (zBw (by rfl) T.z_str fj (v:=.ty "str") rfl) zAb))) (cu (zCs zFw (pv 0) (pv 1) (by rfl)))))),?_⟩;rcases mK (K:=K) hv with⟨x,rfl⟩|⟨t,ty,kt,e⟩
  .refine ⟨_,rfl,_,_,_,_,rfl,ao.str x,zA1,_,rfl,bp ?_⟩;refine⟨_,rfl,_,rfl,_,_,rfl,hl,rfl,zDd ns,?_⟩;rw[qAB (by decide),zH5];exact k
  .refine ⟨_,rfl,_,_,_,_,rfl,ty,kt,_,rfl,aw ?_⟩;rw[e]at k;exact k
inductive iI(C:Addr)(vs:List V)(H:Hp)(Q:VK)(u_3:XK):Prop
 |mk:∀(j r:Addr)(J:JR)(x:Str)(row:List Str),vs=[.ref j,.str x,.ref r]->aD C H j J->x∈J.ns->Txs H r row->row.length<=64->(∀y∈row,y∈J.ns)->(∀bb H',Kp [] H H'->(bb=true↔∀y∈row,x∈J.S y)->Q (.bl bb) H')->iI C vs H Q u_3
theorem qJ(F:Fun K "has_all_behind" "has_all_behind" zBl f fd)(T:Txt K mg)(U:JC K mg C)(M_is_ahead:Mth P w K mg base C "is_ahead" 3 ["self","one","other"] (bc C)):ak P w K mg base CX0 4 f fd ["jobs","name","row"] (iI C):=by
 refine F.ok zDs (λvs H Q E h=>?_) (λcdv A outer s H vs Q E hr h=>?_)
 .obtain ⟨j,r,J,x,row,rfl,_⟩:=h;rfl
 .obtain ⟨j,r,J,x,row,rfl,A0,hx,hrw,lr,ok,k⟩:=h;refine⟨_,(zAe (zAw (zAi (zE6 _ rfl) (by rfl) T.z_all zI3 (zAa (zBn rfl (zBp (sc:=zAg zBl) rfl (by decide +kernel)) (ah.own (x:="other") (dtk (i:=1) rfl (dtk (i:=0) rfl ah.nil))) (zAq (pv 2)) (λ_ _ _ _=>(pgB (i:=0))) (λ_ _ _ _=>zCm) (λC₀ s₀ H₀ ex=>(gL M_is_ahead U.cl hr (pv 2) (zAa (pv 1) (zAa (pv 0) zAb))))) zAb)))),?_⟩
  refine⟨_,rfl,_,rfl,⟨_,SqL.of hrw⟩,λB hB=>zBc (row.map V.str) (λi ys τ H3=>(∃o0,τ=[o0,some (.str x),some (.ref j)])/\ys=((row.take i).map λy=>V.bl (decide (x∈J.S y)))/\Kp [] H H3/\H3 B=some (.lst ys)) ⟨⟨_,rfl⟩,rfl,Kp.new Kp.refl hB,ac⟩ (λi ys τ H3 ⟨_,_,k3,_⟩=>SqL.of (k3 r _ hrw (by simp))) ?_ ?_⟩
  .rintro i v ys τ H3 hv ⟨⟨o0,rfl⟩,rfl,k3,h3⟩;obtain⟨y,ey,rfl⟩:=zA9 hv;have yn:=ok y (qAJ ey);have A3:=A0.kp0 k3;refine⟨_,rfl,j,J.dx,_,rfl,A3.ob,i3 _ _ _ (by decide +kernel) (by decide +kernel) (by decide +kernel),_,rfl,_,rfl,j,J,x,y,rfl,A3,hx,yn,?_⟩;refine⟨h3,?_,⟨_,rfl⟩,?_,Kp.new k3 hB,ac⟩
   .rw [qAD,qAU,qAK];lia
   .rw [zAk ey,qAP];rfl
  .rintro ys τ H3 ⟨_,rfl,k3,h3⟩;rw[qAD,qAg]at h3;refine⟨B,row.map λy=>decide (x∈J.S y),rfl,SqL.of ?_,?_⟩
   .rw [h3,qBO];rfl
   .refine k _ _ k3 ?_;rw[qCg,qBt];exact⟨λh y hy=>qBm (h y hy),λh y hy=>qAV (h y hy)⟩
inductive mf(Cp:Addr)(vs:List V)(H:Hp)(Q:VK)(E:XK):Prop
 |mk:∀(l st:Addr)(v:V)(ns B:List Str),vs=[.ref l,.ref st,v]->Txs H l ns->aK H st B->aQ H v->B.Nodup->B.length<=20->(∀x∈B,x∈ns)->ns.length<=20 ->
  (∀(r:Addr)(row:List Str) H',v= .ref r->H r=some (.lst (row.map V.str))->row≠[]->(∀x∈row,x∈ns)->(B++row).Nodup->Kp [st] H H'->aK H' st (B++row)->Q .non H')->(∀H',Kp [st] H H'->¬uD ns B H v->E (.ref Cp) none H')->mf Cp vs H Q E
theorem rD(F:Fun K "check_block" "check_block" zC2 f fd)(T:Txt K mg)(U:XC K mg "NoPaper" Cp)(C_is_one_of:Cal P w K mg base "is_one_of" 1 ["thing","names"] (ci K)):ak P w K mg base (CX1 P w) 2 f fd ["names","stood","block"] (mf Cp):=by
 refine Fun.okX F zCw (λvs H Q E h=>?_) (λcdv A outer s H vs Q E hr h=>?_)
 .obtain ⟨l,st,v,ns,B,rfl,_⟩:=h;rfl
 .obtain ⟨l,st,v,ns,B,rfl,hl,hst,hv,ndB,lB,sB,few,k,kx⟩:=h;have hu:=zF2 hr;have one:(1:Nat)<=sizeLine:=by decide
  refine⟨_,(zAc (zBk (PW.pt (zEk (zBm (zBi (zAi zBg (by rfl) T.z_isinstance zAl (zAa (pv 2) (zAa (zBw (by rfl) T.z_list zCe (v:=.ty "list") rfl) zAb))))) (zDv (zBm (zG6 (pv 2) (λ_=>rfl)))))) (zAe (zDk zGq rfl rfl U.mgC U.ok (zAa zAu zAb))) zAs) (zAe (zA7 PassesOwn.leaving rfl (zAq (pv 2)) (pgN (i:=3) zCw.nd)
    (zAc (zBk (zBm (zBi (zAh C_is_one_of hr rfl (zAa (pv 3) (zAa (pv 0) zAb)))))
     (zAe (zDk zGq rfl rfl U.mgC U.ok (zAa zAu zAb)))
     zAs)
    (zAc (zBk (zEg (zHp hu (pv 3) (pv 1)))
     (zAe (zDk zGq rfl rfl U.mgC U.ok (zAa zAu zAb)))
     zAs)
    (zAe (zD4 hu (pv 1) (pv 3) zEs rfl))))))),?_⟩
  refine bG ?_;intro _ _
  cases hv with
  |no n=>
   obtain⟨ty,h1,h2⟩:=zG7 (K:=K) n;exact⟨_,rfl,_,_,_,_,rfl,h1,h2,_,rfl,bp ⟨one,kx H Kp.refl λ⟨r,row,e,h,_,_,_⟩=>n.2 r _ e h⟩⟩
  |lst r xs e hrw l64 tx=>
   subst e
   have eq:∀{r':Addr}{row:List Str},V.ref r= .ref r'->H r'=some (.lst (row.map V.str))->xs=row.map V.str:=λe h=>by
    cases e
    rw[hrw]at h;injection h with h;injection h
   refine⟨_,rfl,_,_,_,_,rfl,ao.lst hrw,zA1,_,rfl,aw ?_⟩
   by_cases ne:xs=[]
   .subst ne;exact⟨_,rfl,false,.inl ⟨_,SqL.of hrw,rfl⟩,bp ⟨one,kx H Kp.refl λ⟨r',row,e,h,n,_,_⟩=>n (qCd.mp (eq e h).symm)⟩⟩
   refine⟨_,rfl,true,.inl ⟨_,SqL.of hrw,by cases xs with
    |nil=>exact absurd rfl ne
    |cons a b=>rfl⟩,aw ?_⟩
   have nrs:r≠st:=zCp hrw hst λz=>nomatch z;refine⟨_,rfl,_,rfl,⟨_,SqL.of hrw⟩,zA3 (xs:=xs) (λi σ H2=>∃row:List Str,(∃o3:Option V,σ=[some (.ref l),some (.ref st),some (.ref r),o3])/\Kp [st] H H2/\aK H2 st (B++row)/\xs.take i=row.map V.str/\(∀x∈row,x∈ns)/\(B++row).Nodup) ⟨[],⟨_,rfl⟩,Kp.refl,by rw[qAm];exact hst,rfl,(λ_ h=>nomatch h),by rw[qAm];exact ndB⟩ (λi σ H2 _ ⟨_,_,k2,_⟩=>SqL.of (k2 _ _ hrw (nm1 nrs))) ?_ ?_⟩
   .rintro i v σ H2 hv ⟨row,⟨o3,rfl⟩,k2,h2,et,sr,nd⟩;refine cy ?_;intro _ _ _;have tv:=kE (tx v (qAJ hv)) k2 hst h2;have il:=(qAL.mp hv).1;refine⟨_,rfl,_,rfl,v,l,ns,rfl,tv,.inl (SqL.of (k2 _ _ hl (nm1 (zCp hl hst λz=>nomatch z)))),_,rfl,?_⟩
    cases c:zH3 v ns with
    |false=>
     refine⟨one,kx H2 k2 λ⟨r',row',e,h,_,q,_⟩=>?_⟩;rw[eq e h]at hv;obtain⟨x,ex,rfl⟩:=zA9 hv;rw[show zH3 (V.str x) ns=decide (x∈ns)from rfl,qAV (q x (qAJ ex))]at c
     cases c
    |true=>
     obtain⟨x,rfl,xn⟩:=jQ c;refine aw ?_;obtain⟨o,g1,g2⟩:=zEm h2 x;refine⟨_,rfl,_,rfl,_,_,rfl,g1,_,rfl,?_⟩;rw[g2]
     by_cases nx:x∈B++row
     .rw [qAV nx];refine⟨one,kx H2 k2 λ⟨r',row',e,h,_,_,nd'⟩=>?_⟩;have e1:=eq e h;rw[e1]at hv et;obtain⟨y,ey,ez⟩:=zA9 hv
      cases ez
      have e2:row'.take i=row:=dE (by rw[qBk];exact et);have nd2:(B++(row'.take i++[x])).Nodup:=nd'.sublist (List.Sublist.append (List.Sublist.refl _) (by rw[<-zAk ey];exact List.take_sublist _ _));rw[e2,<-qBK]at nd2;exact(qBX.mp nd2).2.2 x nx x (by simp) rfl
     .rw [qAZ nx];refine aw ?_;have ll:(B++row).length<=20:=qAW (zB3 nd λy hy=>(qAR.mp hy).elim (sB y) (sr y)) few;refine⟨_,rfl,_,rfl,_,_,rfl,bz.k (k:=Sum.inr x) h2 ?_,?_⟩
      .rw [zEa,qAK];lia
      refine⟨row++[x],⟨_,rfl⟩,Kp.put k2 (by simp),?_,by rw[zAk hv,et,qAP];rfl,λy hy=>?_,?_⟩
      .show upd _ _ _ _=_;rw[ac,zD3 _ nx,<-qBK];unfold dT1;rw[qAP (l₁:=B++row)];rfl
      .rcases qAR.mp hy with z|z
       .exact sr y z
       .rw [qAO.mp z];exact xn
      .rw [<-qBK];exact qBX.mpr ⟨nd,by simp,λa ha b hb z=>nx (by rw[qAO.mp hb]at z;exact z▸ha)⟩
   .rintro σ H2 ⟨row,_,k2,h2,et,sr,nd⟩;rw[qAg]at et;exact k r row H2 rfl (et▸hrw) (λz=>ne (by rw[et,z];rfl)) sr nd k2 h2
end
inductive jg(J:JR)(H:Hp)(v:V):Prop
 |mk:∀(a:Addr)(as:List Addr) (bs:List (List Str)),v= .ref a->au H a as bs->bi J bs->jg J H v
structure Pre(J:JR)(H:Hp)(ys:List V)(as:List Addr)(bs:List (List Str)):Prop where
 e:ys=as.map V.ref
 len:as.length=bs.length
 row:∀(i:Nat)(a:Addr)(r:List Str),as[i]?=some a->bs[i]?=some r->H a=some (.lst (r.map V.str))
 ne:∀B∈bs,B≠[]
 ns:∀B∈bs,∀x∈B,x∈J.ns
 nd:bs.flatten.Nodup
theorem Pre.more{ys:List V}{bs:List (List Str)}{a:Addr}{r:List Str}(p:Pre J H ys as bs)(ha:H a=some (.lst (r.map V.str)))(ne:r≠[])(ns:∀x∈r,x∈J.ns)(nd:(bs.flatten++r).Nodup):Pre J H (ys++[.ref a]) (as++[a]) (bs++[r]):=by
 refine⟨by rw[p.e,qAP];rfl,by rw[qAN,qAN,p.len];rfl,λi b q e1 e2=>?_,λB hB=>?_,λB hB=>?_,by rw[qBn,qBA,qCk,qAm];exact nd⟩
 .by_cases hp:i<as.length
  .rw [qA5 hp]at e1;rw[qA5 (p.len▸hp)]at e2;exact p.row i b q e1 e2
  .have:i=as.length:=by
    have:=(qAL.mp e1).1;rw[qAN,qAn]at this;lia
   subst this;rw[qBJ (qAG _),qCC]at e1;rw[p.len,qBJ (qAG _),qCC]at e2
   cases e1;cases e2
   exact ha
 .rcases qAR.mp hB with z|z
  .exact p.ne B z
  .rw [qAO.mp z];exact ne
 .rcases qAR.mp hB with z|z
  .exact p.ns B z
  .rw [qAO.mp z];exact ns
theorem Pre.few{ys:List V}{bs:List (List Str)}(p:Pre J H ys as bs)(few:J.ns.length<=20):bs.flatten.length<=20:=qAW (zB3 p.nd λx hx=>by
 obtain⟨B,hB,h⟩:=qDB.mp hx;exact p.ns B hB x h) few
section
inductive dz(C Cp:Addr)(vs:List V)(H:Hp)(Q:VK)(E:XK):Prop
 |mk:∀(j:Addr)(v:V)(J:JR),vs=[.ref j,v]->aD C H j J->aJ H v->¬jg J H v->(∀H',Kp [] H H'->E (.ref Cp) none H')->dz C Cp vs H Q E
theorem qr(F:Fun K "check_blocks" "check_blocks" zBz f fd)(T:Txt K mg)(U:JC K mg C)(X:XC K mg "NoPaper" Cp)(M_names:Mth P w K mg base C "names" 1 ["self"] (bL C))(C_check_block:gj P w K mg base "check_block" 2 ["names","stood","block"] (mf Cp))(C_hab:Cal P w K mg base "has_all_behind" 4 ["jobs","name","row"] (iI C)):ak P w K mg base (CX1 P w) 5 f fd ["jobs","blocks"] (dz C Cp):=by
 refine Fun.okX F zAx (λvs H Q E h=>?_) (λcdv A outer s H vs Q E hr h=>?_)
 .obtain ⟨j,v,J,rfl,_⟩:=h;rfl
 .obtain ⟨j,v,J,rfl,A0,hv,ng,kx⟩:=h;have hr1:=hr.mono (j:=1) (by decide);have hr2:=hr.mono (j:=2) (by decide);have one:(1:Nat)<=sizeLine:=by decide
  refine⟨_,(zAc (zBk (zBm (zBi (zAi zBg (by rfl) T.z_isinstance zAl (zAa (pv 1) (zAa (zBw (by rfl) T.z_list zCe (v:=.ty "list") rfl) zAb))))) (zAe (zDk zGq rfl rfl X.mgC X.ok (zAa zAu zAb))) zAs) (zAc (psS (i:=2) zAx.nd zBv)
   (zAc (zA7 PassesOwn.leaving rfl (zAq (pv 1)) (pgN (i:=3) zAx.nd)
    (zAe (zA2 (zFt (E:=λ_=>E) C_check_block hr2 rfl (jj λ_ _ _ _ h=>h) (zAa (dm M_names U.cl hr1 (pv 0)) (zAa (pv 2) (zAa (pv 3) zAb)))))))
   (zAe (zA7 PassesOwn.leaving rfl (iN rfl T.z_zip (zAa (pv 1) (zAa (zB1 zCi (pv 1) (zCd zAd) zCr) zAb))) (zIv rfl (zBf (pgN (i:=4) zAx.nd) (zBf (pgN (i:=5) zAx.nd) zD5)))
    (zAe (zBk (zBm (zBi (zAi (zE6 _ rfl) (by rfl) T.z_all zI3 (zAa (zBn rfl (zBp (sc:=zAg zBz) rfl (by decide +kernel)) (ah.own (x:= "name") (dtk (i:=0) rfl (dtk (i:=5) rfl ah.nil))) (zAq (pv 4)) (fun _ _ _ _=>(pgB (i:=0))) (fun _ _ _ _=>zCm) (fun C₀ s₀ H₀ ex=>(zAh C_hab hr rfl (zAa (pv 1) (zAa (pv 0) (zAa (pv 2) zAb)))))) zAb))))
     (zAe (zDk zGq rfl rfl X.mgC X.ok (zAa zAu zAb)))
     zAs))))))),?_⟩
  refine bE ?_;intro _ _ _ _
  cases hv with
  |no n=>
   obtain⟨ty,h1,h2⟩:=zG7 (K:=K) n;exact⟨_,rfl,_,_,_,_,rfl,h1,h2,_,rfl,bp ⟨one,kx H Kp.refl⟩⟩
  |lst bl xs e hx l64 tx=>
  subst e;refine⟨_,rfl,_,_,_,_,rfl,ao.lst hx,zA1,_,rfl,aw ?_⟩;refine λst hst=>?_;have fs:Fre H st:=hst;have k1:Kp [] H (upd H st (.dK [])):=Kp.new Kp.refl fs;have e1:aK (upd H st (.dK [])) st []:=ac;generalize upd H st (.dK [])=H1 at k1 e1;refine⟨_,rfl,_,rfl,⟨_,SqL.of (k1 _ _ hx (by simp))⟩,zA3 (xs:=xs) (λi σ H2=>∃as bs,(∃o3:Option V,σ=[some (.ref j),some (.ref bl),some (.ref st),o3,none,none])/\Kp [] H H2/\aK H2 st bs.flatten/\Pre J H (xs.take i) as bs) ⟨[],[],⟨_,rfl⟩,k1,e1,rfl,rfl,(λ_ _ _ h=>nomatch h),(λ_ h=>nomatch h),(λ_ h=>nomatch h),qBC⟩ (λi σ H2 _ ⟨_,_,_,k2,_⟩=>SqL.of (k2 _ _ hx (by simp))) ?_ ?_⟩
  .rintro i v σ H2 hv ⟨as,bs,⟨o3,rfl⟩,k2,h2,p⟩;have bv:=tx v (qAJ hv);have A2:=A0.kp0 k2;refine⟨_,rfl,j,J.dx,_,rfl,A2.ob,i3 _ _ _ (by decide +kernel) (by decide +kernel) (by decide +kernel),j,J,rfl,A2,λn H3 fn hn k3=>?_⟩;have k23:=k2.trans k3
   refine⟨_,rfl,_,rfl,n,st,v,J.ns,bs.flatten,rfl,hn,k3 _ _ h2 (by simp),bv.kp0 k23,p.nd,p.few A0.few,(λx hx=>by
    obtain⟨B,hB,h⟩:=qDB.mp hx;exact p.ns B hB x h),A0.few,λr row H4 ev hrw ne sr nd k4 h4=>?_,λH4 k4 nb=>?_⟩
   .subst ev
    have hr0:H r=some (.lst (row.map V.str)):=by
     cases bv with
     |lst a ys e h _ _=>
      cases e
      have:=k23 _ _ h (by simp);rw[hrw]at this;rw[h,<-this]
     |no n'=>
      exact absurd hrw (n'.kp0 k23 |>.2 r _ rfl)
    refine⟨as++[r],bs++[row],⟨_,rfl⟩,zH0 k23 fs k4,?_,by rw[zAk hv];exact p.more hr0 ne sr nd⟩;rw[qBn,qBA,qCk,qAm];exact h4
   .exact kx H4 (zH0 k23 fs k4)
  rintro σ H2 ⟨as,bs,⟨o3,rfl⟩,k2,_,p⟩;rw[qAg]at p;obtain⟨rfl,len,row,pne,pns,pnd⟩:=p;have R:au H bl as bs:=⟨hx,len,row⟩;rw[qAD,len]at l64;have rlen:∀B∈bs,B.length<=20:=λB hB=>qAW (zB3 (i_ pnd hB) (pns B hB)) A0.few;refine⟨_,rfl,_,rfl,_,rfl,_,_,rfl,SqL.of (k2 _ _ R.top (by simp)),λ(sl:Addr) hsl=>?_⟩;have ec:bH (as.map V.ref) (some 1) none=(as.drop 1).map V.ref:=by rw[zF3 _ (by decide),qBl];rfl
  rw[ec];have k3:Kp [] H2 (upd H2 sl (.lst ((as.drop 1).map V.ref))):=Kp.new Kp.refl hsl;have e3:upd H2 sl (.lst ((as.drop 1).map V.ref)) sl=some (.lst ((as.drop 1).map V.ref)):=ac;generalize upd H2 sl (.lst ((as.drop 1).map V.ref))=H3 at k3 e3;have K3:=k2.trans k3;refine⟨bl,sl,rfl,⟨_,SqL.of (K3 _ _ R.top (by simp))⟩,⟨_,SqL.of e3⟩,dG (xs:=as.map V.ref) (ys:=(as.drop 1).map V.ref) (λi σ H4=>(∃o4 o5:Option V,σ=[some (.ref j),some (.ref bl),some (.ref st),o3,o4,o5])/\Kp [] H3 H4/\∀(q:Nat)(B B':List Str),q<i->bs[q]?=some B->bs[q+1]?=some B'->∀x∈B,∀y∈B',x∈J.S y) ⟨⟨_,_,rfl⟩,Kp.refl,(λ_ _ _ h=>nomatch h)⟩ (λi σ H4 ⟨_,k4,_⟩=>⟨SqL.of ((K3.trans k4) _ _ R.top (by simp)),SqL.of (k4 _ _ e3 (by simp))⟩) ?_ ?_⟩
  .rintro i v1 v2 σ H4 t hv1 hv2 ⟨⟨o4,o5,rfl⟩,k4,n4⟩ ht
   have hi:i<bs.length:=by
    have:=(qAL.mp hv1).1;rw[qAD,R.len]at this;exact this
   have hi1:i+1<bs.length:=by
    have:=(qAL.mp hv2).1;rw[qAD,qAz,R.len]at this;lia
   obtain⟨a,B,ea,eB,ev,ha⟩:=R.at hi;obtain⟨a',B',ea',eB',ev',ha'⟩:=R.at hi1;rw[ev]at hv1
   cases hv1
   have e2:((as.drop 1).map V.ref)[i]?=some (.ref a'):=by
    rw[qAY,qCL,qCs,ea'];rfl
   rw[e2]at hv2
   cases hv2
   have kt:Kp [] H4 (upd H4 t (.tup [.ref a,.ref a'])):=Kp.new Kp.refl ht;refine⟨_,_,rfl,.inl (.inl ac),rfl,_,_,rfl,_,_,rfl,rfl,?_⟩;generalize upd H4 t (.tup [.ref a,.ref a'])=H5 at kt;have K5:=(K3.trans k4).trans kt;have ha5:=K5 _ _ ha (by simp);have mB:=qAJ eB;have mB':=qAJ eB';refine⟨_,rfl,_,rfl,⟨_,SqL.of ha5⟩,λY hY=>zBc (B.map V.str) (λp ys τ H6=>∃zs:List Bool,(∃o0,τ=[o0,some (.ref j),some (.ref a')])/\ys=zs.map V.bl/\zs.length=p/\(zs.all id=true↔∀x∈B.take p,∀y∈B',x∈J.S y)/\Kp [] H5 H6/\H6 Y=some (.lst ys)) ⟨[],⟨_,rfl⟩,rfl,rfl,by simp,Kp.new Kp.refl hY,ac⟩ (λp ys τ H6 ⟨_,_,_,_,_,k6,_⟩=>SqL.of (k6 _ _ ha5 (by simp))) ?_ ?_⟩
   .rintro p v ys τ H6 hv ⟨zs,⟨o0,rfl⟩,rfl,zl,za,k6,h6⟩;obtain⟨x,ex,rfl⟩:=zA9 hv;have mx:=qAJ ex;have K6:=K5.trans k6;have lb:=rlen B mB;have pl:=(qAL.mp ex).1;refine⟨_,rfl,_,rfl,_,rfl,j,a',J,x,B',rfl,A0.kp0 K6,pns B mB x mx,K6 _ _ ha' (by simp),by have:=rlen B' mB';lia,pns B' mB',λbb H7 k7 hb=>?_⟩;refine⟨k7 _ _ h6 (by simp),?_,zs++[bb],⟨_,rfl⟩,by rw[qAP];rfl,by rw[qAN,zl];rfl,?_,Kp.new (k6.trans k7) hY,ac⟩
    .rw [qAD,qAK];lia
    .rw [List.all_append,qBS,za,zAk ex];simp only[List.all_cons,List.all_nil,Bool.and_true,id];rw[hb];exact⟨λh y hy=>(qAR.mp hy).elim (h.1 y) λz=>by rw[qAO.mp z];exact h.2,λh=>⟨λy hy=>h y (qAp _ hy),h x (by simp)⟩⟩
   .rintro ys τ H6 ⟨zs,_,rfl,zl,za,k6,h6⟩;rw[qAD,qAg]at za;have K6:=K5.trans k6;refine⟨Y,zs,rfl,SqL.of h6,_,rfl,?_⟩
    cases c:zs.all id with
    |false=>exact⟨one,kx H6 K6⟩
    |true=>
     refine aw ⟨⟨_,_,rfl⟩,(k4.trans kt).trans k6,λq D D' hq d1 d2=>?_⟩
     by_cases z:q=i
     .subst z;rw[eB]at d1;rw[eB']at d2
      cases d1;cases d2
      exact za.mp c
     .exact n4 q D D' (by lia) d1 d2
  .rintro i σ H4 hi ⟨_,k4,n4⟩;refine absurd (jg.mk bl as bs rfl R ⟨pne,pns,pnd,λq D D' e1 e2=>n4 q D D' ?_ e1 e2⟩) ng;have:=(qAL.mp e2).1;rw[qAD,qAD,qAz,len]at hi;lia
inductive h_(C Cp:Addr)(vs:List V)(H:Hp)(Q:VK)(E:XK):Prop
 |mk:∀(j:Addr)(b:Int)(v:V)(J:JR),vs=[.ref j,.int b,v]->aD C H j J->aJ H v->¬jg J H v->(∀H',Kp [] H H'->E (.ref Cp) none H')->h_ C Cp vs H Q E
theorem pj(F:Fun K "shown_by_blocks" "shown_by_blocks" zBb f fd)(C_check_blocks:gj P w K mg base "check_blocks" 5 ["jobs","blocks"] (dz C Cp)):ak P w K mg base (CX1 P w) 6 f fd ["jobs","benches","blocks"] (h_ C Cp):=by
 refine Fun.okX F zDg (λvs H Q E h=>?_) (λcdv A outer s H vs Q E hr h=>?_)
 .obtain ⟨j,b,v,J,rfl,_⟩:=h;rfl
 .obtain ⟨j,b,v,J,rfl,A0,hv,ng,kx⟩:=h
  refine⟨_,(zAc (zA2 (zFt (E:=λ_=>E) C_check_blocks hr rfl (jj λ_ _ _ _ h=>h) (zAa (pv 0) (zAa (pv 2) zAb)))) (zAe zAz)),?_⟩
  exact⟨_,rfl,_,rfl,j,v,J,rfl,A0,hv,ng,kx⟩
def mw(C Cp:Addr):Sp:=λvs H Q E=>jh C vs H Q E\/h_ C Cp vs H Q E
end
structure Wds(K:PySem.W.Frag)(mg:Str->Option Value)(W:Addr):Prop where
 g:mg "WORDS"=some (.ref W)
 s:∀H,SqT K H W ((["blocks","behind","ahead"]:List Str).map V.str)
section
inductive a8(C Cn Cp:Addr)(vs:List V)(H:Hp)(Q:VK)(E:XK):Prop
 |bench:∀(j:Addr)(bv pv:V),vs=[.ref j,bv,pv]->af H bv->bY bv=false->E (.ref Cn) none H->a8 C Cn Cp vs H Q E
 |bad:∀(j:Addr)(b:Int)(pv:V)(J:JR),vs=[.ref j,.int b,pv]->aD C H j J->1<=b->bt H pv->¬aW J H pv->(∀H',Kp [] H H'->E (.ref Cp) none H')->a8 C Cn Cp vs H Q E
 |good:∀(j t a:Addr)(b:Int)(J:JR)(as:List Addr) (bs:List (List Str)),vs=[.ref j,.int b,.ref t]->aD C H j J->1<=b->b<10^100->H t=some (.tup [.str "blocks",.ref a])->au H a as bs->bs.length<=20->bi J bs->(∀H',Kp [] H H'->Q (.int (pG b bs)) H')->a8 C Cn Cp vs H Q E
abbrev zJb:Stmt:=top 35
theorem gs:ag ["jobs","benches","paper"] ["jobs","benches","paper"] (zAg zJb):=fnS
theorem jS{Cn W:Addr}(F:Fun K "shown" "shown" zJb f fd)(T:Txt K mg)(X:XC K mg "NoPaper" Cp)(WD:Wds K mg W)(C_cb:gj P w K mg base "check_benches" 2 ["benches"] (fo Cn))(C_is_one_of:Cal P w K mg base "is_one_of" 1 ["thing","names"] (ci K))(C_sbb:gj P w K mg base "shown_by_blocks" 6 ["jobs","benches","blocks"] (mw C Cp))(C_is_whole:Cal P w K mg base "is_whole" 1 ["thing"] a9):ak P w K mg base (CX1 P w) 7 f fd ["jobs","benches","paper"] (a8 C Cn Cp):=by
 refine Fun.okX F gs (λvs H Q E h=>?_) (λcdv A outer s H vs Q E hr h=>?_)
 .rcases h with⟨j,bv,pv,rfl,_⟩|⟨j,b,pv,J,rfl,_⟩|⟨j,t,a,b,J,as,bs,rfl,_⟩<;>rfl
 .have hr1:=hr.mono (j:=1) (by decide);have hr2:=hr.mono (j:=2) (by decide);have hu:=hu0 hr;have one:(1:Nat)<=sizeLine:=by decide
  refine⟨_,(zAc (zA2 (zFt (E:=λ_=>E) C_cb hr2 rfl (jj λ_ _ _ _ h=>h) (zAa (pv 1) zAb))) (zAc (zBk (PW.pt (zEk (zBm (zBi (zAi zBg (by rfl) T.z_isinstance zAl (zAa (pv 2) (zAa (zBw (by rfl) T.z_tuple zGa (v:=.ty "tuple") rfl) zAb))))) (zEk (zAr zFu (zAi zAp (by rfl) T.z_len zBy (zAa (pv 2) zAb)) zAd (zAv _)) (zDv (zBm (zBi (zAh C_is_one_of hr1 rfl (zAa (zBd zDb (pv 2) zAd (fun _ _=>rfl)) (zAa (zBs (v:=.ref W) (by rfl) WD.g rfl) zAb)))))))))
    (zAe (zDk zGq rfl rfl X.mgC X.ok (zAa zAu zAb)))
    zAs)
   (zAc (zBk (zAr (mR hu) (zBd zDb (pv 2) zAd (fun _ _=>rfl)) zAu (zAv _))
    (zAe (zAw (zFt (E:=λ_=>E) C_sbb hr rfl (jj λ_ _ _ _ h=>h) (zAa (pv 0) (zAa (pv 1) (zAa (zBd zDb (pv 2) zAd (λ_ _=>rfl)) zAb))))))
    zAs)
   (zAc (zBk (PW.pt (zEk (zBm (zBi (zAh C_is_whole hr1 rfl (zAa (zBd zDb (pv 2) zAd (fun _ _=>rfl)) zAb)))) (zDv (zAr fQ (zBd zDb (pv 2) zAd (fun _ _=>rfl)) zAd (zAv _)))))
    (zAe (zDk zGq rfl rfl X.mgC X.ok (zAa zAu zAb)))
    zAs)
   (zAc zAz (zAe zAz)))))),?_⟩
  refine sk ?_;intro _ _ _ _ _
  cases h with
  |bench j bv pv e hb nb kx=>
   subst e;exact⟨_,rfl,.inr ⟨bv,rfl,hb,nb,kx⟩⟩
  |bad j b pv J e A0 b1 hv ng kx=>
   subst e;refine⟨_,rfl,.inl ⟨b,rfl,b1,?_⟩⟩
   cases hv with
   |oth o=>
    rcases o.is (K:=K)with⟨t,ty,kt⟩|⟨a,xs,rfl,ha,n2⟩
    .exact ⟨_,rfl,_,_,_,_,rfl,ty,kt,_,rfl,bp ⟨one,kx H Kp.refl⟩⟩
    .refine ⟨_,rfl,_,_,_,_,rfl,ao.tup ha,zA1,_,rfl,aw ?_⟩;refine⟨_,rfl,_,_,rfl,.inr (SqT.of ha),rfl,_,rfl,?_⟩;rw[qAZ (λz=>n2 (by injection z with z;lia))];exact⟨one,kx H Kp.refl⟩
   |odd t x n e ht wd th=>
    subst e;refine⟨_,rfl,_,_,_,_,rfl,ao.tup ht,zA1,_,rfl,aw ?_⟩;refine⟨_,rfl,_,_,rfl,.inr (SqT.of ht),rfl,_,rfl,aw ?_⟩;refine⟨_,rfl,_,_,_,_,rfl,rfl,SqT.of ht,rfl,_,W,["blocks","behind","ahead"],rfl,wd.1,.inr (WD.s H),_,rfl,?_⟩
    have c:zH3 x ["blocks","behind","ahead"]=false:=by
     cases c:zH3 x ["blocks","behind","ahead"]with
     |false=>rfl
     |true=>
      obtain⟨y,rfl,hy⟩:=jQ c;obtain⟨h1,h2,h3⟩:=wd.2 y rfl;simp[h1,h2,h3]at hy
    rw[c];exact⟨one,kx H Kp.refl⟩
   |num t x n e ht wd nb=>
    subst e;have nb':x≠ "blocks":= by rcases wd with rfl|rfl<;>decide
    refine⟨_,rfl,_,_,_,_,rfl,ao.tup ht,zA1,_,rfl,aw ?_⟩;refine⟨_,rfl,_,_,rfl,.inr (SqT.of ht),rfl,_,rfl,aw ?_⟩;refine⟨_,rfl,_,_,_,_,rfl,rfl,SqT.of ht,rfl,_,W,["blocks","behind","ahead"],rfl,.inl ⟨_,rfl⟩,.inr (WD.s H),_,rfl,?_⟩;rw[show zH3 (V.str x) ["blocks","behind","ahead"]=true by rcases wd with rfl|rfl<;>decide];refine aw ?_;refine⟨_,rfl,_,_,_,_,rfl,rfl,SqT.of ht,rfl,_,rfl,.inl ⟨_,rfl⟩,_,rfl,?_⟩;rw[qAZ (λz=>nb' (by injection z))];refine aw ?_;refine⟨_,rfl,_,_,_,_,rfl,rfl,SqT.of ht,rfl,n,rfl,nb.1,?_⟩
    cases c:cr n with
    |false=>exact⟨_,rfl,bp ⟨one,kx H Kp.refl⟩⟩
    |true=>
     obtain⟨i,rfl⟩:=cM c;refine⟨_,rfl,aw ?_⟩;refine⟨_,rfl,_,_,_,_,rfl,rfl,SqT.of ht,rfl,_,_,rfl,rfl,_,rfl,?_⟩;rw[qAV (nb.2 i rfl)];exact⟨one,kx H Kp.refl⟩
   |blk t v e ht hb=>
    subst e;refine⟨_,rfl,_,_,_,_,rfl,ao.tup ht,zA1,_,rfl,aw ?_⟩;refine⟨_,rfl,_,_,rfl,.inr (SqT.of ht),rfl,_,rfl,aw ?_⟩;refine⟨_,rfl,_,_,_,_,rfl,rfl,SqT.of ht,rfl,_,W,["blocks","behind","ahead"],rfl,.inl ⟨_,rfl⟩,.inr (WD.s H),_,rfl,?_⟩;rw[show zH3 (V.str "blocks") ["blocks","behind","ahead"]=true by decide];refine aw ?_;refine⟨_,rfl,_,_,_,_,rfl,rfl,SqT.of ht,rfl,_,rfl,.inl ⟨_,rfl⟩,_,rfl,?_⟩;rw[qAV rfl];exact⟨_,rfl,_,rfl,_,rfl,_,_,_,_,rfl,rfl,SqT.of ht,rfl,.inr ⟨j,b,v,J,rfl,A0,hb,λ⟨a,as,bs,e,R,G⟩=>ng ⟨t,a,as,bs,rfl,e▸ht,R,G⟩,kx⟩⟩
  |good j t a b J as bs e A0 b1 b2 ht R l20 G k=>
   subst e;refine⟨_,rfl,.inl ⟨b,rfl,b1,?_⟩⟩;refine⟨_,rfl,_,_,_,_,rfl,ao.tup ht,zA1,_,rfl,aw ?_⟩;refine⟨_,rfl,_,_,rfl,.inr (SqT.of ht),rfl,_,rfl,aw ?_⟩;refine⟨_,rfl,_,_,_,_,rfl,rfl,SqT.of ht,rfl,_,W,["blocks","behind","ahead"],rfl,.inl ⟨_,rfl⟩,.inr (WD.s H),_,rfl,?_⟩;rw[show zH3 (V.str "blocks") ["blocks","behind","ahead"]=true by decide];refine aw ?_;refine⟨_,rfl,_,_,_,_,rfl,rfl,SqT.of ht,rfl,_,rfl,.inl ⟨_,rfl⟩,_,rfl,?_⟩;rw[qAV rfl];exact⟨_,rfl,_,rfl,_,rfl,_,_,_,_,rfl,rfl,SqT.of ht,rfl,.inl ⟨j,a,b,J,as,bs,rfl,A0,R,l20,G,b1,b2,k⟩⟩
end
section
inductive eL(C:Addr)(vs:List V)(H:Hp)(Q:VK)(u_3:XK):Prop
 |bench:∀(j:Addr)(bv pv:V),vs=[.ref j,bv,pv]->af H bv->bY bv=false->(∀H',Kp [] H H'->Q (.str "bench") H')->eL C vs H Q u_3
 |bad:∀(j:Addr)(b:Int)(pv:V)(J:JR),vs=[.ref j,.int b,pv]->aD C H j J->1<=b->bt H pv->¬aW J H pv->(∀H',Kp [] H H'->Q (.str "paper") H')->eL C vs H Q u_3
structure lv(K:PySem.W.Frag)(CB Cn Cp Ct Cm:Addr)(D1 D2:Nat->Addr)(Ce:Addr)(b1 b2 b3 b4:Bool):Prop where
 ok:cD K Ce=true
 sub:(gi K Ce).contains (.ref CB)=true
 kd:uj K Cn Cp Ct Cm D1 D2 Ce b1 b2 b3 b4
abbrev gX:Stmt:=top 73
theorem jL:ag ["_law_jobs_here","_law_benches","_law_paper","_law_e"] ["_law_jobs_here","_law_benches","_law_paper"] (zAg gX):=fnS
theorem oV{CB Cn Ct Cm:Addr}{D1 D2:Nat->Addr}(F:Fun K "_law_told" "_law_told" gX f fd)(be:mg "BenchError"=some (.ref CB))(beok:cD K CB=true)(Rn:lv K CB Cn Cp Ct Cm D1 D2 Cn true false false false)(Rp:lv K CB Cn Cp Ct Cm D1 D2 Cp false true false false)
  (C_shown:gj P w K mg base "shown" 7 ["jobs","benches","paper"] (a8 C Cn Cp)) (C_kind:sG P w K mg base "_law_kind" 1 ["_law_e"] (iS K Cn Cp Ct Cm D1 D2)):ak P w K mg base CX0 8 f fd ["_law_jobs_here","_law_benches","_law_paper"] (eL C):=by
 refine F.ok jL (λvs H Q E h=>?_) (λcdv A outer s H vs Q E hr h=>?_)
 .rcases h with⟨j,bv,pv,rfl,_⟩|⟨j,b,pv,J,rfl,_⟩<;>rfl
 .have hr1:=hr.mono (j:=1) (by decide)
  refine⟨_,(zAc (pz (i:=3) rfl rfl rfl rfl jL.nd rfl rfl rfl be beok (λpl ξ E p own=>zAe (zA2 (zFt (E:=E) C_shown hr rfl p (zAa (pv 0) (zAa (pv 1) (zAa (pv 2) zAb)))))) (λa=>zAe (zAw (oJ C_kind hr1 rfl (zAa (pv 3) zAb))))) (zAe (zAw zAu))),?_⟩
  have wn:lF true false false false="bench":= by decide
  have wp:lF false true false false="paper":= by decide
  cases h with
  |bench j bv pv e hb nb k=>
   subst e;rw[<-wn]at k;refine⟨_,rfl,_,rfl,_,rfl,.bench j bv pv rfl hb nb ⟨Cn,rfl,Rn.ok,Rn.sub,λa ha=>?_⟩⟩;exact⟨_,rfl,Cn,true,false,false,false,rfl,ac,Rn.kd,λH' k'=>k H' (Kp.trans (Kp.new Kp.refl ha) k')⟩
  |bad j b pv J e A0 b1 hv ng k=>
   subst e;rw[<-wp]at k;refine⟨_,rfl,_,rfl,_,rfl,.bad j b pv J rfl A0 b1 hv ng λH1 k1=>⟨Cp,rfl,Rp.ok,Rp.sub,λa ha=>?_⟩⟩;exact⟨_,rfl,Cp,false,true,false,false,rfl,ac,Rp.kd,λH' k'=>k H' ((k1.trans (Kp.new Kp.refl ha)).trans k')⟩
theorem jY{Cb:Addr}(F:Fun K "check_benches" "check_benches" zB4 f fd)(U:XC K mg "NoBench" Cb)(C_is_whole:Cal P w K mg base "is_whole" 1 ["thing"] bK)(C_wholeT:Cal P w K mg base "is_whole" 1 ["thing"] a9):ak P w K mg base (CX1 P w) 2 f fd ["benches"] (fo Cb) :=
 ((zEh F C_is_whole).lift).both (kJ F U C_wholeT) λ_ _ _ _ h=>h
theorem pe(F:Fun K "shown_by_blocks" "shown_by_blocks" zBb f fd)(T:Txt K mg)(C_check_blocks:Cal P w K mg base "check_blocks" 5 ["jobs","blocks"] (jP C))(C_turns_filled:Cal P w K mg base "turns_filled" 1 ["many","benches"] pH)(C_cbsX:gj P w K mg base "check_blocks" 5 ["jobs","blocks"] (dz C Cp)):ak P w K mg base (CX1 P w) 6 f fd ["jobs","benches","blocks"] (mw C Cp) :=
 ((zDl F T C_check_blocks C_turns_filled).lift).both (pj F C_cbsX) λ_ _ _ _ h=>h
def ofL(ds:List Addr)(i:Nat):Addr:=ds.getD i 0
def kdB(K:PySem.W.Frag)(Cn Cp Ct Cm:Addr)(ds es:List Addr)(Ce:Addr)(b1 b2 b3 b4:Bool):Bool:=zFb K Ce&&(PySem.W.kitOne K (.ref Ce) (.ref Cn)==some b1)&&(PySem.W.kitOne K (.ref Ce) (.ref Cp)==some b2)&&(PySem.W.kitOne K (.ref Ce) (.ref Ct)==some b3)&&(PySem.W.kitOne K (.ref Ce) (.ref Cm)==some b4)&&(PySem.W.kitAny K (.ref Ce) (ds.map Value.ref)==some false)&&(PySem.W.kitAny K (.ref Ce) (es.map Value.ref)==some false)&&(PySem.W.kitOne K (.ref Ce) (.type "ValueError")==some true)
theorem lv.of{CB Cn Cp Ct Cm Ce:Addr}{d0 d1 d2 d3 d4 d5 d6 d7 d8 e0 e1 e2:Addr}{b1 b2 b3 b4:Bool}(h:kdB K Cn Cp Ct Cm [d0,d1,d2,d3,d4,d5,d6,d7,d8] [e0,e1,e2] Ce b1 b2 b3 b4=true)(x:cD K Ce=true)(s:(gi K Ce).contains (.ref CB)=true):lv K CB Cn Cp Ct Cm (ofL [d0,d1,d2,d3,d4,d5,d6,d7,d8]) (ofL [e0,e1,e2]) Ce b1 b2 b3 b4:=by
 unfold kdB at h;simp only[qBS,qBQ]at h;obtain⟨⟨⟨⟨⟨⟨⟨h1,h2⟩,h3⟩,h4⟩,h5⟩,h6⟩,h7⟩,h8⟩:=h;exact⟨x,s,h1,h2,h3,h4,h5,h6,h7,h8⟩
end
theorem TA.rank{qs:List (List Str×Addr)}{r:Str->Nat}(G:mC ns qs r){a b:Str}(h:TA qs a b):r a<r b:=by
 obtain⟨q,hq,e1,e2⟩:=h;have:=G.rk q hq;rw[e1,e2]at this;exact this
theorem Way.rank{qs:List (List Str×Addr)}{r:Str->Nat}(G:mC ns qs r){a b:Str}(h:Way qs a b):r a<r b:=by
 induction h with
 |one h=>exact TA.rank G h
 |more _ h ih=>exact qCt ih (TA.rank G h)
def pN(ns:List Str)(L:Str->List Str):JR:=⟨0,0,0,0,ns,[],[],λ_=>0,λy=>ns.filter λn=>decide (y∈L n)⟩
theorem zJr{L:Str->List Str}{n y:Str}:n∈(pN ns L).S y↔n∈ns/\y∈L n:=by
 unfold pN;rw[qBZ,decide_eq_true_iff]
theorem bi.to{L:Str->List Str}{bs:List (List Str)}(G:bi (pN ns L) bs)(e:J.ns=ns)(h:∀n∈ns,∀y∈ns,y∈L n->n∈J.S y):bi J bs:=by
 refine⟨G.ne,λB hB x hx=>e▸G.ns B hB x hx,G.nd,λi B B' e1 e2 x hx y hy=>?_⟩;exact h x (G.ns B (qAJ e1) x hx) y (G.ns B' (qAJ e2) y hy) (zJr.mp (G.nx i B B' e1 e2 x hx y hy)).2
section
inductive bZ(C:Addr)(vs:List V)(H:Hp)(Q:VK)(u_3:XK):Prop
 |mk:∀(j t a:Addr)(b:Int)(J:JR)(as:List Addr) (bs:List (List Str)),vs=[.ref j,.int b,.ref t]->aD C H j J->1<=b->b<10^100->H t=some (.tup [.str "blocks",.ref a])->au H a as bs->bs.length<=20->bi J bs->(∀H',Kp [] H H'->Q (.int (pG b bs)) H')->bZ C vs H Q u_3
theorem kh{W:Addr}(F:Fun K "shown" "shown" zJb f fd)(T:Txt K mg)(WD:Wds K mg W)(C_cb:Cal P w K mg base "check_benches" 2 ["benches"] bJ)(C_is_one_of:Cal P w K mg base "is_one_of" 1 ["thing","names"] (ci K))(C_sbb:Cal P w K mg base "shown_by_blocks" 6 ["jobs","benches","blocks"] (jh C)):ak P w K mg base CX0 7 f fd ["jobs","benches","paper"] (bZ C):=by
 refine F.ok gs (λvs H Q E h=>?_) (λcdv A outer s H vs Q E hr h=>?_)
 .obtain ⟨j,t,a,b,J,as,bs,rfl,_⟩:=h;rfl
 .obtain ⟨j,t,a,b,J,as,bs,rfl,A0,b1,b2,ht,R,l20,G,k⟩:=h;have hr1:=hr.mono (j:=1) (by decide);have hr2:=hr.mono (j:=2) (by decide);have hu:=hu0 hr
  refine⟨_,(zAc (zA2 (zAh C_cb hr2 rfl (zAa (pv 1) zAb))) (zAc (zBk (PW.pt (zEk (zBm (zBi (zAi zBg (by rfl) T.z_isinstance zAl (zAa (pv 2) (zAa (zBw (by rfl) T.z_tuple zGa (v:=.ty "tuple") rfl) zAb))))) (zEk (zAr zFu (zAi zAp (by rfl) T.z_len zBy (zAa (pv 2) zAb)) zAd (zAv _)) (zDv (zBm (zBi (zAh C_is_one_of hr1 rfl (zAa (zBd zDb (pv 2) zAd (fun _ _=>rfl)) (zAa (zBs (v:=.ref W) (by rfl) WD.g rfl) zAb)))))))))
    (zAe zAz)
    zAs)
   (zAc (zBk (zAr (mR hu) (zBd zDb (pv 2) zAd (fun _ _=>rfl)) zAu (zAv _))
    (zAe (zAw (zAh C_sbb hr rfl (zAa (pv 0) (zAa (pv 1) (zAa (zBd zDb (pv 2) zAd (λ_ _=>rfl)) zAb))))))
    zAs)
   (zAc zAz (zAc zAz (zAe zAz)))))),?_⟩
  refine⟨_,rfl,b,rfl,b1,?_⟩;refine⟨_,rfl,_,_,_,_,rfl,ao.tup ht,zA1,_,rfl,aw ?_⟩;refine⟨_,rfl,_,_,rfl,.inr (SqT.of ht),rfl,_,rfl,aw ?_⟩;refine⟨_,rfl,_,_,_,_,rfl,rfl,SqT.of ht,rfl,_,W,["blocks","behind","ahead"],rfl,.inl ⟨_,rfl⟩,.inr (WD.s H),_,rfl,?_⟩;rw[show zH3 (V.str "blocks") ["blocks","behind","ahead"]=true by decide];refine aw ?_;refine⟨_,rfl,_,_,_,_,rfl,rfl,SqT.of ht,rfl,_,rfl,.inl ⟨_,rfl⟩,_,rfl,?_⟩;rw[qAV rfl];exact⟨_,rfl,_,rfl,_,rfl,_,_,_,_,rfl,rfl,SqT.of ht,rfl,j,a,b,J,as,bs,rfl,A0,R,l20,G,b1,b2,k⟩
inductive oA(vs:List V)(H:Hp)(Q:VK)(u_3:XK):Prop
 |mk:∀(x y:V)(t a:Addr)(b:Int)(as:List Addr) (bs:List (List Str)),vs=[x,y,.int b,.ref t]->1<=b->b<10^100->H t=some (.tup [.str "blocks",.ref a])->au H a as bs->bs.length<=20->(∀H',Q (.int (pG b bs)) H')->oA vs H Q u_3
abbrev iZ:Stmt:=top 64
theorem sq:ag ["_law_names_here","_law_behind_here","_law_benches","_law_paper","_law_tall_here","_law_many"] ["_law_names_here","_law_behind_here","_law_benches","_law_paper"] (zAg iZ):=fnS
theorem sE(F:Fun K "_law_due" "_law_due" iZ f fd)(T:Txt K mg):ak P w K mg base CX0 1 f fd ["_law_names_here","_law_behind_here","_law_benches","_law_paper"] oA:=by
 refine F.ok sq (λvs H Q E h=>?_) (λcdv A outer s H vs Q E hr h=>?_)
 .obtain ⟨x,y,t,a,b,as,bs,rfl,_⟩:=h;rfl
 .obtain ⟨x,y,t,a,b,as,bs,rfl,b1,b2,ht,R,l20,k⟩:=h
  refine⟨_,(zAc (zBk (zAr zD8 (zBd zDb (pv 3) zAd (λ_ _=>rfl)) zAu (zAv _)) (zAe (zAw (zAi (zF8 rfl) (by rfl) T.z_sum dJ (zAa (zBn rfl (zBp (sc:=zAg iZ) rfl (by decide +kernel)) (ah.own (x:="_law_row") (dtk (i:=2) rfl ah.nil)) (zAq (zBd zDb (pv 3) zAd (λ_ _=>rfl))) (λ_ _ _ _=>(pgB (i:=0))) (λ_ _ _ _=>zCm) (λ_ _ _ _=>(zAn zBr (zAn zE9 (zAn zCy (zAi (zC3 (K:=K)) (by rfl) T.z_len zBy (zAa (pv 0) zAb)) (pv 1)) zAd) (pv 1)))) zAb)))) zAs) (zAc zAz (zAc zAz (zAc zAz (zAe zAz))))),?_⟩
  refine⟨_,rfl,_,_,_,_,rfl,rfl,SqT.of ht,rfl,rfl,_,rfl,bp ?_⟩;refine⟨_,rfl,_,_,_,_,rfl,rfl,SqT.of ht,rfl,_,rfl,⟨_,SqL.of R.top⟩,λY hY=>zBc (as.map V.ref) (λi ys τ H3=>(∃o0,τ=[o0,some (.int b)])/\ys=((bs.take i).map λB=>V.int (tf (B.length:Int) b))/\H3=upd H Y (.lst ys)) ⟨⟨_,rfl⟩,rfl,rfl⟩ (λi ys τ H3 ⟨_,_,z⟩=>by subst z;exact SqL.of ((Kp.new (M:=[]) Kp.refl hY) _ _ R.top (by simp))) ?_ ?_⟩
  .rintro i v ys τ H3 hv ⟨⟨o0,rfl⟩,rfl,rfl⟩;obtain⟨c,B,_,eB,rfl,hc⟩:=R.of hv;have kY:Kp [] H (upd H Y (.lst ((bs.take i).map λB=>V.int (tf (B.length:Int) b)))):=Kp.new Kp.refl hY;refine⟨_,rfl,_,_,rfl,.inl (SqL.of (kY _ _ hc (by simp))),_,rfl,_,_,rfl,rfl,_,_,rfl,rfl,_,rfl,_,_,rfl,rfl,⟨by lia,b2⟩,ac,?_,⟨_,rfl⟩,?_,zB7⟩
   .rw [qAD,qAU,qAK];lia
   .rw [zAk eB,qAP,qAD];rfl
  .rintro ys τ H3 ⟨_,rfl,rfl⟩;have eT:bs.take (as.map V.ref).length=bs:=by rw[qAD,R.len,qAg]
   rw[eT];refine⟨Y,bs.map λB:List Str=>tf (B.length:Int) b,rfl,SqL.of (by rw[ac,qBO];rfl),?_⟩;exact k _
end
theorem pne{a:Addr}{o:HO}(P:zB9 H p)(h:H a=some o)(n:∀x y:Int,o≠.lst [.int x,.int y]):a≠p:=λz=>by
 obtain⟨x,y,e,_⟩:=P;rw[z,e]at h
 cases h
 exact n x y rfl
theorem pE(x y:Int):HO.lst (as.map V.ref)≠.lst [.int x,.int y]:=λz=>by
 injection z with z
 cases as with
 |nil=>cases z
 |cons a as=>injection z with z;cases z
theorem pC{r:List Str}(x y:Int):HO.lst (r.map V.str)≠.lst [.int x,.int y]:=λz=>by
 injection z with z
 cases r with
 |nil=>cases z
 |cons a as=>injection z with z;cases z
theorem au.kpp{l:Addr}{rs:List (List Str)}(R:au H l as rs)(P:zB9 H p)(k:Kp [p] H H'):au H' l as rs:=⟨k _ _ R.top (nm1 (pne P R.top pE)),R.len,λi a r e1 e2=>k _ _ (R.row i a r e1 e2) (nm1 (pne P (R.row i a r e1 e2) pC))⟩
theorem TxB.kpp(h:TxB H v)(P:zB9 H p)(k:Kp [p] H H'):TxB H' v:=by
 obtain⟨a,as,rs,e,R,l1,l2⟩:=h;exact⟨a,as,rs,e,R.kpp P k,l1,l2⟩
theorem DR.kpp{d:Addr}{la:Str->Addr}{L:Str->List Str}(D:DR H d ns la L)(P:zB9 H p)(k:Kp [p] H H'):DR H' d ns la L:=⟨k _ _ D.top (nm1 (pne P D.top λ_ _ z=>nomatch z)),λn hn=>k _ _ (D.row n hn) (nm1 (pne P (D.row n hn) λ_ _ z=>nomatch z))⟩
theorem aQ.back{b:Addr}{r:List Str}(h:aQ H (.ref b))(k:Kp [] H H')(e:H' b=some (.lst (r.map V.str))):H b=some (.lst (r.map V.str)):=by
 cases h with
 |lst a ys e' h _ _=>
  cases e'
  have:=k _ _ h (by simp);rw[e]at this;rw[h,<-this]
 |no n=>exact absurd e ((n.kp0 k).2 b _ rfl)
theorem bt.back(h:bt H v)(k:Kp [] H H')(g:aW J H' v):aW J H v:=by
 obtain⟨t,a,as,bs,rfl,ht,R,G⟩:=g
 cases h with
 |blk t' b e h hb=>
  cases e
  have e:=k _ _ h (by simp);rw[ht]at e
  cases e
  refine⟨t,a,as,bs,rfl,h,?_,G⟩
  cases hb with
  |lst a' xs e ha _ hx=>
   cases e
   have e:=k _ _ ha (by simp);rw[R.top]at e
   cases e
   exact⟨ha,R.len,λi b r e1 e2=>(hx (.ref b) (qAe.mpr ⟨b,qAJ e1,rfl⟩)).back k (R.row i b r e1 e2)⟩
  |no n=>exact absurd R.top ((n.kp0 k).2 a _ rfl)
 |num t' x n e h w _=>
  cases e
  have e:=k _ _ h (by simp);rw[ht]at e
  cases e
  rcases w with w|w<;>exact absurd w (by decide)
 |odd t' x n e h w _=>
  cases e
  have e:=k _ _ h (by simp);rw[ht]at e
  cases e
  exact absurd rfl (w.2 _ rfl).1
 |oth o=>exact absurd rfl ((o.kp0 k).2 t _ rfl ht)
structure Hlv(H:Hp)(h:Addr)(hs:List V)(ns:List Str):Prop where
 top:H h=some (.lst hs)
 ne:ns≠[]->hs≠[]
 len:hs.length<=40000
 all:∀v∈hs,TxB H v
theorem Hlv.kp0{h:Addr}{hs:List V}(x:Hlv H h hs ns)(k:Kp [] H H'):Hlv H' h hs ns:=⟨k _ _ x.top (by simp),x.ne,x.len,λv hv=>(x.all v hv).kp0 k⟩
theorem Hlv.kpp{h:Addr}{hs:List V}(x:Hlv H h hs ns)(P:zB9 H p)(k:Kp [p] H H'):Hlv H' h hs ns:=⟨k _ _ x.top (nm1 (pne P x.top λa b z=>by
 injection z with z;subst z;obtain⟨_,_,_,e,_⟩:=x.all (.int a) (by simp)
 cases e)),x.ne,x.len,λv hv=>(x.all v hv).kpp P k⟩
structure Stt(C:Addr)(H:Hp)(l d c h x:Addr)(ns:List Str)(la:Str->Addr)(L:Str->List Str)(as:List Addr)(bs:List (List Str))(hs:List V)(J:JR):Prop where
 l:Txs H l ns
 d:DR H d ns la L
 c:au H c as bs
 h:Hlv H h hs ns
 j:aD C H x J
theorem Stt.kp0{C:Addr}{l d c h x:Addr}{la:Str->Addr}{L:Str->List Str}{bs:List (List Str)}{hs:List V}(s:Stt C H l d c h x ns la L as bs hs J)(k:Kp [] H H'):Stt C H' l d c h x ns la L as bs hs J:=⟨k _ _ s.l (by simp),s.d.kp0 k,s.c.kp k,s.h.kp0 k,s.j.kp0 k⟩
section
inductive fU(K:PySem.W.Frag)(vs:List V)(H:Hp)(Q:VK)(u_3:XK):Prop
 |mk:∀(a:Addr)(ns:List Int),vs=[.ref a]->SqL K H a (ns.map V.int)->ns.length<=63->(∀H',Q (.bl true) H')->fU K vs H Q u_3
abbrev b_:Stmt:=top 74
theorem zEe:ag ["_law_script","_law_purse_here","_law_names_here","_law_orders","_law_behind_here","_law_rows","_law_halves_here","_law_jobs_here","_law_benches","_law_cell_here","_law_paper"] ["_law_script"] (zAg b_):=fnS
theorem sU(F:Fun K "law" "law" b_ f fd)(T:Txt K mg)(C_cell:Cal P w K mg base "_law_cell" 1 ["_law_script","_law_k"] (hV K))(C_purse:Cal P w K mg base "_law_purse" 1 ["_law_cell_here","_law_k"] dR)(C_take:Cal P w K mg base "_law_take" 1 ["_law_purse_here","_law_many"] bo)(C_jobs:Cal P w K mg base "_law_jobs" 3 ["_law_purse_here","_law_most"] dS)(C_behind:Cal P w K mg base "_law_behind" 1 ["_law_names_here","_law_orders"] bw)
  (C_blocks:Cal P w K mg base "_law_blocks" 2 ["_law_purse_here","_law_names_here","_law_behind_here"] bD) (C_loose:Cal P w K mg base "_law_loose" 2 ["_law_names_here","_law_behind_here"] eK) (C_halves:Cal P w K mg base "_law_halves" 2 ["_law_names_here","_law_behind_here"] cj) (C_bad:Cal P w K mg base "_law_bad" 4 ["_law_cell_here","_law_names_here","_law_rows","_law_halves_here"] og) (C_is_paper:Cal P w K mg base "_law_is_paper" 3 ["_law_behind_here","_law_paper"] bB)
  (C_no_bench:Cal P w K mg base "_law_no_bench" 1 ["_law_cell_here"] bx) (C_told:Cal P w K mg base "_law_told" 8 ["_law_jobs_here","_law_benches","_law_paper"] (eL C)) (C_shown:Cal P w K mg base "shown" 7 ["jobs","benches","paper"] (bZ C)) (C_due:Cal P w K mg base "_law_due" 1 ["_law_names_here","_law_behind_here","_law_benches","_law_paper"] oA) (M_Jobs:Mkr P w K mg base C "Jobs" 4 ["self","names","orders"] (dU C)):ak P w K mg base CX0 9 f fd ["_law_script"] (fU K):=by
 refine F.ok zEe (λvs H Q E h=>?_) (λcdv A outer s H vs Q E hr h=>?_)
 .obtain ⟨a,ns,rfl,_⟩:=h;rfl
 .obtain ⟨sc,is,rfl,hS,hlen,k⟩:=h;have hr1:=hr.mono (j:=1) (by decide);have hr2:=hr.mono (j:=2) (by decide);have hr3:=hr.mono (j:=3) (by decide);have hr4:=hr.mono (j:=4) (by decide);have hr5:=hr.mono (j:=5) (by decide);have hr7:=hr.mono (j:=7) (by decide)
  refine⟨_,(PSZ.to (zBe (br (by exact(psS (i:=1) zEe.nd (zAh C_purse hr1 rfl (zAa (zAh C_cell hr1 rfl (zAa (pv 0) (zAa zAd zAb))) (zAa zAd zAb)))))) (zBe (br (by exact (eC (zAh C_jobs hr3 rfl (zAa (pv 1) (zAa zAd zAb))) (zIv rfl (zBf (pgN (i:=2) zEe.nd) (zBf (pgN (i:=3) zEe.nd) zD5))))))
   (zBe (br (by exact (psS (i:=4) zEe.nd (zAh C_behind hr1 rfl (zAa (pv 2) (zAa (pv 3) zAb))))))
   (zBe (br (by exact (psS (i:=5) zEe.nd (zAh C_blocks hr2 rfl (zAa (pv 1) (zAa (pv 2) (zAa (pv 4) zAb)))))))
   (zBe (br (by exact (psS (i:=6) zEe.nd (zAj zAb))))
   (zBe (br (by exact (zBk (zAr (zEt hr) (pv 2) (zAj zAb) (zAv _))
    (zAe (psS (i:=6) zEe.nd (zAn zC0 (zAh C_loose hr2 rfl (zAa (pv 2) (zAa (pv 4) zAb))) (zAh C_halves hr2 rfl (zAa (pv 2) (zAa (pv 4) zAb))))))
    zAs)))
   (zBe (br (by exact (psS (i:=7) zEe.nd (nV M_Jobs hr5 rfl (zAa (zA8 zBu (by rfl) T.z_list zCe (zAa (pv 2) zAb)) (zAa (zA8 zBu (by rfl) T.z_list zCe (zAa (pv 3) zAb)) zAb))))))
   (zBe (br (by exact (psS (i:=8) zEe.nd (zAn zCy zAd (zAh C_take hr1 rfl (zAa (pv 1) (zAa zAd zAb)))))))
   (zBe (br (zA7 qAc rfl (zAq (@zAn _ _ _ _ _ _ _ _ zC0 (by exact (zB1 zCi (pv 0) (zCd zAd) (zCd zAd))) (@zFg _ _ _ _ (zA5 zAd (zA5 zAd (zA5 zAd (zA5 zAd (zA5 zAd (zA5 zAd (zA5 zAd (zA5 zAd (zA5 zAd (zA5 zAd (zA5 zAd (zA5 zAd zCn))))))))))))))) (by exact (pgN (i:=9) zEe.nd))
    (PSZ.to (zBe (br (by exact (psS (i:=10) zEe.nd (zAh C_bad hr4 rfl (zAa (zAn zBr (zAi fP (by rfl) T.z_abs mE (zAa (pv 9) zAb)) zAd) (zAa (pv 2) (zAa (pv 5) (zAa (pv 6) zAb))))))))
    (zBe (br (by exact (zBk (PW.pt (zHl (zBm (zBi (zAh C_is_paper hr3 rfl (zAa (pv 4) (zAa (pv 10) zAb))))) (zGg (zAr zFu (zAh C_told hr rfl (zAa (pv 7) (zAa (pv 8) (zAa (pv 10) zAb)))) zAu (zAv _)))))
     (zAe zAz)
     zAs)))
    (zEq (br (by exact (zBk (zAr zFu (zAh C_told hr rfl (zAa (pv 7) (zAa (zAh C_no_bench hr1 rfl (zAa (zAi fP (by rfl) T.z_abs mE (zAa (pv 9) zAb)) zAb)) (zAa (zBd zA0 (zAj (zAa (pv 10) (zAa (zCa (zAa zAu (zAa (pv 5) zAb))) zAb))) (zAn zBa (pv 9) zAd) (fun _ _=>rfl)) zAb)))) zAu (zAv _))
     (zAe zAz)
     zAs)))))))))
   (zEq (br (by exact(zAw (zCs zD8 (zAh C_shown hr7 rfl (zAa (pv 7) (zAa (pv 8) (zAa (zCa (zAa zAu (zAa (pv 5) zAb))) zAb)))) (zAh C_due hr1 rfl (zAa (pv 2) (zAa (pv 4) (zAa (pv 8) (zAa (zCa (zAa zAu (zAa (pv 5) zAb))) zAb))))) (zAv _)))))))))))))))),?_⟩
  refine so ?_;intro _ _ _ _ _ _ _ _ _;have hz:=qAK;refine⟨_,rfl,sc,is,0,rfl,hS,by decide,λc0=>?_⟩;refine⟨c0,0,rfl,by decide,by decide,λp H1 fp P1 k1=>?_⟩;refine⟨_,rfl,p,20,rfl,by decide,by decide,P1,λt l m ns qs r H2 _ _ ht ft fl fm fq hl hm G P2 K2=>?_⟩;have k2:Kp [] H H2:=Kp.drop k1 fp K2;refine⟨_,_,rfl,.inl (.inl ht),rfl,_,_,rfl,_,_,rfl,rfl,?_⟩;refine⟨_,rfl,_,rfl,l,m,ns,qs,rfl,hl,hm,G.nd,G.few,G.qfew,G.qin,λd la L H3 D3 hL k3=>?_⟩;have P3:=P2.kp k3 (by simp);have hl3:Txs H3 l ns:=k3 _ _ hl (by simp);have Lin:∀n∈ns,(L n).Nodup/\∀x∈L n,x∈ns:=λn hn=>⟨(hL n hn).1,λx hx=>(Way.to hm.two G.qin (((hL n hn).2 x).mp hx)).2⟩;refine⟨_,rfl,_,rfl,_,rfl,p,l,d,pN ns L,r,la,L,rfl,P3,hl3,D3.rd,G.nd,G.few,λn hn x hx=>?_,λn hn x hx=>?_,λc as bs H4 fc fas R4 l20 BG P4 K4=>?_⟩
  .obtain ⟨h1,h2⟩:=zJr.mp hx;exact Way.rank G (((hL x h1).2 n).mp h2)
  .rw [zJr];exact⟨λh=>⟨hn,h⟩,λh=>h.2⟩
  have hl4:Txs H4 l ns:=K4 _ _ hl3 (nm1 (zJe hl3 P3));have D4:=D3.rd.kpp P3 K4
  have hm4:bA H4 m qs:=by
   have hm3:=hm.kp k3 (by simp) (by simp)
   exact hm3.kp K4 (nm1 (pne P3 hm3.top λx y z=>by
    injection z with z
    cases qs with
    |nil=>cases z
    |cons a as=>injection z with z;cases z)) (λq hq=>nm1 (pne P3 (hm3.row q hq) λ_ _ z=>nomatch z))
  refine⟨(by walk_at"ln"),λh0 q0=>?_⟩;obtain⟨H5,e5,k5,h5⟩:=aG (o:=.lst []) q0;rw[e5];refine gN ?_;dsimp only;refine ou (λσ H'=>∃h hs,σ=[some (.ref sc),some (.ref p),some (.ref l),some (.ref m),some (.ref d),some (.ref c),some (.ref h),none,none,none,none]/\Kp [] H4 H'/\Hlv H' h hs ns) ?_ λkey=>?_
  rotate_left
  .refine ⟨_,rfl,(by walk_at"ln"),λe0 qe=>?_⟩;obtain⟨H6,e6,k6,h6⟩:=aG (o:=.lst []) qe;rw[e6];have k46:=k5.trans k6;refine neR (SqL.of (k46 _ _ hl4 (by simp))) (SqL.of h6) λbb hbb=>⟨_,rfl,aA (λc2=>?_) (λc2=>key _ _ ⟨h0,[],rfl,k46,k6 _ _ h5 (by simp),λnn=>?_,by simp,(λ_ h=>nomatch h)⟩)⟩
   .have nn:ns≠[]:=λz=>hbb.mp c2 (by rw[z];rfl);refine⟨_,rfl,_,rfl,l,d,ns,la,L,rfl,k46 _ _ hl4 (by simp),D4.kp0 k46,G.few,λs1 vs1 H7 k7 f7 h7 l7 t7=>?_⟩;refine⟨_,rfl,_,rfl,l,d,ns,la,L,rfl,(k46.trans k7) _ _ hl4 (by simp),D4.kp0 (k46.trans k7),D3.ne,G.nd,G.few,nn,Lin,λs2 vs2 H8 k8 f8 h8 n8 l8 t8=>?_⟩;refine⟨s1,s2,vs1,vs2,rfl,rfl,k8 _ _ h7 (by simp),h8,by lia,λh hh=>?_⟩;obtain⟨H9,e9,k9,h9⟩:=aG (o:=.lst (vs1++vs2)) hh;rw[e9];refine key _ _ ⟨h,vs1++vs2,rfl,k46.trans (k7.trans (k8.trans k9)),h9,λ_ z=>n8 (List.append_eq_nil_iff.mp z).2,by rw[qAN];lia,λv hv=>?_⟩;rcases qAR.mp hv with z|z
    .exact (t7 v z).b.kp0 (k8.trans k9)
    .exact (t8 v z).b.kp0 k9
   .exact absurd (hbb.mpr λz=>nn (qCd.mp z)) c2
  rintro σ H6 ⟨h,hs,rfl,k6,hv6⟩;have hl6:Txs H6 l ns:=k6 _ _ hl4 (by simp);have hm6:=hm4.kp k6 (by simp) (by simp);have P6:=P4.kp k6 (by simp);refine⟨_,rfl,_,_,rfl,.inl (SqL.of hl6),λa1 ha1=>?_⟩;obtain⟨H7,e7,k7,h7⟩:=aG (o:=.lst (ns.map V.str)) ha1;rw[e7];have hm7:=hm6.kp k7 (by simp) (by simp);refine⟨_,rfl,_,_,rfl,.inl (SqL.of hm7.top),λa2 ha2=>?_⟩;obtain⟨H8,e8,k8,h8⟩:=aG (o:=.lst (qs.map λq=>V.ref q.2)) ha2;rw[e8];refine λx dx hx hdx nxd=>?_;have fx:Fre H8 x:=hx;have k9:Kp [] H8 (upd (upd H8 dx (.own x)) x (.ins C dx [])):=Kp.new (Kp.new Kp.refl hdx) fx;have hx9:(upd (upd H8 dx (.own x)) x (.ins C dx [])) x=some (.ins C dx []):=ac;generalize upd (upd H8 dx (.own x)) x (.ins C dx [])=H9 at k9 hx9 ⊢;refine⟨x,dx,a1,a2,ns,qs,r,rfl,hx9,(k8.trans k9) a1 _ h7 (by simp),⟨k9 a2 _ h8 (by simp),λq hq=>(k7.trans (k8.trans k9)) _ _ (hm6.row q hq) (by simp),hm6.two⟩,G,λJ H10 A10 N10 ens ezs K10=>⟨rfl,?_⟩⟩;subst ens;have k610:Kp [] H6 H10:=(k7.trans k8).trans (Kp.drop k9 fx K10);have P10:=P6.kp k610 (by simp);have SW:∀n∈J.ns,∀y∈J.ns,y∈L n↔n∈J.S y:=λn hn y hy=>((hL n hn).2 y).trans (uU A10 G ezs hy).symm;have BJ:bi J bs:=BG.to rfl λn hn y hy h=>(SW n hn y hy).mp h;have S10:Stt C H10 l d c h x J.ns la L as bs hs J:=⟨k610 _ _ hl6 (by simp),(D4.kp0 k6).kp0 k610,(R4.kp k6).kp k610,hv6.kp0 k610,A10⟩;refine⟨_,rfl,p,4,rfl,P10,by decide,by decide +kernel,λdd H11 d0 d1 P11 K11=>?_⟩;refine⟨_,_,rfl,rfl,?_⟩
  have p9:∀{a:Addr},Fre H9 a->p≠a:=λ{a} fa=>by
   obtain⟨u,v,e,_⟩:=P6;exact ae fa ((k7.trans (k8.trans k9)) _ _ e (by simp))
  have S11:Stt C H11 l d c h x J.ns la L as bs hs J:=⟨K11 _ _ S10.l (nm1 (zJe S10.l P10)),S10.d.kpp P10 K11,S10.c.kpp P10 K11,S10.h.kpp P10 K11,A10.kp K11 λa o _ ha=>by
   rw[qAO.mp ha];refine⟨?_,p9 N10.r,p9 N10.p,p9 N10.e,λq hq=>p9 (N10.z q hq),λn hn=>p9 (N10.s n hn)⟩;obtain⟨u,v,e,_⟩:=P6;exact ae fx ((k7.trans k8) _ _ e (by simp))⟩
  clear S10 A10 N10 K10 hx9 k9 k8 k7 h7 h8 hm7 hm6;have k011:Kp [] H H11:=Kp.drop (((Kp.drop (k2.trans k3) fp K4).trans k6).trans k610) fp K11;have b1:1<=1+dd:=by lia
  have b2:1+dd<10^100:=Int.lt_trans (show 1+dd<1000 by lia) (by decide +kernel);generalize 1+dd=b at b1 b2;refine⟨_,rfl,_,rfl,_,rfl,_,_,rfl,k011.seq hS,λb3 hb3=>?_⟩
  obtain⟨js,ejs,ljs⟩:∃js:List Int,bH (is.map V.int) (some 1) (some 31)=js.map V.int/\js.length<=63:=by
   have hl:=zIa (is.map V.int) (some 1) (some 31);rw[qAD]at hl;unfold bH at hl ⊢;rw[<-qBl,<-qBk]at hl ⊢;exact⟨_,rfl,by rw[qAD]at hl;lia⟩
  rw[ejs];obtain⟨H12,e12,k12,h12⟩:=aG (o:=.lst (js.map V.int)) hb3;rw[e12];refine⟨(by walk_at"ln"),λb4 hb4=>?_⟩;obtain⟨H13,e13,k13,h13⟩:=aG (o:=.lst [.int 0,.int 5,.int 7,.int 8,.int 9,.int 200,.int 220,.int 480,.int 760,.int 1040,.int 1320,.int 260]) hb4;rw[e13];refine⟨b3,b4,_,_,rfl,rfl,k13 _ _ h12 (by simp),h13,by rw[qAD,hz];simp;lia,λb5 hb5=>?_⟩;obtain⟨H14,e14,k14,h14⟩:=aG (o:=.lst (js.map V.int++[.int 0,.int 5,.int 7,.int 8,.int 9,.int 200,.int 220,.int 480,.int 760,.int 1040,.int 1320,.int 260])) hb5;rw[e14];have h14:H14 b5=some (.lst ((js++[0,5,7,8,9,200,220,480,760,1040,1320,260]).map V.int)):=by rw[h14,qAP];rfl
  have S14:=S11.kp0 (k12.trans (k13.trans k14));generalize js++[0,5,7,8,9,200,220,480,760,1040,1320,260]=zs at h14;refine⟨_,rfl,⟨_,SqL.of h14⟩,zA3 (xs:=zs.map V.int) (λi σ H15=>(∃o9 o10:Option V,σ=[some (.ref sc),some (.ref p),some (.ref l),some (.ref m),some (.ref d),some (.ref c),some (.ref h),some (.ref x),some (.int b),o9,o10])/\Kp [] H14 H15) ⟨⟨_,_,rfl⟩,Kp.refl⟩ (λi σ H15 _ ⟨_,k15⟩=>SqL.of (k15 _ _ h14 (by simp))) ?_ ?_⟩
  .rintro i v σ H15 hv ⟨⟨o9,o10,rfl⟩,k15⟩;rw[qAY]at hv;obtain⟨ce,_,rfl⟩:=qBU.mp hv;have S15:=S14.kp0 k15;have az:0<=(if ce<0 then -ce else ce):=by split<;>lia
   refine⟨_,rfl,ce,rfl,_,_,rfl,rfl,⟨by decide,by decide +kernel⟩,_,rfl,_,rfl,_,rfl,_,l,c,h,J.ns,as,bs,hs,rfl,S15.l,G.few,S15.c,l20,λB hB=>⟨BJ.ne B hB,qAW (zB3 (i_ BJ.nd hB) (BJ.ns B hB)) G.few⟩,qCQ az (by decide),S15.h.top,S15.h.ne,S15.h.len,S15.h.all,λpv H16 k16 hp=>?_⟩;have S16:=S15.kp0 k16;refine gN ?_;dsimp only;refine ou (λσ H'=>σ=[some (.ref sc),some (.ref p),some (.ref l),some (.ref m),some (.ref d),some (.ref c),some (.ref h),some (.ref x),some (.int b),some (.int ce),some pv]/\Kp [] H16 H') ?_ λkey=>?_
   rotate_left
   .refine ⟨_,rfl,_,rfl,d,pv,J,la,L,rfl,S16.d,λn hn y hy h=>(SW n hn y hy).mpr h,hp,λbb H17 k17 g=>⟨_,rfl,?_⟩⟩
    cases bb with
    |true=>exact key _ _ ⟨rfl,k17⟩
    |false=>
     have ng:¬aW J H16 pv:=λz=>qAd (g z);have ng':¬aW J H17 pv:=λz=>ng (hp.back k17 z);refine⟨_,rfl,_,rfl,_,rfl,.bad x b pv J rfl (S16.j.kp0 k17) b1 (hp.kp0 k17) ng' λH18 k18=>?_⟩;refine⟨rfl,_,rfl,aw ?_⟩;exact key _ _ ⟨rfl,k17.trans k18⟩
   rintro σ H17 ⟨rfl,k17⟩;refine⟨_,rfl,_,rfl,ce,rfl,_,rfl,λbv H18 tb nb k18=>?_⟩;refine⟨_,rfl,_,rfl,(by walk_at"ln"),λt1 q1=>?_⟩;obtain⟨H19,e19,k19,h19⟩:=aG (o:=.tup [.str "blocks",.ref c]) q1;rw[e19];refine⟨(by walk_at"ln"),λb6 q2=>?_⟩;obtain⟨H20,e20,k20,h20⟩:=aG (o:=.lst [pv,.ref t1]) q2;rw[e20];obtain⟨v',_,av⟩:=tu (xs:=[pv,.ref t1]) (by simp) ce;refine⟨_,rfl,_,_,rfl,rfl,by decide,_,_,_,v',rfl,rfl,SqL.of h20,av,?_⟩;refine .bench x bv v' rfl (zCu tb (k19.trans k20)) nb λH21 k21=>?_;exact⟨rfl,_,rfl,aw ⟨⟨_,_,rfl⟩,k15.trans (k16.trans (k17.trans (k18.trans (k19.trans (k20.trans k21)))))⟩⟩
  .rintro σ H15 ⟨⟨o9,o10,rfl⟩,k15⟩;have S15:=S14.kp0 k15;refine⟨_,rfl,_,rfl,_,rfl,(by walk_at"ln"),λt1 q1=>?_⟩;obtain⟨H16,e16,k16,h16⟩:=aG (o:=.tup [.str "blocks",.ref c]) q1;rw[e16];have S16:=S15.kp0 k16;refine⟨x,t1,c,b,J,as,bs,rfl,S16.j,b1,b2,h16,S16.c,l20,BJ,λH17 k17=>?_⟩;refine⟨_,rfl,_,rfl,_,rfl,_,rfl,(by walk_at"ln"),λt2 q2=>?_⟩;obtain⟨H18,e18,k18,h18⟩:=aG (o:=.tup [.str "blocks",.ref c]) q2;rw[e18];refine⟨_,_,t2,c,b,as,bs,rfl,b1,b2,h18,S16.c.kp (k17.trans k18),l20,λH19=>⟨rfl,?_⟩⟩;rw[qAV rfl];exact k H19
end
def Hd(K:PySem.W.Frag)(x q:Str)(st:Stmt)(f:Addr):Prop:=∃oc od kV dc pm an cd ct sl,K.lookup f=some ⟨oc,od,.func (PySem.W.fnOf x q (zDq st) (zCt st) (zAg st) .none kV dc pm an cd ct),sl⟩/\PySem.W.codeIn K cd q=true/\PySem.W.keepIn K (.ref f)=true
def Dft(K:PySem.W.Frag)(x:Str)(st:Stmt)(f:Addr):Prop:=PySem.W.nsIn K mainGlobals x=some (some (.ref f))/\Hd K x x st f
def nnB(K:PySem.W.Frag)(x:Str):Bool:=match PySem.W.nsIn K mainGlobals x with
 |some none=>true
 |_=>false
theorem tW{K:PySem.W.Frag}{x:Str}{h:Heap}{mg:Str->Option Value}(X:K.In h)(G:h.Ns mainGlobals mg){xs:List Str}(a:xs.all (nnB K)=true)(m:x∈xs):mg x=none:=by
 have e:=qBt.mp a x m;unfold nnB at e;split at e
 .rename_i e2;exact PySem.W.mg_none_of X G e2
 .cases e
theorem Hd.to{K:PySem.W.Frag}{x q:Str}{st:Stmt}(t:Hd K x q st f):∃fd,Fun K x q st f fd:=by
 obtain⟨_,_,_,_,_,_,_,_,_,l,c,k⟩:=t;exact⟨_,ot l c k⟩
section
variable{K:PySem.W.Frag}{x q a b c d g:Str}{st:Stmt}{f:Addr}{fd:FuncData}(F:Fun K x q st f fd)
include F
theorem _root_.L2.Fun.b1(h:∀(kV doc pm:Value)(an:Option Addr)(cdv ct u:Value),bindArgs (PySem.W.fnOf x q (zDq st) (zCt st) (zAg st) .none kV doc pm an cdv ct) ⟨[u],[]⟩=pure [(a,u)]:=by intros;rfl):zDe K fd [a] []:=F.binds λkV doc pm an cdv ct us hl=>match us,hl with|[u],_=>h kV doc pm an cdv ct u
theorem _root_.L2.Fun.b2(h:∀(kV doc pm:Value)(an:Option Addr)(cdv ct u v:Value),bindArgs (PySem.W.fnOf x q (zDq st) (zCt st) (zAg st) .none kV doc pm an cdv ct) ⟨[u,v],[]⟩=pure [(a,u),(b,v)]:=by intros;rfl):zDe K fd [a,b] []:=F.binds λkV doc pm an cdv ct us hl=>match us,hl with|[u,v],_=>h kV doc pm an cdv ct u v
theorem _root_.L2.Fun.b3(h:∀(kV doc pm:Value)(an:Option Addr)(cdv ct u v w:Value),bindArgs (PySem.W.fnOf x q (zDq st) (zCt st) (zAg st) .none kV doc pm an cdv ct) ⟨[u,v,w],[]⟩=pure [(a,u),(b,v),(c,w)]:=by intros;rfl):zDe K fd [a,b,c] []:=F.binds λkV doc pm an cdv ct us hl=>match us,hl with|[u,v,w],_=>h kV doc pm an cdv ct u v w
theorem _root_.L2.Fun.b4(h:∀(kV doc pm:Value)(an:Option Addr)(cdv ct u v w z:Value),bindArgs (PySem.W.fnOf x q (zDq st) (zCt st) (zAg st) .none kV doc pm an cdv ct) ⟨[u,v,w,z],[]⟩=pure [(a,u),(b,v),(c,w),(d,z)]:=by intros;rfl):zDe K fd [a,b,c,d] []:=F.binds λkV doc pm an cdv ct us hl=>match us,hl with|[u,v,w,z],_=>h kV doc pm an cdv ct u v w z
end
section
variable{K:PySem.W.Frag}{mg:Str->Option Value}{x q:Str}{st:Stmt}{f:Addr}{fd:FuncData}{ps:List Str}{sp:Sp}{k:Nat}(P:Program)(w:World)(base:Heap)
theorem cal(g:mg x=some (.ref f))(F:Fun K x q st f fd)(b:zDe K fd ps [])(h:ak P w K mg base CX0 k f fd ps sp):Cal P w K mg base x k ps sp:=⟨f,fd,g,F.kp,b,h⟩
theorem nC(g:mg x=some (.ref f))(F:Fun K x q st f fd)(b:zDe K fd ps [])(h:ak P w K mg base (CX1 P w) k f fd ps sp):gj P w K mg base x k ps sp:=⟨f,fd,g,F.kp,b,h⟩
theorem vt{sp:Addr->Sp}(g:mg x=some (.ref f))(F:Fun K x q st f fd)(b:zDe K fd ps [])(h:gG P w K mg base k f fd ps sp):sG P w K mg base x k ps sp:=⟨f,fd,g,F.kp,b,h⟩
def Dfm(K:PySem.W.Frag)(C:Addr)(m q:Str)(st:Stmt)(f:Addr):Prop:=PySem.W.findIn K (.ref C) m=some (some (.ref f))/\PySem.W.isFn K (.ref f)=true/\Hd K m q st f
theorem mth{C:Addr}{m:Str}(t:Dfm K C m q st f)(F:Fun K m q st f fd)(b:zDe K fd ps [])(h:ak P w K mg base CX0 k f fd ps sp):Mth P w K mg base C m k ps sp:=⟨f,fd,⟨t.1,t.2.1,F.kp⟩,b,h⟩
end
theorem rW{l:PySem.W.OpenLaw}{w:World}{K:PySem.W.Frag}{h:Heap}{mg:Str->Option Value}{fa:Addr}(X:K.In h)(G:h.Ns mainGlobals mg)(hfa:mg "law"=some (.ref fa)){C f0 f1 f2 f3 f4 f5 f6 f7 f8 f9 f10 f11 f12 f13 f14 f15 f16 f17 f18 f19 f20 f21 f22 f23 f24 f25 f26 f27 f28 f29 f30 f31 f32 f33 f34 f35 f36 f37 f38 f39 c_BenchError c_NoBench c_NoPaper c_NoTurns c_TooMany c_NoEnd c_NoJob c_NoLength c_NoLine c_NoName c_NoRow c_NoText c_NoWindow c_NoWood c_Ring c_Stranger c_Twice:Addr}{t_LONGEST_NAME t_MOST_JOBS:Tok}
  (aC:PySem.W.nsIn K mainGlobals "Jobs"=some (some (.ref C)))
  (x_BenchError:PySem.W.nsIn K mainGlobals "BenchError"=some (some (.ref c_BenchError)))
  (x_NoBench:PySem.W.nsIn K mainGlobals "NoBench"=some (some (.ref c_NoBench)))
  (x_NoPaper:PySem.W.nsIn K mainGlobals "NoPaper"=some (some (.ref c_NoPaper)))
  (x_NoTurns:PySem.W.nsIn K mainGlobals "NoTurns"=some (some (.ref c_NoTurns)))
  (x_TooMany:PySem.W.nsIn K mainGlobals "TooMany"=some (some (.ref c_TooMany)))
  (x_NoEnd:PySem.W.nsIn K mainGlobals "NoEnd"=some (some (.ref c_NoEnd)))
  (x_NoJob:PySem.W.nsIn K mainGlobals "NoJob"=some (some (.ref c_NoJob)))
  (x_NoLength:PySem.W.nsIn K mainGlobals "NoLength"=some (some (.ref c_NoLength)))
  (x_NoLine:PySem.W.nsIn K mainGlobals "NoLine"=some (some (.ref c_NoLine)))
  (x_NoName:PySem.W.nsIn K mainGlobals "NoName"=some (some (.ref c_NoName)))
  (x_NoRow:PySem.W.nsIn K mainGlobals "NoRow"=some (some (.ref c_NoRow)))
  (x_NoText:PySem.W.nsIn K mainGlobals "NoText"=some (some (.ref c_NoText)))
  (x_NoWindow:PySem.W.nsIn K mainGlobals "NoWindow"=some (some (.ref c_NoWindow)))
  (x_NoWood:PySem.W.nsIn K mainGlobals "NoWood"=some (some (.ref c_NoWood)))
  (x_Ring:PySem.W.nsIn K mainGlobals "Ring"=some (some (.ref c_Ring)))
  (x_Stranger:PySem.W.nsIn K mainGlobals "Stranger"=some (some (.ref c_Stranger)))
  (x_Twice:PySem.W.nsIn K mainGlobals "Twice"=some (some (.ref c_Twice)))
  (l0:Dft K "_law_take" iD f0)
  (l1:Dft K "_law_purse" eR f1)
  (l2:Dft K "_law_cell" iJ f2)
  (l3:Dft K "is_name" zFp f3)
  (l4:Dft K "is_one_of" zD0 f4)
  (l5:Dft K "check_job" zFf f5)
  (l6:Dft K "check_names" zD2 f6)
  (l7:Dft K "check_parts" zD1 f7)
  (l8:Dft K "told_ahead" zEo f8)
  (l9:Dft K "has_all" zFq f9)
  (l10:Dft K "joined" zJd f10)
  (l11:Dft K "all_ahead" zC8 f11)
  (l12:Dfm K C "__init__" "Jobs.__init__" zCk f12)
  (l13:Dfm K C "names" "Jobs.names" zEp f13)
  (l14:Dfm K C "is_ahead" "Jobs.is_ahead" zC9 f14)
  (l15:Dft K "is_whole" zE1 f15)
  (l16:Dft K "check_benches" zB4 f16)
  (l17:Dft K "turns_filled" zDp f17)
  (l18:Dft K "has_all_behind" zBl f18)
  (l19:Dft K "check_block" zC2 f19)
  (l20:Dft K "check_blocks" zBz f20)
  (l21:Dft K "shown_by_blocks" zBb f21)
  (l22:Dft K "shown" zJb f22)
  (l23:Dft K "_law_names" zJc f23)
  (l24:Dft K "_law_pairs" eG f24)
  (l25:Dft K "_law_jobs" dQ f25)
  (l26:Dft K "_law_behind" zG4 f26)
  (l27:Dft K "_law_blocks" zE2 f27)
  (l28:Dft K "_law_kind" dC f28)
  (l29:Dft K "_law_no_bench" zGe f29)
  (l30:Dft K "_law_halves" zG3 f30)
  (l31:Dft K "_law_loose" zGf f31)
  (l32:Dft K "_law_put_in" zG2 f32)
  (l33:Dft K "_law_bad_row" zFr f33)
  (l34:Dft K "_law_bad" lO f34)
  (l35:Dft K "_law_shows" zHk f35)
  (l36:Dft K "_law_is_paper" zDu f36)
  (l37:Dft K "_law_told" gX f37)
  (l38:Dft K "_law_due" iZ f38)
  (l39:Dft K "law" b_ f39)
  (pg:PySem.W.plainGet K C Str.empty=true)
  (hd:PySem.W.hasDictIn K C=true)
  (po:PySem.W.plainOver K C=true)
  (sa:PySem.W.findIn K (.ref C) "__setattr__"=some (some (.builtin "object.__setattr__")))
  (mk:PySem.W.makesIn K C=true)
  (kc:PySem.W.keepIn K (.ref C)=true)
  (n_row:PySem.W.findIn K (.ref C) "row"=some none)
  (n_pairs:PySem.W.findIn K (.ref C) "pairs"=some none)
  (n_above:PySem.W.findIn K (.ref C) "above"=some none)
  (zz:List.all (α:=Str) ["len","max","range","int","str","list","all","min","dict","bool","abs","reversed","enumerate","any","zip","sum","isinstance","sorted","set","tuple","ValueError"] (nnB K)=true)
  (f_ok_NoBench:PySem.W.excIn K c_NoBench iH "ValueError.__new__"=true)
  (f_sub_NoBench:PySem.W.mroIn K c_NoBench (.ref c_BenchError)=some true)
  (f_ok_NoPaper:PySem.W.excIn K c_NoPaper iH "ValueError.__new__"=true)
  (f_sub_NoPaper:PySem.W.mroIn K c_NoPaper (.ref c_BenchError)=some true)
  (f_xb:cD K c_BenchError=true)
  (f_kd_NoBench:kdB K c_NoBench c_NoPaper c_NoTurns c_TooMany [c_NoEnd,c_NoJob,c_NoLength,c_NoLine,c_NoName,c_NoRow,c_NoText,c_NoWindow,c_NoWood] [c_Ring,c_Stranger,c_Twice] c_NoBench true false false false=true)
  (f_kd_NoPaper:kdB K c_NoBench c_NoPaper c_NoTurns c_TooMany [c_NoEnd,c_NoJob,c_NoLength,c_NoLine,c_NoName,c_NoRow,c_NoText,c_NoWindow,c_NoWood] [c_Ring,c_Stranger,c_Twice] c_NoPaper false true false false=true)
  (wA:∃(W:Addr)(od:Option Addr)(n:Nat) (sl:Array (Option Value)) (t1 t2 t3:Tok),PySem.W.nsIn K mainGlobals "WORDS"=some (some (.ref W))/\K.lookup W=some ⟨.type "tuple",od,.seq #[.str "blocks" t1,.str "behind" t2,.str "ahead" t3] n,sl⟩)
  (e_LONGEST_NAME:PySem.W.nsIn K mainGlobals "LONGEST_NAME"=some (some (.int 8 t_LONGEST_NAME)))
  (e_MOST_JOBS:PySem.W.nsIn K mainGlobals "MOST_JOBS"=some (some (.int 20 t_MOST_JOBS)))
  :∃fd:FuncData,(∀(s:Shared)(v:Value),BindsTo s fd ⟨[v],[]⟩ [("_law_script",v)])/\∀base:Heap,K.In base->base.Ns mainGlobals mg->cV mg base->(∀q∈([]:List (Addr×Addr)),PySem.W.CodeHd base q.1 q.2)->ak l.prog w K mg base CX0 9 fa fd ["_law_script"] (fU K):=by
 have z:∀x,x∈_->mg x=none:=λx m=>tW X G zz m;have m:=λ(x:Str)(v:Value) (e:PySem.W.nsIn K mainGlobals x=some (some v))=>PySem.W.mg_of X G e;obtain⟨a,_,_,kV,dc,pm,an,cd,ct,_,u,v,k⟩:=l39
 cases hfa.symm.trans (m _ _ a)
 have T:Txt K mg:={z_len:=z _ (by decide),z_max:=z _ (by decide),z_range:=z _ (by decide),z_int:=z _ (by decide),z_str:=z _ (by decide),z_list:=z _ (by decide),z_all:=z _ (by decide),z_min:=z _ (by decide),z_dict:=z _ (by decide),z_bool:=z _ (by decide),z_abs:=z _ (by decide),z_reversed:=z _ (by decide),z_enumerate:=z _ (by decide),z_any:=z _ (by decide),z_zip:=z _ (by decide),z_sum:=z _ (by decide),z_isinstance:=z _ (by decide),z_sorted:=z _ (by decide),z_set:=z _ (by decide),z_tuple:=z _ (by decide),c_LONGEST_NAME:=⟨_,m _ _ e_LONGEST_NAME⟩,c_MOST_JOBS:=⟨_,m _ _ e_MOST_JOBS⟩};have U:JC K mg C:=⟨⟨pg,hd,po,sa⟩,n_row,n_pairs,n_above,m _ _ aC⟩;have XN:XC K mg "NoBench" c_NoBench:=⟨m _ _ x_NoBench,f_ok_NoBench⟩;have RN:=lv.of (CB:=c_BenchError) f_kd_NoBench (je f_ok_NoBench) (i4 f_sub_NoBench);have XP:XC K mg "NoPaper" c_NoPaper:=⟨m _ _ x_NoPaper,f_ok_NoPaper⟩;have RP:=lv.of (CB:=c_BenchError) f_kd_NoPaper (je f_ok_NoPaper) (i4 f_sub_NoPaper);have EB:uY K mg c_NoBench c_NoPaper c_NoTurns c_TooMany (ofL [c_NoEnd,c_NoJob,c_NoLength,c_NoLine,c_NoName,c_NoRow,c_NoText,c_NoWindow,c_NoWood]) (ofL [c_Ring,c_Stranger,c_Twice]):={c1:=m _ _ x_NoBench,c2:=m _ _ x_NoPaper,c3:=m _ _ x_NoTurns,c4:=m _ _ x_TooMany,n0:=m _ _ x_NoEnd,n1:=m _ _ x_NoJob,n2:=m _ _ x_NoLength,n3:=m _ _ x_NoLine,n4:=m _ _ x_NoName,n5:=m _ _ x_NoRow,n6:=m _ _ x_NoText,n7:=m _ _ x_NoWindow,n8:=m _ _ x_NoWood,m0:=m _ _ x_Ring,m1:=m _ _ x_Stranger,m2:=m _ _ x_Twice,zv:=z _ (by decide)};obtain⟨W,_,_,_,_,_,_,wg,wl⟩:=wA;have WD:Wds K mg W:=⟨m _ _ wg,λH=>.inr ⟨_,_,_,wl,rfl,rfl,(show(3:Nat)<=sizeLine by rw[qAK];lia),.cons ⟨_,rfl⟩ (.cons ⟨_,rfl⟩ (.cons ⟨_,rfl⟩ .nil))⟩⟩;obtain⟨_,F0⟩:=l0.2.to;obtain⟨_,F1⟩:=l1.2.to;obtain⟨_,F2⟩:=l2.2.to;obtain⟨_,F3⟩:=l3.2.to;obtain⟨_,F4⟩:=l4.2.to;obtain⟨_,F5⟩:=l5.2.to;obtain⟨_,F6⟩:=l6.2.to;obtain⟨_,F7⟩:=l7.2.to;obtain⟨_,F8⟩:=l8.2.to;obtain⟨_,F9⟩:=l9.2.to;obtain⟨_,F10⟩:=l10.2.to;obtain⟨_,F11⟩:=l11.2.to;obtain⟨_,F12⟩:=l12.2.2.to;obtain⟨_,F13⟩:=l13.2.2.to;obtain⟨_,F14⟩:=l14.2.2.to;obtain⟨_,F15⟩:=l15.2.to;obtain⟨_,F16⟩:=l16.2.to;obtain⟨_,F17⟩:=l17.2.to;obtain⟨_,F18⟩:=l18.2.to;obtain⟨_,F19⟩:=l19.2.to;obtain⟨_,F20⟩:=l20.2.to;obtain⟨_,F21⟩:=l21.2.to;obtain⟨_,F22⟩:=l22.2.to;obtain⟨_,F23⟩:=l23.2.to;obtain⟨_,F24⟩:=l24.2.to;obtain⟨_,F25⟩:=l25.2.to;obtain⟨_,F26⟩:=l26.2.to;obtain⟨_,F27⟩:=l27.2.to;obtain⟨_,F28⟩:=l28.2.to;obtain⟨_,F29⟩:=l29.2.to;obtain⟨_,F30⟩:=l30.2.to;obtain⟨_,F31⟩:=l31.2.to;obtain⟨_,F32⟩:=l32.2.to;obtain⟨_,F33⟩:=l33.2.to;obtain⟨_,F34⟩:=l34.2.to;obtain⟨_,F35⟩:=l35.2.to;obtain⟨_,F36⟩:=l36.2.to;obtain⟨_,F37⟩:=l37.2.to;obtain⟨_,F38⟩:=l38.2.to;have F39:=ot (st:=b_) u v k;refine⟨PySem.W.fnOf "law" "law" (zDq b_) (zCt b_) (zAg b_) .none kV dc pm an cd ct,λs v=>.of_eq rfl,λB _ _ BL CH=>?_⟩;have C_take:=cal l.prog w B (m _ _ l0.1) F0 F0.b2 (qk F0);have C_purse:=cal l.prog w B (m _ _ l1.1) F1 F1.b2 (mh F1 T);have C_cell:=cal l.prog w B (m _ _ l2.1) F2 F2.b2 (pF F2 T);have C_is_name:=cal l.prog w B (m _ _ l3.1) F3 F3.b1 (ik F3 T);have C_is_one_of:=cal l.prog w B (m _ _ l4.1) F4 F4.b2 (dA F4 T);have C_oneA:=cal l.prog w B (m _ _ l4.1) F4 F4.b2 (pW F4 T);have C_check_job:=cal l.prog w B (m _ _ l5.1) F5 F5.b2 (eO F5 T C_is_one_of);have C_check_names:=cal l.prog w B (m _ _ l6.1) F6 F6.b1 (zIj F6 T C_is_name);have C_check_parts:=cal l.prog w B (m _ _ l7.1) F7 F7.b2 (zIi F7 T C_check_job);have C_told_ahead:=cal l.prog w B (m _ _ l8.1) F8 F8.b2 (zJk F8);have C_has_all:=cal l.prog w B (m _ _ l9.1) F9 F9.b2 (ig F9 T);have C_joined:=cal l.prog w B (m _ _ l10.1) F10 F10.b2 (lq F10);have C_all_ahead:=cal l.prog w B (m _ _ l11.1) F11 F11.b2 (e_ F11 T C_has_all C_joined);have M_Jobs:Mkr l.prog w K mg B C "Jobs" 4 ["self","names","orders"] (dU C):=⟨f12,_,⟨mk,l12.1,l12.2.1,kc⟩,m _ _ aC,F12.b3,(eI F12 T U C_check_names C_check_parts C_all_ahead C_told_ahead)⟩;have M_names:=mth l.prog w B l13 F13 F13.b1 (zJl F13 T U);have M_is_ahead:=mth l.prog w B l14 F14 F14.b3 (zGw F14 T U C_check_job);have C_is_whole:=cal l.prog w B (m _ _ l15.1) F15 F15.b1 (fX F15 T);have C_wholeT:=cal l.prog w B (m _ _ l15.1) F15 F15.b1 (kg F15 T);have C_check_benches:=cal l.prog w B (m _ _ l16.1) F16 F16.b1 (zEh F16 C_is_whole);have C_cb:=nC l.prog w B (m _ _ l16.1) F16 F16.b1 (jY F16 XN C_is_whole C_wholeT);have C_turns_filled:=cal l.prog w B (m _ _ l17.1) F17 F17.b2 (zHq F17);have C_hab:=cal l.prog w B (m _ _ l18.1) F18 F18.b3 (zGj F18 T U M_is_ahead);have C_habG:=cal l.prog w B (m _ _ l18.1) F18 F18.b3 (qJ F18 T U M_is_ahead);have C_check_block:=cal l.prog w B (m _ _ l19.1) F19 F19.b3 (zIk F19 T C_is_one_of);have C_cbX:=nC l.prog w B (m _ _ l19.1) F19 F19.b3 (rD F19 T XP C_oneA);have C_check_blocks:=cal l.prog w B (m _ _ l20.1) F20 F20.b2 (zHr F20 T U M_names C_check_block C_hab);have C_cbsX:=nC l.prog w B (m _ _ l20.1) F20 F20.b2 (qr F20 T U XP M_names C_cbX C_habG);have C_sbb:=cal l.prog w B (m _ _ l21.1) F21 F21.b3 (zDl F21 T C_check_blocks C_turns_filled);have C_sbbB:=nC l.prog w B (m _ _ l21.1) F21 F21.b3 (pe F21 T C_check_blocks C_turns_filled C_cbsX);have C_shownG:=cal l.prog w B (m _ _ l22.1) F22 F22.b3 (kh F22 T WD C_check_benches C_oneA C_sbb);have C_shownX:=nC l.prog w B (m _ _ l22.1) F22 F22.b3 (jS F22 T XP WD C_cb C_oneA C_sbbB C_wholeT);have C_lnames:=cal l.prog w B (m _ _ l23.1) F23 F23.b2 (m9 F23 T C_take);have C_pairs:=cal l.prog w B (m _ _ l24.1) F24 F24.b4 (nA F24 T C_take);have C_jobs:=cal l.prog w B (m _ _ l25.1) F25 F25.b2 (pV F25 T C_take C_lnames C_pairs);have C_lbehind:=cal l.prog w B (m _ _ l26.1) F26 F26.b2 (kP F26 T);have C_blocks:=cal l.prog w B (m _ _ l27.1) F27 F27.b3 (g5 F27 T C_take);have C_kind:=vt l.prog w B (m _ _ l28.1) F28 F28.b1 (pp F28 T EB);have C_no_bench:=cal l.prog w B (m _ _ l29.1) F29 F29.b1 (gC F29 T);have C_halves:=cal l.prog w B (m _ _ l30.1) F30 F30.b2 (kD F30);have C_loose:=cal l.prog w B (m _ _ l31.1) F31 F31.b2 (nq F31 T);have C_put_in:=cal l.prog w B (m _ _ l32.1) F32 F32.b3 (lD F32 T);have C_bad_row:=cal l.prog w B (m _ _ l33.1) F33 F33.b4 (iP F33 T C_put_in);have C_bad:=cal l.prog w B (m _ _ l34.1) F34 F34.b4 (rS F34 T C_bad_row);have C_shows:=cal l.prog w B (m _ _ l35.1) F35 F35.b4 (ma F35 T);have C_is_paper:=cal l.prog w B (m _ _ l36.1) F36 F36.b2 (gA F36 T C_shows);have C_told:=cal l.prog w B (m _ _ l37.1) F37 F37.b3 (oV F37 (m _ _ x_BenchError) f_xb RN RP C_shownX C_kind);have C_due:=cal l.prog w B (m _ _ l38.1) F38 F38.b4 (sE F38 T);exact sU F39 T C_cell C_purse C_take C_jobs C_lbehind C_blocks C_loose C_halves C_bad C_is_paper C_no_bench C_told C_shownG C_due M_Jobs
theorem vg{l:PySem.W.OpenLaw}{q:Program}{loose:List Str}{XP:(Str->Option Value)->Heap->Prop}{YP:World->Heap->Prop}{d:DefRec}{K:Params->PySem.W.Frag}(hn:l.most=some 63)(hdf:d.params.defaults=[])
  (hY:∀(w:World)(h:Heap),YP w h->(K w.params).In h) (hT:∀(w:World)(h:Heap),YP w h->PySem.W.TabsAt ([]:List (Addr×Addr)) h) (hKT:∀(w:World),∀q∈([]:List (Addr×Addr)),(K w.params).lookup q.2=none)
  (F:∀(w:World) (mg:Str->Option Value) (fa:Addr) (h:Heap),(K w.params).In h->h.Ns mainGlobals mg->mg d.name=some (.ref fa) ->
   ∃fd:FuncData,(∀(s:Shared)(u:Value),BindsTo s fd ⟨[u],[]⟩ [("_law_script",u)])/\∀base:Heap,(K w.params).In base->base.Ns mainGlobals mg->cV mg base->(∀q∈([]:List (Addr×Addr)),PySem.W.CodeHd base q.1 q.2)->ak l.prog w (K w.params) mg base CX0 9 fa fd ["_law_script"] (fU (K w.params))) :
  PySem.W.WalkO q loose XP YP l.row.toRowW d [] (λf vs=>PySem.call f vs) :=
 L2.oh (n:=63) (k:=9) (x:="_law_script") (CX:=λ_=>CX0) (sp:=λw=>fU (K w.params)) hn (by decide) hdf ⟨rfl,by decide,by decide,rfl⟩ hY hT hKT F (λ_ _ a ns hl hS hH=>⟨a,ns,rfl,hS,hl,λ_=>rfl⟩) λ_ _ _ _ _ z=>z
end My
namespace PySem.W.Fast
def tw3293543240583177891:=0
def tw8656069727451543527:=0
def tw9801642894371690798:=0
def tw7902447455241930181:=0
def tw4820519143025223525:=0
def tw137537641723553090:=0
def tw18272455622773477852:=0
def tw8452164830512525007:=0
def tw9652492534727207182:=0
def tw211358699135954162:=0
def tw2162314502263804781:=0
def tw876036431898266542:=0
def tw8437871987970034467:=0
def tw14353559181534534070:=0
def tw12377180525852410652:=0
def tw5452642217957288534:=0
def tw7716393480397028971:=0
def tw4730809787936224987:=0
def tw12837948635721872594:=0
def tw17754095817312470355:=0
def tw6609888148949501670:=0
def tw2231852886242039499:=0
def tw13185360409562038960:=0
def tw12334042339723725481:=0
def tw9031717475562561977:=0
def tw13750259592663499501:=0
def tw10393107482294676253:=0
def tw14192684548316038912:=0
def tw8538493590196916763:=0
def tw5724844341586065678:=0
def tw16448392227855062369:=0
def tw13387849778707196897:=0
def tw2622049266670069191:=0
def tw3565878931229646566:=0
def tw8151928339039899754:=0
def tw5164634470091375152:=0
def tw6162048922392002770:=0
def tw17482091410111158630:=0
def tw14190638153392475719:=0
def tw12845197563403836601:=0
def tw3778537164011605566:=0
def tw12773979349412692344:=0
def tw15708726405724519844:=0
def tw9607818697081861350:=0
def tw12353531366913969162:=0
def tw12976052732640396:=0
def tw17685344689551456445:=0
def tw6166604481211983264:=0
def tw3155696735992796661:=0
def tw15695926332402052397:=0
def tw13057375521421441940:=0
def tw7673617483443268982:=0
def tw6361496716175791256:=0
def tw4158077682148618657:=0
def tw9320035439884661905:=0
def tw179342117435431511:=0
def tw11399815410845089185:=0
def tw6925573056177030071:=0
def tw7800574844775859807:=0
def tw708295749153654702:=0
def tw7467941612323862297:=0
def tw13006860516182030414:=0
def tw12286448636150461876:=0
def tw8892353392595973758:=0
def tw12769060635160033287:=0
def tw7156413433458772854:=0
def tw5905573120313106174:=0
def tw10331552245499425955:=0
def tw250401574027982036:=0
def tw623638276938178648:=0
def tw15825519141054463061:=0
def tw9011219566433806823:=0
def tw8608303441865962753:=0
def tw1692975737612980417:=0
def tw4978490048750586868:=0
def tw355467853757884288:=0
def tw8375367050458799198:=0
def tw8709010804917572877:=0
def tw18312809433938214785:=0
def tw8107674826523322375:=0
def tw1355385446337115338:=0
def tw13109888000925746732:=0
def tw6209040886458737935:=0
def tw15493968708319189763:=0
def tw5186389859973800077:=0
def tw4645983220550978790:=0
def tw11936982513149836523:=0
def tw17291350166986754443:=0
def tw5908433851610580684:=0
def tw2887925205610972807:=0
def tw12900028558443088896:=0
def tw2954408762121069084:=0
def tw1016504470762647125:=0
def tw12163329196177705893:=0
def tw10186240038136795305:=0
def tw11605147857657113158:=0
def tw1411908359164030210:=0
def tw1134691992368672723:=0
def tw990256351347455943:=0
def tw2472442583221663818:=0
def tw7674780611403162032:=0
def tw5735600161457704891:=0
def tw15951178003418635946:=0
def tw6815324803502301530:=0
def tw18050216540197645842:=0
def tw3962445796345103826:=0
def tw11228568641165066869:=0
def tw8420291999585265665:=0
def tw11359026781510087212:=0
def tw1113398356066467984:=0
def tw3656737874402336006:=0
def tw14630358283270677859:=0
def tw6671299604732398478:=0
def tw8979814138999716574:=0
def tw2596291735646111591:=0
def tw1906138010238545117:=0
def tw4629278138245607420:=0
def tw6421087717043786278:=0
def tw10781009108922523046:=0
def tw15321532102208450204:=0
def tw2251568468221193939:=0
def tw14703246335123107639:=0
def tw997562946840564960:=0
def tw6078063238862544395:=0
def tw12684261958254548972:=0
def tw12296878323207572542:=0
def tw8758722411383068297:=0
def tw10085737768593459502:=0
def tw3458443263295035367:=0
def tw17761445678536871600:=0
def tw12935714770809436136:=0
def tw8157578707410030725:=0
def tw6411700429021942830:=0
def tw16326911516554463280:=0
def tw4914185792869949482:=0
def tw16674568712072868427:=0
def tw2469825893659398275:=0
def tw6132158445112309983:=0
def tw12517980897798649761:=0
def tw6930289535448158987:=0
def tw13692874717381013090:=0
def tw18013297904361751180:=0
def tw16450598200631695549:=0
def tw11170784544520886623:=0
def tw6312569887225290446:=0
def tw16551155831967031816:=0
def tw4184754273069827185:=0
def tw15693283282968455016:=0
def tw8030950294989684018:=0
def tw7859428545019959339:=0
def tw17811645955589500446:=0
def tw15168056743299397489:=0
def tw10716408450823640431:=0
def tw15890421457778355108:=0
def tw13142497272585568717:=0
def tw16590233864175947762:=0
def tw14035524561053069123:=0
def tw1006030717497486308:=0
def tw4917045310263011394:=0
def tw15315567768016347108:=0
def tw8109900748728709109:=0
def tw17526818715706235105:=0
def tw1491898999437774297:=0
def tw13003744636263318721:=0
def tw6378753272078735963:=0
def tw17810101442325913996:=0
def tw11610461093017460217:=0
def tw15632337177902050138:=0
def tw3976048767222441727:=0
def tw2276784048084551015:=0
def tw12909551993686431082:=0
def tw13032207230328760341:=0
def tw7049044501136064444:=0
def tw4714910991981568714:=0
def tw17219781529693287839:=0
def tw960933855696838634:=0
def tw7971203848069133132:=0
def tw14996335369651904705:=0
def tw686209465223013455:=0
def tw16692088677385083477:=0
def tw14249512605750745685:=0
def tw16561010638973106190:=0
def tw1773957657993938784:=0
def tw5722720381652930715:=0
def tw13026689204962429455:=0
def tw14456237377452747516:=0
def tw5724092589043670778:=0
def tw13893737050448253310:=0
def tw2400906772046063388:=0
def tw17783884789916728701:=0
def tw7487408242289107210:=0
def tw444178709383148669:=0
def tw9868617655609991039:=0
def tw7476197231263833568:=0
def tw9407846708807374833:=0
def tw4165766836785376187:=0
def tw16147268586538940403:=0
def tw4796425418808458866:=0
def tw12779675390374255944:=0
def tw7218216848879781537:=0
def tw17369921601507395898:=0
def tw7447276070832756379:=0
def tw7559592948503710897:=0
def tw15695717725800610278:=0
def tw8820737497640155707:=0
def tw7386972512282725220:=0
def tw17932452036564942579:=0
def tw6206492608827400274:=0
def tw8263332569356458240:=0
def tw14608469390210137616:=0
def tw9629660987320954212:=0
def tw2301172176430363638:=0
def tw2789833902455127984:=0
def tw11877546627847718961:=0
def tw5626107980397867205:=0
def tw10603506605908884229:=0
def tw10482055994290916874:=0
def tw5443084625888760785:=0
def tw8050742397228701232:=0
def tw15659922768463612759:=0
def tw11750676190637232057:=0
def tw9099168404385571430:=0
def tw9429292007972791328:=0
def tw4566704917968671268:=0
def tw17181609115804767576:=0
def tw7754772990994341488:=0
def tw17985268082863758998:=0
def tw10068638974527759694:=0
def tw4875712043371057631:=0
def tw9502729000345148922:=0
def tw7539123339843991987:=0
def tw5141345722347100157:=0
def tw17612190823541730131:=0
def tw15144206271397775820:=0
def tw948943872550809464:=0
def tw16459235132383686676:=0
def tw18020846080530159012:=0
def tw392028304486028186:=0
def tw10756202473707032538:=0
def tw1968920139444941892:=0
def tw14580071292165075105:=0
def tw3313362583921910068:=0
def tw9348451276355893818:=0
def tw2068703902431214922:=0
def tw40484953689869265:=0
def tw16535921054505756626:=0
def tw6647599771669931021:=0
def tw17903935532012936589:=0
def tw7557629116947686945:=0
def tw11090314203440231433:=0
def tw8660197845317979578:=0
def tw16982619505625584321:=0
def tw7401268652485940305:=0
def tw1144437941728088742:=0
def tw16060058267146884429:=0
def tw17634403225992022043:=0
def tw6270096044356172255:=0
def tw12607525314352907607:=0
def tw2282314131826125518:=0
def tw3549516742968363518:=0
def tw8828290235432482873:=0
def tw6133579402053099866:=0
def tw11578951939971758426:=0
def tw11489456150291867970:=0
def tw18149254411771342869:=0
def tw14285773086348299148:=0
end PySem.W.Fast
open PySem PySem.W PyProof.Rows
set_option maxRecDepth 100000 in
set_option maxHeartbeats 0 in
theorem PySem.Challenge.cw_levelbench_k83_papers_refused_holds : PySem.Challenge.rw_levelbench_k83_papers_refused.Holds := by
 w_on;o_law;k_head;(case hw=>w_witness2)
 k_fill
 refine My.vg  (l:=PySem.Challenge.rw_levelbench_k83_papers_refused) rfl rfl (λw h Y=>PySem.W.km_in_of Y) (λw h Y=>λ_ h=>nomatch h) (λw=>λ_ h=>nomatch h) ?F
 case F=>
  intro w mg fa h KX G hmg;refine' My.rW  KX G hmg ?h0 ?h1 ?h2 ?h3 ?h4 ?h5 ?h6 ?h7 ?h8 ?h9 ?h10 ?h11 ?h12 ?h13 ?h14 ?h15 ?h16 ?h17 ?h18 ?h19 ?h20 ?h21 ?h22 ?h23 ?h24 ?h25 ?h26 ?h27 ?h28 ?h29 ?h30 ?h31 ?h32 ?h33 ?h34 ?h35 ?h36 ?h37 ?h38 ?h39 ?h40 ?h41 ?h42 ?h43 ?h44 ?h45 ?h46 ?h47 ?h48 ?h49 ?h50 ?h51 ?h52 ?h53 ?h54 ?h55 ?h56 ?h57 ?h58 ?h59 ?h60 ?h61 ?h62 ?h63 ?h64 ?h65 ?h66 ?h67 ?h68 ?h69 ?h70 ?h71 ?h72 ?h73 ?h74 ?h75 ?h76 ?h77
  all_goals try first|k_is|exact⟨by k_is,_,_,_,_,_,_,_,_,_,by k_is,by k_is,by k_is⟩|exact⟨by k_is,_,_,_,_,_,_,_,_,by k_is,by k_is,by k_is⟩|exact⟨by k_is,by k_is,_,_,_,_,_,_,_,_,_,by k_is,by k_is,by k_is⟩|k_exc|kernel_rfl|exact⟨_,_,_,_,_,_,_,by k_is,by k_is⟩
