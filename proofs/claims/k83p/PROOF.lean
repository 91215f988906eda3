import PyProof.Rows.All
import Wide.All
import OpenK.AllK
import Wide.FinOn
import Lean
import PyProof.EqAt
import PyProof.EqKinds
import PyProof.TupleCall
import PyProof.StrLawsTight
import PyProof.FitsReplace
import KE.KSortTup
import PyProof.TupleKey
import PyProof.SetKind
import PyProof.IsRules
import PyProof.Rows.SetFrom
import PyProof.CollectWalk
import PyProof.DictUpdate
import PyProof.AutoListH
import PyProof.SeqI3
import PyProof.EnumStmt
import PyProof.EnumMake
import PyProof.Rows.CallKwBuiltin
import PyProof.NeKinds
import PyProof.StationsW
import PyProof.ExcClass3
import PyProof.PassesOwn
import OpenK.KOwn
import PyProof.RulesAs
import PyProof.RulesDel
import KE.KIsAll
import PyProof.ExcArgsOwn
import PyProof.StrLawsIn
import PyProof.Rows.Range3
import PyProof.Rows.FStr
import KE.KRevIter
import PyProof.DictItems
import PyProof.AttrMissHeap
import PyProof.ListCopy
import KE.KDictOf
import KE.KDictSum
import PyProof.Rows.SortRev
import PyProof.Rows.IntMath
import KE.KLam
import KE.KSortKey
import KE.KNestM
import PyProof.ZipIter
import PyProof.Rows.SumAny
import PySem.Challenge.RW_levelbench_k83_papers_refused
set_option Elab.async false
set_option linter.all false
set_option maxRecDepth 100000
theorem ss{p:Prop}(h:p:=by simp):p:=h
theorem Ll{p:Prop}(h:p:=by lia):p:=h
theorem dD{p:Prop}(h:p:=by decide):p:=h
theorem kK{p:Prop}(h:p:=by decide +kernel):p:=h
theorem rR{p:Prop}(h:p:=by rfl):p:=h
theorem rF{a:Sort u}{b:a}:b=b:=rfl
def qAA:=@PySem.wpAny_bind
def qAB:=@if_neg
def qAC:=@if_pos
def qAD:=@List.length_map
def qAE:=@PySem.wpAny_pure
def qAF:=@PyProof.Rows.wpS_bind
def qAG:=@Nat.le_refl
def qAH:=@PyProof.Rows.wpS_pure
def qAI:=@PySem.Heap.lt_size
def qAJ:=@List.mem_of_getElem?
def qAK:=@PySem.sizeLine_eq
def qAL:=@List.getElem?_eq_some_iff
def qAM:=@PySem.Heap.get?_push_of_some
def qAN:=@List.length_append
def qAO:=@List.mem_singleton
def qAP:=@List.map_append
def qAQ:=@Nat.ne_of_lt
def qAR:=@List.mem_append
def qAS:=@List.size_toArray
def qAT:=@List.mem_cons
def qAU:=@List.length_take
def qAV:=@decide_eq_true
def qAW:=@Nat.le_trans
def qAX:=@List.mem_cons_of_mem
def qAY:=@List.getElem?_map
def qAZ:=@decide_eq_false
def qAa:=@List.length_cons
def qAb:=@Option.some.inj
def qAc:=@PySem.PassesOwn.never
def qAd:=@Bool.false_ne_true
def qAe:=@List.mem_map
def qAf:=@List.mem_cons_self
def qAg:=@List.take_length
def qAh:=@Ne.symm
def qAi:=@Nat.zero_le
def qAj:=@Nat.lt_of_lt_of_le
def qAk:=@PySem.Heap.get?_push_size
def qAl:=@congrArg
def qAm:=@List.append_nil
def qAn:=@List.length_singleton
def qAo:=@Array.getElem?_toList
def qAp:=@List.mem_append_left
def qAq:=@List.getElem?_eq_getElem
def qAr:=@PySem.Heap.SameBut.update
def qAs:=@List.mem_append_right
def qAt:=@List.map_cons
def qAu:=@PySem.Obj.data_mapFields
def qAv:=@PySem.wpAny_mono
def qAw:=@Int.emod_nonneg
def qAx:=@PySem.F.plainAttrs_list
def qAy:=@PySem.wpAny_holding
def qAz:=@List.length_drop
def qA0:=@Int.emod_lt_of_pos
def qA1:=@PyProof.Rows.wpS_forRange
def qA2:=@Nat.lt_irrefl
def qA3:=@PyProof.Rows.wpS_mono
def qA4:=@Nat.ne_of_gt
def qA5:=@List.getElem?_append_left
def qA6:=@PySem.wpAny_setField
def qA7:=@PyProof.Rows.wpS_modify
def qA8:=@PySem.W.kia_one
def qA9:=@PySem.Heap.get?_update_self
def qBA:=@List.flatten_cons
def qBB:=@List.length_nil
def qBC:=@List.nodup_nil
def qBD:=@PySem.wpAny_rule
def qBE:=@PySem.wpAny_field
def qBF:=@List.filter_cons
def qBG:=@beq_eq_false_iff_ne
def qBH:=@List.mem_range
def qBI:=@List.nodup_cons
def qBJ:=@List.getElem?_append_right
def qBK:=@List.append_assoc
def qBL:=@List.mem_iff_getElem
def qBM:=@Array.getElem?_eq_some_iff
def qBN:=@List.take_of_length_le
def qBO:=@List.map_map
def qBP:=@PySem.wpAny_truthy_bool
def qBQ:=@beq_iff_eq
def qBR:=@PySem.Heap.size_push
def qBS:=@Bool.and_eq_true
def qBT:=@PySem.call_meets
def qBU:=@Option.map_eq_some_iff
def qBV:=@List.lookup_cons
def qBW:=@PyProof.Rows.wpS_get
def qBX:=@List.nodup_append
def qBY:=@List.filter_append
def qBZ:=@List.mem_filter
def qBa:=@PySem.wpAny_newObj_type
def qBb:=@List.take_append_drop
def qBc:=@PySem.wpAny_askSetting
def qBd:=@PySem.Obj.isFreed_of_fields
def qBe:=@List.length_filter_le
def qBf:=@PySem.codeAny_mono
def qBg:=@List.getD_eq_getElem?_getD
def qBh:=@Classical.byContradiction
def qBi:=@Array.toList_extract
def qBj:=@List.mem_of_mem_take
def qBk:=@List.map_take
def qBl:=@List.map_drop
def qBm:=@of_decide_eq_true
def qBn:=@List.flatten_append
def qBo:=@List.filterMap_cons
def qBp:=@PySem.typeIs_str
def qBq:=@PySem.Heap.get?_update_other
def qBr:=@List.foldl_cons
def qBs:=@Nat.lt_succ_of_lt
def qBt:=@List.all_eq_true
def qBu:=@PyProof.Rows.wpS_lift
def qBv:=@PySem.codeAny_builtin
def qBw:=@PySem.F.called_set
def qBx:=@List.length_eq_zero_iff
def qBy:=@PySem.wpAny_call_entry
def qBz:=@PySem.F.slot_list_append
def qB0:=@PySem.F.type_list_append
def qB1:=@List.length_pos_iff
def qB2:=@Array.length_toList
def qB3:=@PySem.wpAny_passesOwn
def qB4:=@PySem.wpAny_load
def qB5:=@Bool.eq_iff_iff
def qB6:=@Nat.le_succ
def qB7:=@if_false
def qB8:=@List.getElem_mem
def qB9:=@PySem.wpAny_attempt
def qCA:=@PySem.Obj.cls_mapFields
def qCB:=@List.countP_append
def qCC:=@Nat.sub_self
def qCD:=@PySem.Paired.length
def qCE:=@List.getElem?_set_self
def qCF:=@PySem.wpAny_call
def qCG:=@PySem.wpAny_Call_Name_kw
def qCH:=@PySem.mem_of_lookup
def qCI:=@List.any_cons
def qCJ:=@List.find?_cons
def qCK:=@Array.toList_push
def qCL:=@List.getElem?_drop
def qCM:=@PySem.wpAny_of_eq
def qCN:=@Nat.not_lt
def qCO:=@PySem.wpAny_seqItems
def qCP:=@PySem.wpAny_isInstance
def qCQ:=@Int.ediv_nonneg
def qCR:=@Nat.le_of_lt
def qCS:=@PySem.wpAny_execs_nil
def qCT:=@PyProof.Rows.callWith_type1
def qCU:=@Nat.le_of_eq
def qCV:=@Nat.lt_succ_self
def qCW:=@PySem.W.callWith_K
def qCX:=@List.replicate_succ
def qCY:=@Array.toList_append
def qCZ:=@List.getElem?_cons_succ
def qCa:=@List.not_mem_nil
def qCb:=@PySem.Around.under_plainId
def qCc:=@PySem.wpAny_callSpecial?_slot
def qCd:=@List.map_eq_nil_iff
def qCe:=@Bool.false_eq_true
def qCf:=@List.drop_of_length_le
def qCg:=@List.all_map
def qCh:=@PyProof.Rows.wpS_reverse
def qCi:=@PySem.F.slot_list_extend
def qCj:=@PySem.F.type_list_extend
def qCk:=@List.flatten_nil
def qCl:=@List.getElem?_set_ne
def qCm:=@PySem.wpAny_standAt
def qCn:=@List.of_mem_zip
def qCo:=@PySem.W.cellsFrom_some
def qCp:=@Int.toNat_natCast
def qCq:=@List.length_set
def qCr:=@PySem.SeqAt.EqAt.same
def qCs:=@Nat.add_comm
def qCt:=@Nat.lt_trans
def qCu:=@PySem.tupleKind_room_in1
def qCv:=@PySem.wpAny_specialOf
def qCw:=@PySem.pushCells_keeps
def qCx:=@Nat.add_zero
def qCy:=@Nat.le_add_right
def qCz:=@List.mem_of_mem_drop
def qC0:=@List.getElem?_eq_none
def qC1:=@List.take_succ
def qC2:=@PySem.plainId_quiet
def qC3:=@Array.perm_iff_toList_perm
def qC4:=@PySem.F.sub_str_dict
def qC5:=@decide_eq_true_eq
def qC6:=@List.take_zero
def qC7:=@List.drop_eq_getElem_cons
def qC8:=@PySem.F.slot_list_insert
def qC9:=@PySem.F.type_list_insert
def qDA:=@PySem.wpAny_pyIter_zip
def qDB:=@List.mem_flatten
def qDC:=@Array.mem_toList_iff
def qDD:=@List.getElem?_take_of_lt
def qDE:=@List.mem_of_find?_eq_some
def qDF:=@Array.size_setIfInBounds
def qDG:=@Array.getElem?_setIfInBounds_ne
def qDH:=@Array.getElem?_setIfInBounds_self_of_lt
def qDI:=@PyProof.Rows.F.plain_set_update_loop
def qDJ:=@PySem.codeAny_call_builtin
def qDK:=@PySem.builtinLookup_eq_fast
def qDL:=@List.getElem?_eq_none_iff
def qDM:=@Option.map_eq_none_iff
def qDN:=@List.getElem?_of_mem
namespace L2
open PySem PySem.Spec PyProof.Rows
variable{us:List Value}{x:Str}{u:Value}{a C:Addr}{P:Program}{w:World}{h base:Heap}{t' i:Nat}{e tg:Expr}{A:Around}{s:Shared}{pos:Pos}{pins:List (Addr×Obj)}{op:CmpOp}{K:PySem.W.Frag}
abbrev Key:=Sum Int Str
def gh:Key->Value->Bool
 | .inl k,v=>Value.isInt k v
 | .inr x,v=>Value.isStrOf x v
def xE(w:World):Key->Int
 | .inl k=>hashInt k
 | .inr x=>hashStr w x
theorem zBo:∀{k:Key}{v:Value},gh k v=true->(∃i t,k=Sum.inl i/\v=Value.int i t)\/(∃x t,k=Sum.inr x/\v=Value.str x t)
 | .inl i,v,h=>by
  obtain⟨t,e⟩:=Value.isInt_shape (k:=i) (v:=v) h;exact .inl ⟨i,t,rF,e⟩
 | .inr x,v,h=>by
  obtain⟨t,e⟩:=Value.isStrOf_shape (x:=x) (v:=v) h;exact .inr ⟨x,t,rF,e⟩
theorem nQ(i:Int)(t:Tok):gh (.inl i) (.int i t)=true:=by simp[gh,Value.isInt]
theorem n_(x:Str)(t:Tok):gh (.inr x) (.str x t)=true:=by simp[gh,Value.isStrOf]
theorem vU(a b:Int):decide ((Sum.inl a:Key)=Sum.inl b)=(a==b):=by
 by_cases e:a=b
 .subst e;simp
 .have h:¬(Sum.inl a:Key)=Sum.inl b:=λq=>e$ Sum.inl.inj q;rw[qAZ h];exact(qBG.mpr e).symm
theorem vV(a b:Str):decide ((Sum.inr a:Key)=Sum.inr b)=decide (a=b):=by
 by_cases e:a=b
 .subst e;simp
 .have h:¬(Sum.inr a:Key)=Sum.inr b:=λq=>e$ Sum.inr.inj q;rw[qAZ h,qAZ e]
theorem wa(a:Int)(b:Str):decide ((Sum.inl a:Key)=Sum.inr b)=false:=qAZ (λq=>nomatch q)
theorem v7(a:Str)(b:Int):decide ((Sum.inr a:Key)=Sum.inl b)=false:=qAZ (λq=>nomatch q)
def zB5(prog:Program)(w:World):PySem.KeyKind prog w Key where
 is:=gh
 hash:=xE w
 inj:=λv a b S O=>by
  rcases zBo S with⟨i,t,rfl,rfl⟩|⟨x,t,rfl,rfl⟩
  .rcases zBo O with⟨j,u,rfl,e⟩|⟨y,u,rfl,e⟩
   .injection e with e1 _;rw[e1]
   .exact nomatch e
  .rcases zBo O with⟨j,u,rfl,e⟩|⟨y,u,rfl,e⟩
   .exact nomatch e
   .injection e with e1 _;rw[e1]
 byValue:=λk v h=>by
  rcases zBo h with⟨i,t,rfl,rfl⟩|⟨x,t,rfl,rfl⟩<;>rfl
 pyHash:=λV h=>by
  rcases zBo V with⟨i,t,rfl,rfl⟩|⟨x,t,rfl,rfl⟩
  .exact wpAny_pyHash_int h
  .exact wpAny_pyHash_str h
 eqBool:=λW V h=>by
  rcases zBo W with⟨i,t,rfl,rfl⟩|⟨x,t,rfl,rfl⟩
  .rcases zBo V with⟨j,u,rfl,rfl⟩|⟨y,u,rfl,rfl⟩
   .rw [vU]at h;exact wpAny_eqBool_int h
   .rw [wa]at h;exact SeqAt.EqAt.int_str i t y u _ _ _ _ h
  .rcases zBo V with⟨j,u,rfl,rfl⟩|⟨y,u,rfl,rfl⟩
   .rw [v7]at h;exact SeqAt.EqAt.str_int x t j u _ _ _ _ h
   .rw [vV]at h;exact wpAny_eqBool_str h
 «strs»:=λk x t v h=>by
  rcases zBo h with⟨i,u,rfl,e⟩|⟨y,u,rfl,e⟩
  .exact nomatch e
  .injection e with e1 _;subst e1
   cases v<;>rfl
theorem jT(prog:Program)(w:World)(i:Int)(t:Tok):(zB5 prog w).is (.inl i) (.int i t)=true:=nQ i t
theorem jZ(prog:Program)(w:World)(x:Str)(t:Tok):(zB5 prog w).is (.inr x) (.str x t)=true:=n_ x t
inductive V where
 |non|bl (b:Bool)|int (i:Int)|str (x:Str)|byt (b:Array UInt8)|flt (b:UInt64)|ref (a:Addr)|ty (n:String)
 deriving DecidableEq
variable{xs:List V}{v y:V}
def dy:V->Value->Prop
 | .non,u=>u=Value.none
 | .bl b,u=>u=Value.bool b
 | .int i,u=>∃t,u=Value.int i t
 | .str x,u=>∃t,u=Value.str x t
 | .byt b,u=>∃t,u=Value.bytes b t
 | .flt b,u=>∃t,u=Value.float b t
 | .ref a,u=>u=Value.ref a
 | .ty n,u=>u=Value.type n
abbrev dv:List V->List Value->Prop:=Paired dy
theorem dv.length(r:dv xs us):xs.length=us.length:=qCD r
theorem dv.get:∀{xs:List V}{us:List Value}{i:Nat}{x:V},dv xs us->xs[i]?=some x->∃u,us[i]?=some u/\dy x u
 |_,_,_,_,.nil,e=>by simp at e
 |_,_,0,_,.cons r _,e=>by simp at e;subst e;exact⟨_,rF,r⟩
 |_,_,i+1,x,.cons _ t,e=>by
  obtain⟨u,h1,h2⟩:=dv.get (i:=i) (x:=x) t (by simpa using e);exact⟨u,by simpa using h1,h2⟩
theorem dv.set{x:V}(r:dy x u):∀{xs:List V}{us:List Value}(i:Nat),dv xs us->dv (xs.set i x) (us.set i u)
 |_,_,_,.nil=>.nil
 |_,_,0,.cons _ t=>.cons r t
 |_,_,i+1,.cons q t=>.cons q (dv.set r i t)
theorem dv.append:∀{xs ys:List V}{us W:List Value},dv xs us->dv ys W->dv (xs++ys) (us++W)
 |_,_,_,_,.nil,s=>s
 |_,_,_,_,.cons r t,s=>.cons r (dv.append t s)
theorem dv.take:∀{xs:List V}{us:List Value}(n:Nat),dv xs us->dv (xs.take n) (us.take n)
 |_,_,0,_=>.nil
 |_,_,_+1,.nil=>.nil
 |_,_,n+1,.cons r t=>.cons r (dv.take n t)
theorem dv.drop:∀{xs:List V}{us:List Value}(n:Nat),dv xs us->dv (xs.drop n) (us.drop n)
 |_,_,0,r=>r
 |_,_,_+1,.nil=>.nil
 |_,_,n+1,.cons _ t=>dv.drop n t
def eP:Option V->Option Value->Prop
 |some v,some u=>dy v u
 |none,none=>True
 |_,_=>False
def KV{κ:Type}:List (κ×V)->List (κ×Value)->Prop:=Paired λ(p:κ×V)(q:κ×Value)=>p.1=q.1/\dy p.2 q.2
def kV:Key->V
 | .inl i=>.int i
 | .inr x=>.str x
inductive HO where
 |lst (xs:List V)
 |tup (xs:List V)
 |dK (kvs:List (Key×V))|dT (kvs:List (List Key×V))
 |set (S:Int->Bool) (n:Nat)
 |ins (C dx:Addr) (fs:List (Str×V))
 |own (x:Addr)
 |xd (fs:List (Str×V))
 |met (f x:Addr)
 |rng (lo hi:Int)
 |frz (o:Obj) (u:HO)
 |tbl (ps:Array Value)
 |ext (φ:Heap->Prop)
variable{o:HO}
abbrev Hp:=Addr->Option HO
variable{H:Hp}
def upd(H:Hp)(a:Addr)(o:HO):Hp:=λb=>if b=a then some o else H b
theorem ac :upd H a o a=some o:=by unfold upd;rw[qAC rF]
theorem a_{b:Addr}(h:b≠a):upd H a o b=H b:=by unfold upd;rw[qAB h]
theorem zB7{u:HO}:upd (upd H a o) a u=upd H a u:=by
 funext b;unfold upd;split<;>rfl
theorem zCp{b:Addr}{u:HO}(h:H a=some o)(h':H b=some u)(d:o≠u):a≠b:=by
 intro e;subst e;rw[h]at h';exact d$ qAb h'
theorem zAm{b:Addr}(h:H a=some o)(h':H b=none):a≠b:=by
 intro e;subst e;rw[h]at h';cases h'
section
variable(P:Program)(w:World)
def zBq(H:Hp)(h:Heap)(a:Addr):HO->Prop
 | .lst xs=>xs.length<=sizeLine/\∃(its:List Value)(n:Nat),dv xs its/\h.get? a=some {cls:=.type "list",data:=.seq its.toArray n}
 | .tup xs=>xs.length<=sizeLine/\∃its:List Value,dv xs its/\IsTup h a its.toArray
 | .dK O=>O.length<=sizeLine/\(a==sysModules)=false/\∃vs,KV O vs/\h.DictOf (zB5 P w) a vs
 | .dT O=>O.length<=sizeLine/\(a==sysModules)=false/\∃xs:List (List Key×Addr×Value),
   Paired (λ(p:List Key×V)(q:List Key×Addr×Value)=>p.1=q.1/\H q.2.1=some (.tup$ p.1.map kV)/\dy p.2 q.2.2) O xs /\
   ∃o es ep,h.get? a=some o/\o.ExactDict/\o.data= .dict es ep/\es.toList=xs.map (entryOfKey$ tupleKind$ zB5 P w)/\(xs.map (·.1)).Nodup
 | .set S n=>h.SetOf (intKind P w) a S n
 | .ins C dx fs=>H dx=some (.own a)/\fs.length<=1000/\dx≠a/\h.get? a=some (PySem.W.instObj C dx) /\
   ∃mA,h.Ns1 dx mA/\(∀f,eP (fs.lookup f) (mA f))/\PySem.Within mA (fs.map (·.1))
 | .own _=>∃o,h.get? a=some o
 | .xd fs=>∃mA,h.Ns1 a mA/\∀f,eP (fs.lookup f) (mA f)
 | .rng lo hi=>∃t u v,h.get? a=some {cls:=.type "range",data:=.fields #[.int lo t,.int hi u,.int 1 v]}
 | .frz o u=>h.get? a=some o/\zBq H h a u
 | .tbl ps=>h.get? a=some {cls:=.none,data:=.fields ps}
 | .met f x=>h.get? a=some (PySem.W.methodObj (.ref f)$ .ref x)
 | .ext W=>W h/\(∃o,h.get? a=some o)/\∀h1 h2:Heap,W h1->(∀o,h1.get? a=some o->h2.get? a=some o)->W h2
def HOk(H:Hp)(h:Heap):Prop:=∀a o,H a=some o->zBq P w H h a o
end
section
variable{P:Program}{w:World}{H H':Hp}{h h':Heap}{a:Addr}{o:HO}
theorem zBq.lt(x:zBq P w H h a o):a<h.objs.size:=by
 cases o with
 |lst xs=>obtain⟨_,_,_,_,e⟩:=x;exact qAI e
 |tup xs=>obtain⟨_,_,_,p⟩:=x;exact p.lt
 |dK O=>obtain⟨_,_,_,_,o,_,_,e,_⟩:=x;exact qAI e
 |dT O=>obtain⟨_,_,_,_,o,_,_,e,_⟩:=x;exact qAI e
 |set S n=>obtain⟨o,_,_,_,e,_⟩:=x;exact qAI e
 |ins C dx fs=>obtain⟨_,_,_,e,_⟩:=x;exact qAI e
 |own y=>obtain⟨_,e⟩:=x;exact qAI e
 |xd fs=>obtain⟨_,⟨_,_,_,e,_⟩,_⟩:=x;exact qAI e
 |rng lo hi=>obtain⟨_,_,_,e⟩:=x;exact qAI e
 |frz V u=>obtain⟨e,_⟩:=x;exact qAI e
 |tbl ps=>exact qAI$ show h.get? a=some _ from x
 |met f y=>exact qAI$ show h.get? a=some _ from x
 |ext W=>obtain⟨_,⟨_,e⟩,_⟩:=x;exact qAI e
theorem Paired.mapP{α S:Type}{F G:α->S->Prop}:∀{l₁:List α}{O:List S},Paired F l₁ O->(∀a b,F a b->G a b)->Paired G l₁ O
 |_,_,.nil,_=>.nil
 |_,_,.cons r t,f=>.cons (f _ _ r) (Paired.mapP t f)
theorem zBq.stay(x:zBq P w H h a o)(k:∀b u,(b=a\/H b=some (.own a))->h.get? b=some u->h'.get? b=some u)
  (ho:∀b,H b=some (.own a)->H' b=some (.own a)) (ht:∀b xs,H b=some (.tup xs)->H' b=some (.tup xs)):zBq P w H' h' a o:=by
 induction o with
 |lst xs=>obtain⟨z,its,n,r,e⟩:=x;exact⟨z,its,n,r,k _ _ (.inl rF) e⟩
 |tup xs=>obtain⟨z,its,r,O,e,c⟩:=x;exact⟨z,its,r,O,k _ _ (.inl rF) e,c⟩
 |dK V=>obtain⟨z,y,vs,r,O,es,ep,e,c⟩:=x;exact⟨z,y,vs,r,O,es,ep,k _ _ (.inl rF) e,c⟩
 |dT V=>
  obtain⟨z,y,xs,r,O,es,ep,e,c⟩:=x;exact⟨z,y,xs,Paired.mapP r λp q z=>⟨z.1,ht _ _ z.2.1,z.2.2⟩,O,es,ep,k _ _ (.inl rF) e,c⟩
 |set S n=>obtain⟨O,es,ep,t,e,c⟩:=x;exact⟨O,es,ep,t,k _ _ (.inl rF) e,c⟩
 |ins C dx fs=>
  obtain⟨d,z,ne,e,mA,⟨W,es,ep,e2,c⟩,r⟩:=x;exact⟨ho _ d,z,ne,k _ _ (.inl rF) e,mA,⟨W,es,ep,k _ _ (.inr d) e2,c⟩,r⟩
 |own y=>obtain⟨O,e⟩:=x;exact⟨O,k _ _ (.inl rF) e⟩
 |xd fs=>obtain⟨mA,⟨W,es,ep,e,c⟩,r⟩:=x;exact⟨mA,⟨W,es,ep,k _ _ (.inl rF) e,c⟩,r⟩
 |rng lo hi=>obtain⟨t,u,v,e⟩:=x;exact⟨t,u,v,k _ _ (.inl rF) e⟩
 |frz O u ih=>obtain⟨e,q⟩:=x;exact⟨k _ _ (.inl rF) e,ih q⟩
 |tbl ps=>
  have e:h.get? a=some {cls:=.none,data:=.fields ps}:=x;show h'.get? a=some {cls:=.none,data:=.fields ps};exact k a _ (.inl rF) e
 |met f y=>
  have e:h.get? a=some (PySem.W.methodObj (.ref f)$ .ref y):=x;show h'.get? a=some (PySem.W.methodObj (.ref f)$ .ref y);exact k a _ (.inl rF) e
 |ext φ=>obtain⟨p,⟨o,e⟩,st⟩:=x;exact⟨st _ _ p λo q=>k _ _ (.inl rF) q,⟨o,k _ _ (.inl rF) e⟩,st⟩
theorem HOk.lt(x:HOk P w H h)(e:H a=some o):a<h.objs.size:=(x a o e).lt
theorem HOk.fresh(x:HOk P w H h)(e:h.objs.size<=a):H a=none:=by
 cases q:H a with
 |none=>rfl
 |some u=>exact absurd (qAj (x.lt q) e)$ qA2 _
theorem HOk.kept(x:HOk P w H h)(k:∀b u,h.get? b=some u->h'.get? b=some u):HOk P w H h':=λa o e=>
 (x a o e).stay (λb u _ q=>k b u q) (λ_ q=>q) λ_ _ q=>q
theorem HOk.laid(x:HOk P w H h)(k:∀b u,h.get? b=some u->h'.get? b=some u)(S:h.objs.size<=a)(new:zBq P w (upd H a o) h' a o):HOk P w (upd H a o) h':=λb u e=>by
 have O:=x.fresh S
 by_cases hb:b=a
 .subst hb;rw[ac]at e;cases e;exact new
 .rw [a_ hb]at e;exact(x b u e).stay (λc v _ q=>k c v q) (λc q=>by rw[a_$ zAm q O];exact q) λc xs q=>by rw[a_$ zAm q O];exact q
end
def Rd(H:Hp)(a:Addr)(u:HO):Prop:=H a=some u\/∃o,H a=some (.frz o u)
theorem Rd.ok{u:HO}(r:Rd H a u)(x:HOk P w H h):zBq P w H h a u:=by
 rcases r with r|⟨o,r⟩
 .exact x a u r
 .obtain ⟨_,q⟩:=x a _ r;exact q
def Mut:Option HO->Prop
 |some (.lst _)=>True
 |some (.dK _)=>True
 |some (.dT _)=>True
 |some (.set _ _)=>True
 |some (.ins _ _ _)=>True
 |some (.ext _)=>True
 |_=>False
section
variable{P:Program}{w:World}{H:Hp}{h h':Heap}{x e:Addr}{o':HO}
theorem HOk.write(ok:HOk P w H h)(V:Mut (H x))(he:e=x\/H e=some (.own x))(k:∀b u,b≠e->h.get? b=some u->h'.get? b=some u)(W:∃u,h'.get? e=some u)
  (new:zBq P w (upd H x o') h' x o'):HOk P w (upd H x o') h':=λb u q=>by
 have O:∀c y,H c=some (.own y)->c≠x:=λc y r z=>by subst z;rw[r]at V;exact V
 have S:∀c xs,H c=some (.tup xs)->c≠x:=λc xs r z=>by subst z;rw[r]at V;exact V
 by_cases hb:b=x
 .subst hb;rw[ac]at q;cases q;exact new
 .rw [a_ hb]at q
  by_cases hbe:b=e
  .have q':H b=some (.own x):=by
    rcases he with z|z
    .exact absurd (hbe.trans z) hb
    .rw [hbe];exact z
   rw[q]at q';cases q';obtain⟨v,hv⟩:=W;exact⟨v,by rw[hbe];exact hv⟩
  .refine (ok b u q).stay (λc v hc r=>k c v ?_ r) (λc r=>by rw[a_$ O c b r];exact r) λc xs r=>by rw[a_$ S c xs r];exact r
   rcases hc with rfl|hc
   .exact hbe
   .rintro rfl;rcases he with z|z
    .exact O c b hc z
    .rw [hc]at z;cases z;exact hb rF
end
structure Un(fs ex:List Addr)(H H':Hp)(h h':Heap):Prop where
 keep:∀b o,h.get? b=some o->H b=none->b∉fs->b∉ex->h'.get? b=some o
 slot:∀b o,h.get? b=some o->H b=none->b∈fs->b∉ex->∃sl,h'.get? b=some {o with slots:=sl}
 free:∀b o,h.get? b=some o->H b=none->b∉ex->H' b=none
 there:∀b o,h.get? b=some o->b∉ex->∃o',h'.get? b=some o'
 tups:∀b xs,H b=some (.tup xs)->H' b=some (.tup xs)
 frzs:∀b o u,H b=some (.frz o u)->H' b=some (.frz o u)
 tbls:∀b ps,H b=some (.tbl ps)->∃more,H' b=some (.tbl$ ps++more)
section
variable{fs fs' ex ex':List Addr}{H H1 H2:Hp}{h h1 h2 h':Heap}{a x e:Addr}{o:HO}
theorem Un.any(u:Un fs ex H H1 h h1){b:Addr}{O:Obj}(q:h.get? b=some O)(n:H b=none)(S:b∉ex):∃sl,h1.get? b=some {O with slots:=sl}:=by
 by_cases hb:b∈fs
 .exact u.slot b O q n hb S
 .exact ⟨O.slots,u.keep b O q n hb S⟩
theorem Un.kept(k:∀b u,h.get? b=some u->h'.get? b=some u):Un fs ex H H h h' :=
 ⟨λb O q _ _ _=>k b O q,λb O q _ _ _=>⟨O.slots,k b O q⟩,λ_ _ _ n _=>n,λb O q _=>⟨O,k b O q⟩,λ_ _ q=>q,λ_ _ _ q=>q,λ_ ps q=>⟨#[],by rw[q];simp⟩⟩
theorem Un.refl:Un fs ex H H h h:=Un.kept λ_ _ q=>q
theorem Un.laid(k:∀b u,h.get? b=some u->h'.get? b=some u)(S:h.objs.size<=a)(O:H a=none):Un fs ex H (upd H a o) h h' where
 keep:=λb u q _ _ _=>k b u q
 slot:=λb u q _ _ _=>⟨u.slots,k b u q⟩
 free:=λb u q n _=>by rw[a_$ qAQ$ qAj (qAI q) S];exact n
 there:=λb u q _=>⟨u,k b u q⟩
 tups:=λb xs q=>by rw[a_$ zAm q O];exact q
 frzs:=λb u xs q=>by rw[a_$ zAm q O];exact q
 tbls:=λb ps q=>⟨#[],by rw[a_$ zAm q O,q];simp⟩
theorem Un.write(O:Mut (H x))(he:e=x\/H e=some (.own x))(k:∀b u,b≠e->h.get? b=some u->h'.get? b=some u)(S:∃u,h'.get? e=some u):Un fs ex H (upd H x o) h h':=by
 have V:∀b,H b=none->b≠x:=λb n z=>by subst z;rw[n]at O;exact O
 have W:∀b,H b=none->b≠e:=λb n z=>by
  subst z;rcases he with r|r
  .exact V b n r
  .rw [n]at r;cases r
 have hm:∀b u,H b=some u->¬Mut (some u)->b≠x:=λb u q nm z=>by subst z;rw[q]at O;exact nm O
 refine⟨λb u q n _ _=>k b u (W b n) q,λb u q n _ _=>⟨u.slots,k b u (W b n) q⟩,λb u q n _=>by rw[a_$ V b n];exact n,λb u q _=>?_,
  λb xs q=>by rw[a_$ hm b _ q λz=>z];exact q,λb u xs q=>by rw[a_$ hm b _ q λz=>z];exact q,λb ps q=>⟨#[],by rw[a_$ hm b _ q λz=>z,q];simp⟩⟩
 by_cases hbe:b=e
 .subst hbe;exact S
 .exact ⟨u,k b u hbe q⟩
end
def trk(h:Heap)(H:Hp):List Addr:=(List.range h.objs.size).filter λa=>(H a).isSome
def gb(h:Heap)(H:Hp):Heap:=PySem.W.hideAll h$ trk h H
theorem nv(h:Heap)(H:Hp):(gb h H).objs.size=h.objs.size:=PySem.W.hideAll_size _ _
theorem rL{b:Addr}{o:Obj}(e:h.get? b=some o)(n:H b=none):(gb h H).get? b=some o :=
 PySem.W.hideAll_get _ e λhm=>by
  have q:(H b).isSome=true:=(qBZ.mp hm).2;rw[n]at q;simp at q
theorem sU{b:Addr}{o:Obj}(e:(gb h H).get? b=some o):h.get? b=some o/\H b=none:=by
 have O:h.get? b=some o:=PySem.W.of_hideAll (trk h H) e;refine⟨O,?_⟩
 cases q:H b with
 |none=>rfl
 |some x=>
  have hm:b∈trk h H:=qBZ.mpr ⟨qBH.mpr$ qAI O,by simp[q]⟩;have z:(gb h H).get? b=none:=PySem.W.hideAll_none (trk h H) hm;rw[z]at e;cases e
structure Mod(K:PySem.W.Frag)(mg:Str->Option Value)(base:Heap):Prop where
 kin:K.In base
 glob:base.Ns mainGlobals mg
 blt:∃mb,base.Ns builtinsNs mb/\∀x:Str,x≠ "__name__"->mb x=bootBuiltins x
 nolimit:base.NoLimit
structure Cx where
 prog:Program
 w:World
 K:PySem.W.Frag
 mg:Str->Option Value
 base:Heap
 A:Around
 N:List Str
 s₀:Shared
 H₀:Hp
 env:Env
 outer:List Env
 stack:List Env
 ex:List Addr
 fn:Str->Bool
 calm:Bool
 pn:List (Addr×Obj)
 xe:Value->Shared->Prop
variable{X:Cx}
def frs(l:List Env):List Addr:=l.filterMap (·.frame)
abbrev Cx.fs(X:Cx):List Addr:=frs X.outer
def Vis(sc:Scope)(x:Str):Prop:=sc.names.lookup x=some .local\/sc.names.lookup x=some .cell\/sc.names.lookup x=some .free
def Loc(sc:Scope)(x:Str):Prop:=sc.names.lookup x=some .local\/sc.names.lookup x=some .cell
def xu(env:Env)(h:Heap)(m:Str->Option Value)(x:Str)(u:Value):Prop :=
 (env.kindOf x=some .local/\m x=some u)\/((env.kindOf x=some .cell\/env.kindOf x=some .free)/\∃c,env.cells.lookup x=some c/\h.IsCell c (some u))
structure Cx.Ok(X:Cx):Prop where
 mod:Mod X.K X.mg X.base
 kind:X.env.scope.kind= .function
 glob:X.env.globals=mainGlobals
 blt:X.env.builtins=builtinsNs
 above:X.s₀.heap.objs.size<=X.env.locals
 inj:∀x y c,X.env.cells.lookup x=some c->X.env.cells.lookup y=some c->x=y
 has:∀x,(X.env.kindOf x=some .cell\/X.env.kindOf x=some .free)->∃c,X.env.cells.lookup x=some c
 cab:∀x c,X.fn x=true->X.env.cells.lookup x=some c->X.s₀.heap.objs.size<=c
 hd:X.calm=true->X.A.handled=none
 frames:X.A.frames=some X.stack
 stk:X.stack=X.outer\/(X.stack=X.env::X.outer/\X.env.frame=some X.env.locals)
 exf:∀b∈X.ex,b≠X.env.locals/\∀x c,X.env.cells.lookup x=some c->c≠b
 bs:∀b o,X.base.get? b=some o->X.s₀.heap.get? b=some o/\X.H₀ b=none
 bsz:X.base.objs.size<=X.s₀.heap.objs.size
 noex:∀b o,X.base.get? b=some o->b∉X.ex
 exfs:∀b∈X.ex,b∉X.fs
 funs:X.s₀.heap.FunFrames X.base X.outer
 frf:∀b∈X.fs,X.H₀ b=none
structure Inv(X:Cx)(pins:List (Addr×Obj))(σ:List (Option V))(H:Hp)(s:Shared):Prop where
 ok:X.Ok
 os:s.os=X.s₀.os
 bare:AllBare s.gens
 base:Un X.fs X.ex X.H₀ H X.s₀.heap s.heap
 loc:∃m,s.heap.Ns X.env.locals m/\∀(i:Nat)(x:Str)(v:V),X.N[i]?=some x->σ[i]?=some (some v)->Vis X.env.scope x->∃u,dy v u/\xu X.env s.heap m x u
 cell:∀x c,X.env.cells.lookup x=some c->∃v,s.heap.IsCell c v
 free:H X.env.locals=none
 freeC:∀x c,X.env.cells.lookup x=some c->H c=none
 pin:∀p∈X.pn++pins,s.heap.get? p.1=some p.2/\H p.1=none/\p.1≠X.env.locals/\p.1∉X.fs/\∀v,p.2.data≠.cell v
 hok:HOk X.prog X.w H s.heap
 len:σ.length=X.N.length
section
variable{X:Cx}{pins:List (Addr×Obj)}{σ:List (Option V)}{H H':Hp}{s:Shared}{h':Heap}
theorem Cx.Ok.nofr(ok:X.Ok){b:Addr}{o:Obj}(e:X.base.get? b=some o):b∉X.fs:=λO=>by
 have:=(ok.funs.mem O).1;rw[e]at this;cases this
theorem Inv.bs(I:Inv X pins σ H s):∀b o,X.base.get? b=some o->s.heap.get? b=some o/\H b=none:=λb o e=>
 ⟨I.base.keep b o (I.ok.bs b o e).1 (I.ok.bs b o e).2 (I.ok.nofr e)$ I.ok.noex b o e,I.base.free b o (I.ok.bs b o e).1 (I.ok.bs b o e).2$ I.ok.noex b o e⟩
theorem Inv.bk(I:Inv X pins σ H s):∀b o,X.base.get? b=some o->s.heap.get? b=some o:=λb o e=>(I.bs b o e).1
theorem Inv.mod(I:Inv X pins σ H s):Mod X.K X.mg X.base:=I.ok.mod
theorem Inv.kIn(I:Inv X pins σ H s):X.K.In s.heap:=I.ok.mod.kin.keeps I.bk
theorem Inv.lt(I:Inv X pins σ H s):X.env.locals<s.heap.objs.size:=let⟨_,O,_⟩:=I.loc;O.lt
theorem Inv.sz(I:Inv X pins σ H s):X.s₀.heap.objs.size<=s.heap.objs.size:=qAW I.ok.above$ qCR I.lt
theorem Inv.nofs(I:Inv X pins σ H s)(h:s.heap.objs.size<=a):a∉X.fs:=λO=>by
 obtain⟨_,o,ho,_⟩:=I.ok.funs.mem O;exact absurd (qAj (qAI ho)$ qAW I.sz h)$ qA2 _
theorem Inv.cne(I:Inv X pins σ H s):∀x c,X.env.cells.lookup x=some c->c≠X.env.locals:=λx c e z=>by
 obtain⟨v,o,ho,hd⟩:=I.cell x c e;obtain⟨m,⟨o',es,ep,O,S,_⟩,_⟩:=I.loc;rw[z,O]at ho;cases ho;rw[S]at hd;cases hd
theorem Inv.funs(I:Inv X pins σ H s):s.heap.FunFrames X.base X.outer:=by
 have all:∀(l:List Env),(∀b∈frs l,b∈X.fs)->X.s₀.heap.FunFrames X.base l->s.heap.FunFrames X.base l:=by
  intro l
  induction l with
  |nil=>intro _ _;trivial
  |cons env r W=>
   intro hs hl;obtain⟨hk,⟨L,o,O,hn,ho,hd⟩,hr⟩:=hl;have S:L∈X.fs:=hs L (by unfold frs;rw[qBo,O];exact qAf);obtain⟨sl,e⟩:=I.base.slot L o ho (I.ok.frf L S) S λz=>I.ok.exfs L z S;exact⟨hk,⟨L,_,O,hn,e,hd⟩,W (λb V=>hs b$ by unfold frs;rw[qBo,O];exact qAX _ V) hr⟩
 exact all X.outer (λ_ V=>V) I.ok.funs
theorem Inv.stack(I:Inv X pins σ H s):s.heap.FunFrames X.base X.stack:=by
 rcases I.ok.stk with e|⟨e,O⟩
 .rw [e];exact I.funs
 .rw [e];obtain⟨m,S,_⟩:=I.loc;refine .cons (by rw[I.ok.kind];decide) O S ?_ I.funs;exact Heap.get?_none_of_le$ qAW I.ok.bsz I.ok.above
theorem Inv.stkSub(I:Inv X pins σ H s):∀b∈frs X.stack,b∈X.env.locals::X.fs:=λb O=>by
 rcases I.ok.stk with e|⟨e,S⟩
 .rw [e]at O;exact qAX _ O
 .rw [e]at O;unfold frs at O;rw[qBo,S]at O;exact O
theorem Inv.stkFree(I:Inv X pins σ H s):∀b∈frs X.stack,H b=none:=λb O=>by
 rcases qAT.mp (I.stkSub b O)with e|O
 .rw [e];exact I.free
 .obtain ⟨_,o,ho,_⟩:=I.ok.funs.mem O;exact I.base.free b o ho (I.ok.frf b O) λz=>I.ok.exfs b z O
theorem Inv.step{g':Array GenState}{t':Nat}{d':Drawn}{ch:List Addr}(I:Inv X pins σ H s)
  (V:∀b∈ch,(b∈X.ex\/X.s₀.heap.objs.size<=b)/\b≠X.env.locals/\(∀x c,X.env.cells.lookup x=some c->c≠b)/\∀p∈X.pn++pins,p.1≠b)
  (keep:∀b o,b≠X.env.locals->b∉X.fs->b∉ch->s.heap.get? b=some o->H b=none->h'.get? b=some o)
  (slot:∀b o,b≠X.env.locals->b∈X.fs->b∉ch->s.heap.get? b=some o->H b=none->∃sl,h'.get? b=some {o with slots:=sl}) (S:∀b o,b∉ch->s.heap.get? b=some o->H b=none->H' b=none)
  (there:∀b o,b∉ch->s.heap.get? b=some o->∃o',h'.get? b=some o')
  (ae:∀b xs,H b=some (.tup xs)->H' b=some (.tup xs)) (af:∀b o u,H b=some (.frz o u)->H' b=some (.frz o u)) (ag:∀b ps,H b=some (.tbl ps)->∃more,H' b=some (.tbl$ ps++more))
  (ns:∀m,s.heap.Ns X.env.locals m->h'.Ns X.env.locals m) (ai:HOk X.prog X.w H' h') (hg:AllBare g') :
  Inv X pins σ H' {s with heap:=h',gens:=g',drawn:=d',toks:=t'}:=by
 have ah:∀b o,X.s₀.heap.get? b=some o->b≠X.env.locals:=λb o e=>qAQ$ qAj (qAI e) I.ok.above
 have ad:∀b o,X.s₀.heap.get? b=some o->b∉X.ex->b∉ch:=λb o e O hb=>by
  rcases(V b hb).1 with z|z
  .exact O z
  .exact absurd (qAj (qAI e) z)$ qA2 _
 have W:∀x c,X.env.cells.lookup x=some c->∀v,s.heap.IsCell c v->h'.IsCell c v:=λx c e v ⟨o,ho,hd⟩=>by
  have aa:c∉ch:=λz=>(V c z).2.2.1 x c e rF
  by_cases hc:c∈X.fs
  .obtain ⟨sl,q⟩:=slot c o (I.cne x c e) hc aa ho$ I.freeC x c e;exact⟨_,q,hd⟩
  .exact ⟨o,keep c o (I.cne x c e) hc aa ho$ I.freeC x c e,hd⟩
 refine⟨I.ok,I.os,hg,⟨λb o e n hb O=>?_,λb o e n hb O=>?_,λb o e n O=>?_,λb o e O=>?_,λb xs e=>ae b xs$ I.base.tups b xs e,λb o xs e=>af b o xs$ I.base.frzs b o xs e,λb ps e=>?_⟩,?_,λx c e=>?_,?_,λx c e=>?_,λp hp=>?_,ai,I.len⟩
 .exact keep b o (ah b o e) hb (ad b o e O) (I.base.keep b o e n hb O)$ I.base.free b o e n O
 .obtain ⟨sl,e1⟩:=I.base.slot b o e n hb O;obtain⟨aj,e2⟩:=slot b _ (ah b o e) hb (ad b o e O) e1$ I.base.free b o e n O;exact⟨aj,e2⟩
 .obtain ⟨o',e1⟩:=I.base.there b o e O;exact S b o' (ad b o e O) e1$ I.base.free b o e n O
 .obtain ⟨o',e1⟩:=I.base.there b o e O;exact there b o' (ad b o e O) e1
 .obtain ⟨m1,e1⟩:=I.base.tbls b ps e;obtain⟨m2,e2⟩:=ag b _ e1;exact⟨m1++m2,by rw[e2,Array.append_assoc]⟩
 .obtain ⟨m,hn,hl⟩:=I.loc;refine⟨m,ns m hn,λi x v e1 e2 e3=>?_⟩;obtain⟨u,r,l⟩:=hl i x v e1 e2 e3;refine⟨u,r,?_⟩;rcases l with l|⟨k,c,e,z⟩
  .exact .inl l
  .exact .inr ⟨k,c,e,W x c e _ z⟩
 .obtain ⟨v,z⟩:=I.cell x c e;exact⟨v,W x c e v z⟩
 .obtain ⟨m,⟨o,_,_,ho,_⟩,_⟩:=I.loc;exact S _ o (λz=>(V _ z).2.1 rF) ho I.free
 .obtain ⟨v,o,ho,hd⟩:=I.cell x c e;exact S c o (λz=>(V c z).2.2.1 x c e rF) ho$ I.freeC x c e
 .obtain ⟨e,n,ne,nf,d⟩:=I.pin p hp;have aa:p.1∉ch:=λz=>(V p.1 z).2.2.2 p hp rF;exact⟨keep p.1 p.2 ne nf aa e n,S p.1 p.2 aa e n,ne,nf,d⟩
theorem Inv.un{t':Nat}(I:Inv X pins σ H s)(u:Un X.fs [] H H' s.heap h')(S:HOk X.prog X.w H' h'):Inv X pins σ H' {s with heap:=h',toks:=t'}:=by
 obtain⟨m,⟨o,es,ep,ho,r⟩,_⟩:=id I.loc;obtain⟨sl,hL⟩:=u.any ho I.free ss
 exact I.step (g':=s.gens) (d':=s.drawn) (ch:=[]) (λ_ z=>nomatch z) (λb o _ V _ e n=>u.keep b o e n V ss) (λb o _ V _ e n=>u.slot b o e n V ss) (λb o _ e n=>u.free b o e n ss) (λb o _ e=>u.there b o e ss) u.tups u.frzs u.tbls (λm' hm=>by
  obtain⟨o',W,aa,O,r'⟩:=hm;rw[ho]at O;cases O;exact⟨_,W,aa,hL,r'⟩) S I.bare
theorem Inv.call{g':Array GenState}{t':Nat}{d':Drawn}{ch:List Addr}(I:Inv X pins σ H s)(u:Un (frs X.stack) ch H H' s.heap h')(V:HOk X.prog X.w H' h')(hg:AllBare g')
  (O:∀b∈ch,(b∈X.ex\/X.s₀.heap.objs.size<=b)/\b≠X.env.locals/\(∀x c,X.env.cells.lookup x=some c->c≠b)/\∀p∈X.pn++pins,p.1≠b) :
  Inv X pins σ H' {s with heap:=h',gens:=g',drawn:=d',toks:=t'}:=by
 obtain⟨m,⟨o,es,ep,ho,r⟩,_⟩:=id I.loc;obtain⟨sl,W⟩:=u.any ho I.free λz=>(O _ z).2.1 rF
 exact I.step (ch:=ch) O (λb o W hb hc e n=>u.keep b o e n (λz=>(qAT.mp$ I.stkSub b z).elim W hb) hc) (λb o _ _ hc e n=>u.any e n hc) (λb o hc e n=>u.free b o e n hc) (λb o hc e=>u.there b o e hc) u.tups u.frzs u.tbls (λm' hm=>by
  obtain⟨o',aa,ad,S,r'⟩:=hm;rw[ho]at S;cases S;exact⟨_,aa,ad,W,r'⟩) V hg
theorem Inv.turned{t':Nat}{O:Addr}(I:Inv X pins σ H s)(k:∀b o,b≠O->s.heap.get? b=some o->h'.get? b=some o)(W:H O=none)(V:O≠X.env.locals)
  (h1:O∈X.ex\/X.s₀.heap.objs.size<=O) (h2:∀x c,X.env.cells.lookup x=some c->c≠O) (h3:∀p∈X.pn++pins,p.1≠O):Inv X pins σ H {s with heap:=h',toks:=t'}:=by
 have S:∀b u,H b=some u->b≠O:=λb u e z=>by rw[z,W]at e;cases e
 refine I.step (g':=s.gens) (d':=s.drawn) (ch:=[O]) (λb hb=>?_) (λb o _ _ hc e _=>k b o (λz=>hc$ by simp[z]) e) (λb o _ _ hc e _=>⟨o.slots,k b o (λz=>hc$ by simp[z]) e⟩) (λ_ _ _ _ n=>n)
  (λb o hc e=>⟨o,k b o (λz=>hc$ by simp[z]) e⟩) (λ_ _ e=>e) (λ_ _ _ e=>e) (λb ps e=>⟨#[],by rw[e];simp⟩) (λm hm=>?_) (λb u e=>?_) I.bare
 .have e:b=O:=by simpa using hb
  subst e;exact⟨h1,V,h2,h3⟩
 .obtain ⟨o,es,ep,ho,r⟩:=hm;exact⟨o,es,ep,k _ o (qAh V) ho,r⟩
 .refine (I.hok b u e).stay (λc v hc q=>k c v ?_ q) (λ_ q=>q) λ_ _ q=>q;rcases hc with z|z
  .rw [z];exact S b u e
  .exact S c _ z
theorem Inv.tok(I:Inv X pins σ H s)(t:Nat):Inv X pins σ H {s with toks:=t}:=I.un (h':=s.heap) (t':=t) Un.refl I.hok
theorem Inv.kept{t':Nat}(I:Inv X pins σ H s)(k:∀b u,s.heap.get? b=some u->h'.get? b=some u):Inv X pins σ H {s with heap:=h',toks:=t'}:=I.un (Un.kept k)$ I.hok.kept k
theorem Inv.laid{a:Addr}{o:HO}{t':Nat}(I:Inv X pins σ H s)(k:∀b u,s.heap.get? b=some u->h'.get? b=some u)(O:s.heap.objs.size<=a)(new:zBq X.prog X.w (upd H a o) h' a o) :
  Inv X pins σ (upd H a o) {s with heap:=h',toks:=t'}:=I.un (Un.laid k O$ I.hok.fresh O)$ I.hok.laid k O new
theorem Inv.write{x e:Addr}{t':Nat}(I:Inv X pins σ H s)(S:Mut (H x))(V:e=x\/H e=some (.own x))(k:∀b u,b≠e->s.heap.get? b=some u->h'.get? b=some u)(O:∃u,h'.get? e=some u)
  (new:zBq X.prog X.w (upd H x o) h' x o):Inv X pins σ (upd H x o) {s with heap:=h',toks:=t'}:=I.un (Un.write S V k O)$ I.hok.write S V k O new
theorem Inv.pins_of{O:List (Addr×Obj)}(I:Inv X pins σ H s)(h:∀p∈O,s.heap.get? p.1=some p.2/\H p.1=none/\p.1≠X.env.locals/\p.1∉X.fs/\∀v,p.2.data≠.cell v):Inv X O σ H s :=
 ⟨I.ok,I.os,I.bare,I.base,I.loc,I.cell,I.free,I.freeC,λp S=>(qAR.mp S).elim (λz=>I.pin p$ qAp _ z)$ h p,I.hok,I.len⟩
theorem zJn{N:List Str}(O:N.Nodup){j:Nat}(a:N[i]?=some x)(b:N[j]?=some x):i=j:=by
 obtain⟨h1,S⟩:=qAL.mp a;obtain⟨h2,V⟩:=qAL.mp b;exact(List.getElem_inj O).mp$ S.trans V.symm
theorem gK{M:Model}{E:Value->Shared->Prop}{Q:Unit->Shared->Prop}(I:Inv X pins σ H s)(hN:X.N.Nodup)(hi:X.N[i]?=some x)(V:Loc X.env.scope x)(r:dy v u)
  (h:∀s',Inv X pins (σ.set i$ some v) H s'->(∃a,Heap.SameBut a s.heap s'.heap/\(a=X.env.locals\/X.env.cells.lookup x=some a))->Q () s') (hf:X.fn x=true\/X.env.scope.names.lookup x=some .local:=by first|exact .inl rF|exact .inr rF|assumption):wpAny M A (storeName X.env x u) Q E s:=by
 obtain⟨m,hn,hl⟩:=id I.loc;have ae:(X.env.scope.kind== .class||(X.env.scope.kind== .module&&X.env.locals != X.env.globals))=false:=by rw[I.ok.kind];rfl
 have aa:i<σ.length:=by rw[I.len];exact(qAL.mp hi).1
 have cne:=I.cne
 have O:∀{a:Addr}{h':Heap},(∃o,s.heap.get? a=some o/\H a=none)->Heap.SameBut a s.heap h'->HOk X.prog X.w H h':=λ{a h'} ha hs b ob e=>by
  obtain⟨_,_,W⟩:=ha;refine(I.hok b ob e).stay (λc w' hc q=>(hs.2 c ?_).trans q) (λ_ q=>q) λ_ _ q=>q;rintro rfl;rcases hc with rfl|hc
  .rw [W]at e;cases e
  .rw [W]at hc;cases hc
 rcases V with hk|hk
 .refine wpAny_storeName_local hk hn (λh' ai hs=>?_) ae;obtain⟨oL,_,_,aj,_⟩:=id hn;refine h _ ⟨I.ok,I.os,I.bare,⟨λb o e n hb V=>?_,λb o e n hb V=>?_,I.base.free,λb o e V=>?_,I.base.tups,I.base.frzs,I.base.tbls⟩,⟨_,ai,λj y v' S e2 e3=>?_⟩,λy c e=>?_,I.free,I.freeC,λp hp=>?_,O ⟨oL,aj,I.free⟩ hs,by simpa using I.len⟩ ⟨_,hs,.inl rF⟩
  .exact (hs.2 b$ qAQ$ qAj (qAI e) I.ok.above).trans$ I.base.keep b o e n hb V
  .obtain ⟨sl,S⟩:=I.base.slot b o e n hb V;exact⟨sl,(hs.2 b$ qAQ$ qAj (qAI e) I.ok.above).trans S⟩
  .obtain ⟨o',S⟩:=I.base.there b o e V;exact⟨o',(hs.2 b$ qAQ$ qAj (qAI e) I.ok.above).trans S⟩
  .by_cases hj:j=i
   .subst hj;rw[hi]at S;cases S;rw[qCE aa]at e2
    cases e2
    exact⟨u,r,.inl ⟨hk,ss⟩⟩
   .rw [qCl$ qAh hj]at e2;obtain⟨u',r',q⟩:=hl j y v' S e2 e3;refine⟨u',r',?_⟩;rcases q with⟨k,e⟩|⟨k,c,e,z⟩
    .refine .inl ⟨k,?_⟩;have:y≠x:=λe=>hj$ zJn hN S$ e▸hi;simp[this,e]
    .exact .inr ⟨k,c,e,z.sameBut hs$ cne y c e⟩
  .obtain ⟨w',z⟩:=I.cell y c e;exact⟨w',z.sameBut hs$ cne y c e⟩
  .obtain ⟨e,n,ne,nf,d⟩:=I.pin p hp;exact⟨(hs.2 p.1 ne).trans e,n,ne,nf,d⟩
 .have ad:X.fn x=true:=by
   rcases hf with z|z
   .exact z
   .rw [z]at hk;cases hk
  obtain⟨c,hc⟩:=I.ok.has x$ .inl hk;obtain⟨w',z⟩:=I.cell x c hc;refine wpAny_storeName_cell I.ok.kind hk hc z λh' af hs=>?_;obtain⟨oc,ag,ah⟩:=id z;refine h {s with heap:=h'} ⟨I.ok,I.os,I.bare,⟨λb o e n hb V=>?_,λb o e n hb V=>?_,I.base.free,λb o e V=>?_,I.base.tups,I.base.frzs,I.base.tbls⟩,⟨m,hn.sameBut hs$ qAh$ cne x c hc,λj y v' S e2 e3=>?_⟩,λy c' e=>?_,I.free,I.freeC,λp hp=>?_,O ⟨oc,ag,I.freeC x c hc⟩ hs,by simpa using I.len⟩ ⟨c,hs,.inr hc⟩
  .exact (hs.2 b$ qAQ$ qAj (qAI e)$ I.ok.cab x c ad hc).trans$ I.base.keep b o e n hb V
  .obtain ⟨sl,S⟩:=I.base.slot b o e n hb V;exact⟨sl,(hs.2 b$ qAQ$ qAj (qAI e)$ I.ok.cab x c ad hc).trans S⟩
  .obtain ⟨o',S⟩:=I.base.there b o e V;exact⟨o',(hs.2 b$ qAQ$ qAj (qAI e)$ I.ok.cab x c ad hc).trans S⟩
  .by_cases hj:j=i
   .subst hj;rw[hi]at S;cases S;rw[qCE aa]at e2
    cases e2
    exact⟨u,r,.inr ⟨.inl hk,c,hc,af⟩⟩
   .rw [qCl$ qAh hj]at e2;obtain⟨u',r',q⟩:=hl j y v' S e2 e3;refine⟨u',r',?_⟩;rcases q with q|⟨k,c',e,z'⟩
    .exact .inl q
    .refine .inr ⟨k,c',e,z'.sameBut hs ?_⟩;rintro rfl;exact hj$ zJn hN S$ I.ok.inj _ _ _ e hc▸hi
  .by_cases hcc:c'=c
   .subst hcc;exact⟨_,af⟩
   .obtain ⟨w2,z2⟩:=I.cell y c' e;exact⟨w2,z2.sameBut hs hcc⟩
  .obtain ⟨e,n,ne,nf,d⟩:=I.pin p hp;refine⟨(hs.2 p.1 ?_).trans e,n,ne,nf,d⟩;intro q;rw[q,ag]at e;have q':oc=p.2:=qAb e;exact d w' (by rw[<-q'];exact ah)
theorem zG1{M:Model}{E:Value->Shared->Prop}{v:V}{u:Value}{Q:Unit->Shared->Prop}(I:Inv X pins σ H s)(O:X.N.Nodup)(hi:X.N[i]?=some x)(S:Loc X.env.scope x)(r:dy v u)
  (h:∀s',Inv X pins (σ.set i$ some v) H s'->Q () s') (W:X.fn x=true\/X.env.scope.names.lookup x=some .local:=by first|exact .inl rF|exact .inr rF|assumption):wpAny M A (storeName X.env x u) Q E s :=
 gK I O hi S r (λs' I' _=>h s' I') W
theorem Inv.call'{s':Shared}{ch:List Addr}(I:Inv X pins σ H s)(ho:s'.os=s.os)(u:Un (frs X.stack) ch H H' s.heap s'.heap)(O:HOk X.prog X.w H' s'.heap)(V:AllBare s'.gens)
  (S:∀b∈ch,(b∈X.ex\/X.s₀.heap.objs.size<=b)/\b≠X.env.locals/\(∀x c,X.env.cells.lookup x=some c->c≠b)/\∀p∈X.pn++pins,p.1≠b):Inv X pins σ H' s':=by
 obtain⟨h',g',d',t',o'⟩:=s';have e:o'=s.os:=ho;subst e;exact I.call (g':=g') (t':=t') (d':=d') u O V S
end
abbrev XK:=Value->Option Addr->Hp->Prop
abbrev St:=List$ Option V
variable{σ:St}
abbrev VK:=V->Hp->Prop
abbrev TE:=St->Hp->VK->Prop
variable{t:TE}
abbrev TT:=St->Hp->(Bool->Hp->Prop)->Prop
abbrev TA:=St->Hp->(List V->Hp->Prop)->Prop
structure eI where
 nx:St->Hp->Prop
 rt:VK
 bk:St->Hp->Prop:=λ_ _=>False
 ct:St->Hp->Prop:=λ_ _=>False
variable{D:eI}
abbrev TS:=eI->St->Hp->Prop
def EP(X:Cx)(pins:List (Addr×Obj))(σ:St)(Q:VK)(u:Value)(s':Shared):Prop:=∃v H',Inv X pins σ H' s'/\dy v u/\Q v H'
def TP(X:Cx)(pins:List (Addr×Obj))(σ:St)(Q:Bool->Hp->Prop)(b:Bool)(s':Shared):Prop:=∃H',Inv X pins σ H' s'/\Q b H'
def AP(X:Cx)(pins:List (Addr×Obj))(σ:St)(Q:List V->Hp->Prop)(us:List Value)(s':Shared):Prop:=∃vs H',Inv X pins σ H' s'/\dv vs us/\Q vs H'
def SP(X:Cx)(pins:List (Addr×Obj))(D:eI)(f:Flow)(s':Shared):Prop :=
 match f with
 | .next=>∃O H',Inv X pins O H' s'/\D.nx O H'
 | .brk=>∃O H',Inv X pins O H' s'/\D.bk O H'
 | .cont=>∃O H',Inv X pins O H' s'/\D.ct O H'
 | .ret u=>∃v O H',Inv X pins O H' s'/\dy v u/\D.rt v H'
def PE(X:Cx)(e:Expr)(t:TE):Prop :=
 ∀(pins:List (Addr×Obj)) (s:Shared) (σ:St) (H:Hp) (Q:VK),Inv X pins σ H s->t σ H Q->wpAny (model X.prog X.w) X.A (eval e X.env) (EP X pins σ Q) X.xe s
def PT(X:Cx)(e:Expr)(t:TT):Prop :=
 ∀(pins:List (Addr×Obj)) (s:Shared) (σ:St) (H:Hp) (Q:Bool->Hp->Prop),Inv X pins σ H s->t σ H Q->wpAny (model X.prog X.w) X.A (isTrue e X.env$ eval e X.env) (TP X pins σ Q) X.xe s
def PW(X:Cx)(e:Expr)(t:TT):Prop :=
 ∀(whole:Sem Value) (pins:List (Addr×Obj)) (s:Shared) (σ:St) (H:Hp) (Q:Bool->Hp->Prop),Inv X pins σ H s->t σ H Q->wpAny (model X.prog X.w) X.A (isTrue e X.env whole) (TP X pins σ Q) X.xe s
theorem PW.pt{t:TT}(h:PW X e t):PT X e t:=h _
def PA(X:Cx)(es:List Expr)(t:TA):Prop :=
 ∀(pos:Pos) (pins:List (Addr×Obj)) (s:Shared) (σ:St) (H:Hp) (Q:List V->Hp->Prop),Inv X pins σ H s->t σ H Q->wpAny (model X.prog X.w) X.A (spliced$ backTo pos$ starEach es X.env) (AP X pins σ Q) X.xe s
def PS(X:Cx)(st:Stmt)(t:TS):Prop :=
 ∀(pins:List (Addr×Obj)) (s:Shared) (σ:St) (H:Hp) (D:eI),Inv X pins σ H s->t D σ H->wpAny (model X.prog X.w) X.A (exec st X.env) (SP X pins D) X.xe s
def PSs(X:Cx)(st:List Stmt)(t:TS):Prop :=
 ∀(pins:List (Addr×Obj)) (s:Shared) (σ:St) (H:Hp) (D:eI),Inv X pins σ H s->t D σ H->wpAny (model X.prog X.w) X.A (execs st X.env) (SP X pins D) X.xe s
theorem thn{α:Type}{t:Sem α}{Q O:α->Shared->Prop}{M:Model}{E:Value->Shared->Prop}(h:wpAny M A t Q E s)(S:∀a s,Q a s->O a s):wpAny M A t O E s:=qAv h S λ_ _ x=>x
section
variable{X:Cx}
inductive fj(i:Nat)(σ:St)(H:Hp)(Q:VK):Prop
 |mk:∀v,σ[i]?=some (some v)->Q v H->fj i σ H Q
def tC(v:V):TE:=λ_ H Q=>Q v H
theorem vy(W:X.N[i]?=some x)(hv:Vis X.env.scope x)(hd:(x==("__debug__": Str))=false:=by decide)(V:(x==("__classdict__": Str))=false:=by decide):PE X (.Name x pos) (fj i):=by
 intro pins s σ H Q I h;obtain⟨v,e,h⟩:=h;obtain⟨m,hn,hl⟩:=I.loc;obtain⟨u,r,l⟩:=hl i x v W e hv;have fin:EP X pins σ Q u s:=⟨v,H,I,r,h⟩;rcases l with⟨S,hm⟩|⟨S,c,hc,O⟩
 .exact wpAny_Name (wpAny_loadName_local I.ok.kind S hn hm fin) hd
 .rcases S with S|S
  .exact wpAny_Name (wpAny_loadName_cell I.ok.kind S hc O fin) hd
  .exact wpAny_Name (wpAny_loadName_free I.ok.kind S hc O fin V) hd
theorem zAd{i j pos}:PE X (.Constant (.int i) j pos) (tC$ .int i):=λ_ _ _ H _ I h=>wpAny_Constant_int ⟨.int i,H,I.tok _,⟨_,rF⟩,h⟩
theorem zEs{b j pos}:PE X (.Constant (.bool b) j pos) (tC$ .bl b):=λ_ _ _ H _ I h=>Constant_bool ⟨.bl b,H,I,rF,h⟩
theorem zHn{j pos}:PE X (.Constant .none j pos) (tC .non):=λ_ _ _ H _ I h=>Constant_none ⟨.non,H,I,rF,h⟩
theorem zAu{x j pos}:PE X (.Constant (.str x) j pos) (tC$ .str x):=λ_ _ _ H _ I h=>Calls.Constant_str ⟨.str x,H,I.tok _,⟨_,rF⟩,h⟩
def Gl(X:Cx)(x:Str):Prop:=X.env.kindOf x=some .globalImplicit
theorem zFj{E:Value->Shared->Prop}{Q:Value->Shared->Prop}(I:Inv X pins σ H s)(O:Gl X x)(hm:X.mg x=some u)(h:Q u s)
  (hd:(x==("__debug__": Str))=false:=by decide):wpAny (model X.prog X.w) X.A (eval (.Name x pos) X.env) Q E s :=
 Calls.Name_function_global I.ok.kind O (Calls.loadGlobal_global (by rw[I.ok.glob];exact I.mod.glob.keeps I.bk) hm h) hd
theorem zHz{E:Value->Shared->Prop}{Q:Value->Shared->Prop}(I:Inv X pins σ H s)(O:Gl X x)(hm:X.mg x=none)(V:bootBuiltins x=some u)(h:Q u s)
  (S:x≠ "__name__":= by decide) (hd:(x==("__debug__": Str))=false:=by decide):wpAny (model X.prog X.w) X.A (eval (.Name x pos) X.env) Q E s:=by
 obtain⟨W,h1,h2⟩:=I.mod.blt;exact Calls.Name_function_global I.ok.kind O (Calls.loadGlobal_builtin (by rw[I.ok.glob];exact I.mod.glob.keeps I.bk) hm (by rw[I.ok.blt];exact h1.keeps I.bk) ((h2 x S).trans V) h) hd
theorem zBs{v:V}(O:Gl X x)(hm:X.mg x=some u)(r:dy v u)(hd:(x==("__debug__": Str))=false:=by decide):PE X (.Name x pos) (tC v) :=
 λ_ _ _ H _ I h=>zFj I O hm ⟨v,H,I,r,h⟩ hd
theorem zBw(O:Gl X x)(hm:X.mg x=none)(V:bootBuiltins x=some u)(r:dy v u)(S:x≠ "__name__":= by decide)(hd:(x==("__debug__": Str))=false:=by decide):PE X (.Name x pos) (tC v) :=
 λ_ _ _ H _ I h=>zHz I O hm V ⟨v,H,I,r,h⟩ S hd
variable{a b:Expr}{ta tb:TE}{pos:Pos}
def PC(X:Cx)(op:CmpOp)(a b:Expr)(t:TE):Prop :=
 ∀(pins:List (Addr×Obj)) (s:Shared) (σ:St) (H:Hp) (Q:VK),Inv X pins σ H s->t σ H Q ->
  wpAny (model X.prog X.w) X.A (eval a X.env) (λv S=>wpAny (model X.prog X.w) X.A (eval b X.env) (λu O=>wpAny (model X.prog X.w) X.A (compareOp op v u) (EP X pins σ Q) X.xe O) X.xe S) X.xe s
inductive tBI(Q:Bool->Hp->Prop)(x:V)(H1:Hp):Prop
 |mk:∀c,x= .bl c->Q c H1->tBI Q x H1
def tB(t:TE):TT:=λσ H Q=>t σ H λx H1=>tBI Q x H1
theorem rD(h:PC X op a b t)(h1:behindInMarks op b=false:=by first|exact nobehind _ dD dD|rfl):PE X (.Compare a [op] [b] pos) t:=λpins s σ H Q I hw=>wpAny_Compare1 (h pins s σ H Q I hw) h1
theorem zEg(h:PC X op a b t)(h1:behindInMarks op b=false:=by first|exact nobehind _ dD dD|rfl):PT X (.Compare a [op] [b] pos) (tB t):=by
 intro pins s σ H Q I hw;refine wpAny_isTrue_Compare1 (thn (h pins s σ H _ I hw) λv V h1=>thn h1 λu s2 h2=>thn h2 λc s3 ⟨x,H1,O,r1,S⟩=>?_) h1;obtain⟨d,rfl,q⟩:=S
 cases r1
 exact qBP ⟨H1,O,q⟩
theorem zBi(h:PE X e t)(O:∀whole,isTrue e X.env whole=(do let v<-whole;standAt e.pos;holding [v] (truthy v)):=by intro _;rfl):PT X e (tB t):=by
 intro pins s σ H Q I hw;refine isTrue_plain (thn (h pins s σ H _ I hw) λv W ⟨x,H1,S,r1,V⟩=>?_)$ O _;obtain⟨d,rfl,q⟩:=V
 cases r1
 exact qBP ⟨H1,S,q⟩
variable{tA tB':TT}{rest:List Expr}
def xP(t u:TT):TT:=λσ H Q=>t σ H λc H1=>if c=true then u σ H1 Q else Q false H1
def tOr(t u:TT):TT:=λσ H Q=>t σ H λc H1=>if c=true then Q true H1 else u σ H1 Q
def xF(t:TT):TT:=λσ H Q=>t σ H λc H1=>Q (!c) H1
theorem zGg(O:PT X a tA):PW X (.BoolOp .And [a] pos) tA:=by
 intro W pins s σ H Q I h;refine isTrue_and$ thn (O pins s σ H Q I h) λc S e=>?_
 cases c with
 |true=>exact isTrue_and_nil e
 |false=>exact e
theorem zDv(O:PT X a tA):PW X (.BoolOp .Or [a] pos) tA:=by
 intro W pins s σ H Q I h;refine isTrue_or$ thn (O pins s σ H Q I h) λc S e=>?_
 cases c with
 |false=>exact isTrue_or_nil e
 |true=>exact e
theorem zHl(V:PT X a tA)(W:PW X (.BoolOp .And (b::rest) pos) tB'):PW X (.BoolOp .And (a::b::rest) pos) (xP tA tB'):=by
 intro wh pins s σ H Q I h;refine isTrue_and$ thn (V pins s σ H _ I h) λc s1 ⟨H1,O,S⟩=>?_
 cases c with
 |true=>exact W wh pins s1 σ H1 Q O S
 |false=>exact⟨H1,O,S⟩
theorem zEk(V:PT X a tA)(W:PW X (.BoolOp .Or (b::rest) pos) tB'):PW X (.BoolOp .Or (a::b::rest) pos) (tOr tA tB'):=by
 intro wh pins s σ H Q I h;refine isTrue_or$ thn (V pins s σ H _ I h) λc s1 ⟨H1,O,S⟩=>?_
 cases c with
 |true=>exact⟨H1,O,S⟩
 |false=>exact W wh pins s1 σ H1 Q O S
theorem zBm(O:PT X a tA):PT X (.UnaryOp .Not a pos) (xF tA):=by
 intro pins s σ H Q I h;exact isTrue_not$ O pins s σ H (λc H1=>Q (!c) H1) I h
inductive qB(tb:TE)(σ:St)(Q:VK)(x:V)(H1:Hp):Prop
 |mk:∀c,x= .bl c->(if c=true then tb σ H1 Q else Q (.bl false) H1)->qB tb σ Q x H1
def wG(ta tb:TE):TE:=λσ H Q=>ta σ H λx H1=>qB tb σ Q x H1
inductive ur(tb:TE)(σ:St)(Q:VK)(x:V)(H1:Hp):Prop
 |mk:∀c,x= .bl c->(if c=true then Q (.bl true) H1 else tb σ H1 Q)->ur tb σ Q x H1
def xN(ta tb:TE):TE:=λσ H Q=>ta σ H λx H1=>ur tb σ Q x H1
inductive qy(Q:VK)(x:V)(H1:Hp):Prop
 |mk:∀c,x= .bl c->Q (.bl$ !c) H1->qy Q x H1
def wU(ta:TE):TE:=λσ H Q=>ta σ H λx H1=>qy Q x H1
theorem gp{op}(h:PE X a t):PE X (.BoolOp op [a] pos) t:=λpins s σ H Q I hw=>BoolOp_one$ h pins s σ H Q I hw
theorem i6(V:PE X a ta)(W:PE X (.BoolOp .And (b::rest) pos) tb):PE X (.BoolOp .And (a::b::rest) pos) (wG ta tb):=by
 intro pins s σ H Q I h;refine BoolOp_and$ thn (V pins s σ H _ I h) λv s1 ⟨x,H1,S,r1,O⟩=>?_;obtain⟨c,rfl,O⟩:=O
 cases r1
 refine qBP ?_
 cases c with
 |true=>exact W pins s1 σ H1 Q S O
 |false=>exact⟨.bl false,H1,S,rF,O⟩
theorem wY(V:PE X a ta)(W:PE X (.BoolOp .Or (b::rest) pos) tb):PE X (.BoolOp .Or (a::b::rest) pos) (xN ta tb):=by
 intro pins s σ H Q I h;refine BoolOp_or$ thn (V pins s σ H _ I h) λv s1 ⟨x,H1,S,r1,O⟩=>?_;obtain⟨c,rfl,O⟩:=O
 cases r1
 refine qBP ?_
 cases c with
 |false=>exact W pins s1 σ H1 Q S O
 |true=>exact⟨.bl true,H1,S,rF,O⟩
theorem pj(S:PE X a ta):PE X (.UnaryOp .Not a pos) (wU ta):=by
 intro pins s σ H Q I h;refine UnaryOp_$ thn (S pins s σ H _ I h) λv W ⟨x,H1,V,r1,O⟩=>?_;obtain⟨c,rfl,O⟩:=O
 cases r1
 exact not_of$ qBP ⟨.bl$ !c,H1,V,rF,O⟩
def tIf(t:TT)(ta tb:TE):TE:=λσ H Q=>t σ H λc H1=>if c=true then ta σ H1 Q else tb σ H1 Q
theorem qt{c:Expr}(hc:PT X c tA)(W:PE X a ta)(hb:PE X b tb):PE X (.IfExp c a b pos) (tIf tA ta tb):=by
 intro pins s σ H Q I h;refine wpAny_IfExp$ thn (hc pins s σ H _ I h) λd S ⟨H1,O,V⟩=>?_
 cases d with
 |true=>exact W pins S σ H1 Q O V
 |false=>exact hb pins S σ H1 Q O V
end
def SqL(K:PySem.W.Frag)(H:Hp)(a:Addr)(xs:List V):Prop :=
 Rd H a (.lst xs) \/
  ∃(o:Obj)(its:Array Value)(n:Nat),K.lookup a=some o/\o.cls= .type "list"/\o.dict=none/\o.data= .seq its n/\its.size<=sizeLine/\dv xs its.toList
def SqT(K:PySem.W.Frag)(H:Hp)(a:Addr)(xs:List V):Prop :=
 Rd H a (.tup xs) \/
  ∃(o:Obj)(its:Array Value)(n:Nat),K.lookup a=some o/\o.cls= .type "tuple"/\o.data= .seq its n/\its.size<=sizeLine/\dv xs its.toList
def x_:Value->Option V
 | .none=>some .non
 | .bool b=>some (.bl b)
 | .int i _=>some (.int i)
 | .str x _=>some (.str x)
 | .bytes b _=>some (.byt b)
 | .float b _=>some (.flt b)
 | .ref a=>some (.ref a)
 | .type n=>some (.ty n)
 |_=>none
theorem dy.abs{x:V}(r:dy x u):x_ u=some x:=by
 cases x with
 |non=>cases r;rfl
 |bl _=>cases r;rfl
 |int _=>obtain⟨t,rfl⟩:=r;rfl
 |str _=>obtain⟨t,rfl⟩:=r;rfl
 |byt _=>obtain⟨t,rfl⟩:=r;rfl
 |flt _=>obtain⟨t,rfl⟩:=r;rfl
 |ref _=>cases r;rfl
 |ty _=>cases r;rfl
theorem dy.inj{x:V}(r:dy x u)(q:dy y u):x=y:=qAb$ r.abs.symm.trans q.abs
theorem dv.inj:∀{xs ys:List V}{us:List Value},dv xs us->dv ys us->xs=ys
 |_,_,_,.nil,.nil=>rfl
 |_,_,_,.cons r t,.cons O t'=>by rw[r.inj O,dv.inj t t']
section
variable{X:Cx}{pins:List (Addr×Obj)}{σ:St}{H:Hp}{s:Shared}{a:Addr}{xs ys:List V}
theorem SqL.of(h:H a=some (.lst xs)):SqL K H a xs:=.inl$ .inl h
theorem SqT.of(h:H a=some (.tup xs)):SqT K H a xs:=.inl$ .inl h
theorem Inv.list(I:Inv X pins σ H s)(h:SqL X.K H a xs):∃its:List Value,dv xs its/\PlainL s.heap a its.toArray/\xs.length<=sizeLine:=by
 rcases h with h|⟨o,its,n,O,hc,hd,hs,S,r⟩
 .obtain ⟨z,its,n,r,e⟩:=h.ok I.hok;exact⟨its,r,⟨_,n,e,rF,rF,rF⟩,z⟩
 .refine ⟨its.toList,r,⟨o,n,I.kIn a o O,hc,hd,by simpa using hs⟩,?_⟩;have e:=r.length;simp only[qB2]at e;lia
theorem Inv.tuple(I:Inv X pins σ H s)(h:SqT X.K H a xs):∃its:List Value,dv xs its/\IsTup s.heap a its.toArray/\xs.length<=sizeLine:=by
 rcases h with h|⟨o,its,n,O,hc,hs,S,r⟩
 .obtain ⟨z,its,r,p⟩:=h.ok I.hok;exact⟨its,r,p,z⟩
 .refine ⟨its.toList,r,⟨o,I.kIn a o O,hc,n,by simpa using hs⟩,?_⟩;have e:=r.length;simp only[qB2]at e;lia
theorem Inv.list_inj(I:Inv X pins σ H s)(h:SqL X.K H a xs)(h':SqL X.K H a ys):xs=ys:=by
 obtain⟨its,r,⟨o,n,e,_,_,d⟩,_⟩:=I.list h;obtain⟨its',S,⟨o',V,O,_,_,d'⟩,_⟩:=I.list h';rw[e]at O;cases O;rw[d]at d';injection d' with d1 _;have:its=its':=by simpa using qAl Array.toList d1
 subst this;exact r.inj S
theorem Inv.tuple_inj(I:Inv X pins σ H s)(h:SqT X.K H a xs)(h':SqT X.K H a ys):xs=ys:=by
 obtain⟨its,r,⟨o,e,_,n,d⟩,_⟩:=I.tuple h;obtain⟨its',S,⟨o',O,_,V,d'⟩,_⟩:=I.tuple h';rw[e]at O;cases O;rw[d]at d';injection d' with d1 _;have:its=its':=by simpa using qAl Array.toList d1
 subst this;exact r.inj S
end
abbrev Cx.wish(X:Cx)(E:Value->Shared->Prop):Cx:={X with xe:=E}
abbrev Cx.nox(X:Cx):Cx:=X.wish λ_ _=>False
theorem Cx.Ok.wish(ok:X.Ok)(E:Value->Shared->Prop):(X.wish E).Ok :=
 ⟨ok.mod,ok.kind,ok.glob,ok.blt,ok.above,ok.inj,ok.has,ok.cab,ok.hd,ok.frames,ok.stk,ok.exf,ok.bs,ok.bsz,ok.noex,ok.exfs,ok.funs,ok.frf⟩
theorem Cx.Ok.unwish{E:Value->Shared->Prop}(ok:(X.wish E).Ok):X.Ok :=
 ⟨ok.mod,ok.kind,ok.glob,ok.blt,ok.above,ok.inj,ok.has,ok.cab,ok.hd,ok.frames,ok.stk,ok.exf,ok.bs,ok.bsz,ok.noex,ok.exfs,ok.funs,ok.frf⟩
section
variable{X:Cx}{pins:List (Addr×Obj)}{σ:St}{H:Hp}{s:Shared}{E:Value->Shared->Prop}
theorem Inv.wish(I:Inv X pins σ H s)(E:Value->Shared->Prop):Inv (X.wish E) pins σ H s:=⟨I.ok.wish E,I.os,I.bare,I.base,I.loc,I.cell,I.free,I.freeC,I.pin,I.hok,I.len⟩
theorem Inv.unwish(I:Inv (X.wish E) pins σ H s):Inv X pins σ H s:=⟨I.ok.unwish,I.os,I.bare,I.base,I.loc,I.cell,I.free,I.freeC,I.pin,I.hok,I.len⟩
theorem SP.unwish{f:Flow}{s':Shared}(h:SP (X.wish E) pins D f s'):SP X pins D f s':=by
 cases f with
 |next=>obtain⟨O,H',I,q⟩:=h;exact⟨O,H',I.unwish,q⟩
 |brk=>obtain⟨O,H',I,q⟩:=h;exact⟨O,H',I.unwish,q⟩
 |cont=>obtain⟨O,H',I,q⟩:=h;exact⟨O,H',I.unwish,q⟩
 |ret u=>obtain⟨v,O,H',I,r,q⟩:=h;exact⟨v,O,H',I.unwish,r,q⟩
theorem PSs.nox{st:List Stmt}{t:TS}(h:PSs X.nox st t):PSs X st t:=λpins s σ H D I hw=>
 qAv (h pins s σ H D (I.wish _) hw) (λ_ _ q=>q.unwish) λ_ _ z=>False.elim z
end
section
variable{X:Cx}{st:Stmt}{rest:List Stmt}{t u:TS}{e:Expr}{te:TE}{pos:Pos}
def ma:TS:=λD σ H=>D.nx σ H
def dA(t u:TS):TS:=λD σ H=>t {D with nx:=u D} σ H
theorem zAs:PSs X [] ma:=λ_ _ σ H _ I h=>qCS ⟨σ,H,I,h⟩
theorem zAc(h1:PS X st t)(h2:PSs X rest u):PSs X (st::rest) (dA t u):=by
 intro pins s σ H D I h;refine wpAny_execs_cons$ thn (h1 pins s σ H {D with nx:=u D} I h) λf S q=>?_
 cases f with
 |next=>
  obtain⟨O,H',V,q⟩:=q;exact h2 pins S O H' D V q
 |ret v=>exact q
 |brk=>exact q
 |cont=>exact q
theorem zAe(h1:PS X st t):PSs X [st] t:=by
 intro pins s σ H D I h;refine wpAny_execs_cons$ thn (h1 pins s σ H D I h) λf S q=>?_
 cases f with
 |next=>exact qCS q
 |ret v=>exact q
 |brk=>exact q
 |cont=>exact q
theorem Inv.quiet(I:Inv X pins σ H s):interactive X.env=false:=by simp[interactive,I.ok.kind]
def wz(te:TE):TS:=λD σ H=>te σ H λ_ H1=>D.nx σ H1
theorem zA2(O:PE X e te)(hs:swapsWith e none pos.line X.env=pure false:=by rfl):PS X (.Expr e pos) (wz te):=by
 intro pins s σ H D I h;exact wpAny_Expr_any (thn (O pins s σ H _ I h) λv W ⟨x,H1,S,r1,V⟩=>⟨σ,H1,S,V⟩) I.quiet hs
def wx(te:TE):TS:=λD σ H=>te σ H D.rt
theorem zAw(O:PE X e te):PS X (.Return (some e) pos) (wx te):=by
 intro pins s σ H D I h;exact wpAny_Return_some$ thn (O pins s σ H _ I h) λv W ⟨x,H1,S,r1,V⟩=>⟨x,σ,H1,S,r1,V⟩
def wV(c:TT)(t u:TS):TS:=λD σ H=>c σ H λb H1=>if b=true then t D σ H1 else u D σ H1
theorem zBk{c:Expr}{a b:List Stmt}{tc:TT}(hc:PT X c tc)(W:PSs X a t)(hb:PSs X b u):PS X (.If c a b pos) (wV tc t u):=by
 intro pins s σ H D I h;refine wpAny_If$ thn (hc pins s σ H _ I h) λd S ⟨H1,O,V⟩=>?_
 cases d with
 |true=>exact W pins S σ H1 D O V
 |false=>exact hb pins S σ H1 D O V
def uV:TS:=λ_ _ _=>False
theorem zAz:PS X st uV:=λ_ _ _ _ _ _ h=>h.elim
end
abbrev TG:=V->St->Hp->(St->Hp->Prop)->Prop
variable{g:TG}
abbrev TGs:=List V->St->Hp->(St->Hp->Prop)->Prop
def PG(X:Cx)(O:Expr)(t:TG):Prop :=
 ∀(pins:List (Addr×Obj)) (s:Shared) (σ:St) (H:Hp) (v:V) (u:Value) (Q:St->Hp->Prop),Inv X pins σ H s->dy v u->t v σ H Q ->
  wpAny (model X.prog X.w) X.A (assign O X.env u) (λ_ s'=>∃S H',Inv X pins S H' s'/\Q S H') X.xe s
def PGs(X:Cx)(ts:List Expr)(t:TGs):Prop :=
 ∀(pins:List (Addr×Obj)) (s:Shared) (σ:St) (H:Hp) (vs:List V) (us:List Value) (Q:St->Hp->Prop),Inv X pins σ H s->dv vs us->t vs σ H Q ->
  wpAny (model X.prog X.w) X.A (assignInOrder ((assignEach ts X.env).map (·.2)) us) (λ_ s'=>∃O H',Inv X pins O H' s'/\Q O H') X.xe s
abbrev vQ:=V->V->V->Hp->(Hp->Prop)->Prop
def wX(X:Cx)(t:vQ):Prop :=
 ∀(pins:List (Addr×Obj)) (s:Shared) (σ:St) (H:Hp) (o i v:V) (O S u:Value) (Q:Hp->Prop),Inv X pins σ H s->dy o O->dy i S->dy v u->t o i v H Q ->
  wpAny (model X.prog X.w) X.A (setItem O S u) (λ_ s'=>∃H',Inv X pins σ H' s'/\Q H') X.xe s
section
variable{X:Cx}{pos:Pos}
def zJy(i:Nat):TG:=λv σ H Q=>Q (σ.set i$ some v) H
theorem lS(O:X.N.Nodup)(hi:X.N[i]?=some x)(S:Loc X.env.scope x)(V:X.fn x=true\/X.env.scope.names.lookup x=some .local:=by first|exact .inl rF|exact .inr rF|assumption):PG X (.Name x pos) (zJy i):=by
 intro pins s σ H v u Q I r h;exact wpAny_assign_Name$ zG1 I O hi S r (λs' W=>⟨_,H,W,h⟩) V
def xC:TGs:=λvs σ H Q=>vs=[]/\Q σ H
inductive uj(t:TG)(u:TGs)(vs:List V)(σ:St)(H:Hp)(Q:St->Hp->Prop):Prop
 |mk:∀v r,vs=v::r->(t v σ H λσ' H'=>u r σ' H' Q)->uj t u vs σ H Q
theorem zD5:PGs X [] xC:=by
 intro pins s σ H vs us Q I r h;obtain⟨e,h⟩:=h;subst e
 cases r
 exact assignInOrder_nil ⟨σ,H,I,h⟩
theorem zBf{es:List Expr}{t:TG}{u:TGs}(h1:PG X e t)(h2:PGs X es u)
  (hs:(assignEach (e::es) X.env).map (·.2)=assign e X.env::(assignEach es X.env).map (·.2):=by rfl):PGs X (e::es) (uj t u):=by
 intro pins s σ H vs us Q I r h;obtain⟨v,vr,S,h⟩:=h;subst S
 cases r with
 |cons r V=>
  rw[hs];refine assignInOrder_cons$ thn (h1 pins s σ H _ _ _ I r h) λ_ W ⟨O,H1,I1,q1⟩=>?_;exact h2 pins W O H1 _ _ Q I1 V q1
inductive uQ(K:PySem.W.Frag)(n:Nat)(t:TGs)(v:V)(σ:St)(H:Hp)(Q:St->Hp->Prop):Prop
 |mk:∀a xs,v= .ref a->SqT K H a xs->xs.length=n->t xs σ H Q->uQ K n t v σ H Q
theorem zIv{es:List Expr}{k:Nat}{t:TGs}{n:Nat}(hc:X.calm=true)(h:PGs X es t)
  (S:(assignEach es X.env).length=n:=by rfl) (O:(assignEach es X.env).findIdx? (·.1)=none:=by rfl):PG X (.Tuple es k pos) (uQ X.K n t):=by
 intro pins s σ H v u Q I r hw;obtain⟨a,xs,W,hq,hl,hw⟩:=hw;subst W
 cases r
 obtain⟨its,V,ht,hz⟩:=I.tuple hq;refine assign_Tuple_tuple (I.ok.hd hc) ht (by simp[S,<-hl,V.length]) O λh' hx=>?_;have I1:Inv X pins σ H {s with heap:=h'}:=I.kept (t':=s.toks) λb o e=>hx b o (qAQ$ qAI e) e;exact h pins _ σ H xs _ Q I1 (by simpa using V) hw
def xO(to O:TE)(t:vQ):TG:=λv σ H Q=>to σ H λo H1=>O σ H1 λi H2=>t o i v H2 λS=>Q σ S
theorem lj{o i:Expr}{to O:TE}{t:vQ}(ho:PE X o to)(hi:PE X i O)(hs:wX X t)
  (S:∀v,assign (.Subscript o i pos) X.env v=(do
   let ov<-holding [v] (eval o X.env)
   let iv<-holding [v,ov] (eval i X.env)
   standAt pos
   holding [v,ov,iv] (setItem ov iv v)
   release [v,ov,iv] []):=by intro _;rfl):PG X (.Subscript o i pos) (xO to O t):=by
 intro pins s σ H v u Q I r h;rw[S];refine qAA$ qAy$ thn (ho pins s σ H _ I h) λov V ⟨x,H1,W,r1,q1⟩=>?_;refine qAA$ qAy$ thn (hi pins V σ H1 _ W q1) λiv s2 ⟨y,H2,I2,r2,q2⟩=>?_;refine qAA$ qCm$ qAA$ qAy$ thn (hs pins s2 σ H2 x y v ov iv u _ I2 r1 r2 r q2) λ_ s3 ⟨H3,I3,q3⟩=>?_;exact wpAny_release ⟨σ,H3,I3,q3⟩
def pb(te:TE)(g:TG):TS:=λD σ H=>te σ H λx H1=>g x σ H1 D.nx
theorem iU{te:TE}(O:PE X e te)(S:PG X tg g)(hs:swapsWithSole [tg] e pos.line X.env=pure false:=by rfl)(hw:swappedStores [tg] e X.env=pure none:=by rfl)
  (h1:(assignEach [tg] X.env).map (·.2)=[assign tg X.env]:=by rfl):PS X (.Assign [tg] e pos) (pb te g):=by
 intro pins s σ H D I h;refine wpAny_Assign_stores (thn (O pins s σ H _ I h) λv V ⟨x,H1,W,r1,q1⟩=>?_) hs hw;rw[h1];exact thn (S pins V σ H1 x v _ W r1 q1) λ_ s2 q=>q
theorem zIt{i:Nat}{x:Str}{e:Expr}{te:TE}{pos':Pos}(O:X.N.Nodup)(hi:X.N[i]?=some x)(S:Loc X.env.scope x)(V:PE X e te)(hs:swapsWith e (some$ .Name x pos') pos.line X.env=pure false:=by rfl)(W:X.fn x=true\/X.env.scope.names.lookup x=some .local:=by first|exact .inl rF|exact .inr rF|assumption) :
  PS X (.Assign [.Name x pos'] e pos) (pb te$ zJy i):=by
 intro pins s σ H D I h;refine wpAny_Assign_Name (thn (V pins s σ H _ I h) λv s1 ⟨y,H1,I1,r1,q1⟩=>?_) hs;exact zG1 I1 O hi S r1 (λs2 I2=>⟨_,H1,I2,q1⟩) W
end
section
variable{X:Cx}{pos:Pos}
def ie(c:TT)(tb:TS):TS:=λD σ H=>∃W:Nat->St->Hp->Prop,(∃m,W m σ H)/\∀m σ H,W m σ H ->
 c σ H λb H1=>if b=true then∃N:St->Hp->Prop,(∀O H',N O H'->∃S,S<m/\W S O H')/\tb {D with nx:=N,ct:=N,bk:=D.nx} σ H1 else D.nx σ H1
theorem zJf{c:Expr}{body:List Stmt}{tc:TT}{tb:TS}(hp:PassesOwn (model X.prog X.w) X.A X.env X.xe)(hc:PT X c tc)(hb:PSs X body tb):PS X (.While c body [] pos) (ie tc tb):=by
 intro pins s σ H D I h;obtain⟨W,⟨m0,w0⟩,V⟩:=h;refine wpAny_While$ codeAny_whileLoop (λn s'=>∃aa H',Inv X pins aa H' s'/\W n aa H') ?_ m0 ⟨σ,H,I,w0⟩;rintro n s1 ⟨S,H1,I1,w1⟩;refine qB3 hp$ thn (hc pins s1 S H1 _ I1$ V n S H1 w1) λb s2 ⟨H2,I2,q2⟩=>?_
 cases b with
 |true=>
  obtain⟨N,hN,q2⟩:=q2;rw[qAC rF];refine qB3 hp$ thn (hb pins s2 S H2 _ I2 q2) λf s3 q3=>?_
  cases f with
  |next=>
   obtain⟨O,H3,I3,n3⟩:=q3;obtain⟨m',hm,w3⟩:=hN O H3 n3;exact⟨m',hm,O,H3,I3,w3⟩
  |cont=>
   obtain⟨O,H3,I3,n3⟩:=q3;obtain⟨m',hm,w3⟩:=hN O H3 n3;exact⟨m',hm,O,H3,I3,w3⟩
  |brk=>exact q3
  |ret v=>exact q3
 |false=>
  rw[qAB qAd];exact qCS ⟨S,H2,I2,q2⟩
end
structure It where
 go:Nat->Hp->Prop
 yld:Nat->Hp->V->Hp->Prop
 stop:Nat->Hp->Prop
def eS(X:Cx)(pins:List (Addr×Obj))(H:Hp)(b:Addr):Prop :=
 H b=none/\b≠X.env.locals/\b∉X.fs/\(b∈X.ex\/X.s₀.heap.objs.size<=b)/\(∀x c,X.env.cells.lookup x=some c->c≠b)/\∀p∈X.pn++pins,p.1≠b
theorem Inv.fpOk{H':Hp}{b:Addr}(I:Inv X pins σ H s)(O:s.heap.objs.size<=b)(S:H' b=none):eS X pins H' b:=by
 refine⟨S,qA4$ qAj I.lt O,I.nofs O,.inr$ qAW I.sz O,λx c e z=>?_,λp V z=>?_⟩
 .obtain ⟨v,q⟩:=I.cell x c e;exact absurd (qAj q.lt$ by rw[z];exact O)$ qA2 _
 .exact absurd (qAj (qAI (I.pin p V).1)$ by rw[z];exact O)$ qA2 _
structure jz(P:Program)(w:World)(K:PySem.W.Frag)(tg:Expr)(J:It)(fp:List Addr)(it:Addr)(tn:Nat->Heap->Prop):Prop where
 mem:it∈fp
 obj:∀i h,tn i h->∀b∈fp,∃o,h.get? b=some o/\∀v,o.data≠.cell v
 keep:∀i h h',tn i h->(∀b∈fp,∀o,h.get? b=some o->h'.get? b=some o)->tn i h'
 item:∀(X:Cx),X.prog=P->X.w=w->X.K=K->X.calm=true->∀(i:Nat) (pins:List (Addr×Obj)) (s:Shared) (σ:St) (H:Hp) (E:Value->Shared->Prop),Inv X pins σ H s->(∀b∈fp,eS X pins H b)->tn i s.heap->J.go i H ->
  wpAny (model P w) X.A (pyNext$ .ref it) (λr s1=>∃u,r=some u /\ wpAny (model P w) X.A (letOwnedTupleGo tg (.ref it) u) (λ_ s2=>∃x H',Inv X pins σ H' s2/\dy x u/\J.yld i H x H'/\tn (i+1) s2.heap/\∀b∈fp,H' b=none) E s1) E s
 done:∀(X:Cx),X.prog=P->X.w=w->X.K=K->X.calm=true->∀(i:Nat) (pins:List (Addr×Obj)) (s:Shared) (σ:St) (H:Hp) (E:Value->Shared->Prop),Inv X pins σ H s->(∀b∈fp,eS X pins H b)->tn i s.heap->J.stop i H ->
  wpAny (model P w) X.A (pyNext$ .ref it) (λr s1=>r=none/\Inv X pins σ H s1) E s
 self:∀(A:Around)(i:Nat)(s:Shared)(Q:Value->Shared->Prop)(E:Value->Shared->Prop),tn i s.heap->Q (.ref it) s->wpAny (model P w) A (pyIter$ .ref it) Q E s
abbrev TI:=St->Hp->(It->Hp->Prop)->Prop
def PIE(X:Cx)(pins:List (Addr×Obj))(σ:St)(tg:Expr)(R:It->Hp->Prop)(V:Value)(s2:Shared):Prop :=
 ∃(O:Addr)(fp:List Addr)(S:Nat->Heap->Prop)(J:It)(H':Hp),V= .ref O/\Inv X pins σ H' s2/\jz X.prog X.w X.K tg J fp O S/\S 0 s2.heap/\(∀b∈fp,eS X pins H' b)/\R J H'
def PI(X:Cx)(tg iter:Expr)(wi:TI):Prop :=
 ∀(pins:List (Addr×Obj)) (s:Shared) (σ:St) (H:Hp) (R:It->Hp->Prop),Inv X pins σ H s->wi σ H R ->
  wpAny (model X.prog X.w) X.A (eval iter X.env) (λv S=>wpAny (model X.prog X.w) X.A (pyIter v) (PIE X pins σ tg R) X.xe S) X.xe s
theorem jU{M:Model}{E:Value->Shared->Prop}{s:Shared}{S:Addr}{o:Obj}{n:String}{vs:Array Value}{Q:Unit->Shared->Prop}(ho:s.heap.get? S=some o)(hc:o.cls= .type n)(hd:o.data= .fields vs)
  (V:["enumerate","zip","dict_itemiterator","dict_reverseitemiterator","odict_iterator","itertools.zip_longest","itertools.pairwise"].contains n=false) (O:Q () s):wpAny M A (letOwnedTupleGo tg (.ref S) u) Q E s:=by
 unfold letOwnedTupleGo
 cases tg<;>first
  |exact qAE O
  | (cases u<;>first
    |exact qAE O
    | (refine qAA$ qB4 ho ?_
       rw[hc,hd];show wpAny M A (if(["enumerate","zip","dict_itemiterator","dict_reverseitemiterator","odict_iterator","itertools.zip_longest","itertools.pairwise"].contains n&&vs[0]?==some (rawInt _))=true then _ else _) Q E s;rw[qAB$ by intro h;rw[V,Bool.false_and]at h;cases h];exact qAE O))
def Itl(K:PySem.W.Frag)(a:Addr):It :=
 ⟨λi H=>∃xs x,SqL K H a xs/\xs[i]?=some x,λi H x H'=>H'=H/\∀xs,SqL K H a xs->xs[i]?=some x,λi H=>∃xs,SqL K H a xs/\xs.length<=i⟩
def Itt(K:PySem.W.Frag)(a:Addr):It :=
 ⟨λi H=>∃xs x,SqT K H a xs/\xs[i]?=some x,λi H x H'=>H'=H/\∀xs,SqT K H a xs->xs[i]?=some x,λi H=>∃xs,SqT K H a xs/\xs.length<=i⟩
def Itr(lo:Int)(n:Nat):It:=⟨λi _=>i<n,λi H x H'=>H'=H/\x= .int (lo+i),λi _=>n<=i⟩
theorem nC(a O:Addr):jz P w K tg (Itl K a) [O] O (λi h=>h.IsListIter O a i) where
 mem:=ss
 obj:=λi h st b S=>by
  have e:b=O:=by simpa using S
  subst e;obtain⟨o,e,c,d⟩:=st;exact⟨o,e,λv z=>by rw[d]at z;cases z⟩
 keep:=λi h h' st k=>st.at λo e=>k O ss o e
 item:=by
  intro X hP hw hK hc i pins s σ H E I W st hg;subst hP hw hK;obtain⟨xs,x,hq,hx⟩:=hg;obtain⟨its,rv,p,hz⟩:=I.list hq;obtain⟨u,hu,ru⟩:=rv.get hx;obtain⟨f0,f1,f2,f3,f4,f5⟩:=W O ss;refine wpAny_pyNext_list_item st p.isList (x:=u) (by simpa using hu) λh' V sb=>?_;have I1:Inv X pins σ H {s with heap:=h'}:=I.turned (t':=s.toks) (λb o S e=>(sb.2 b S).trans e) f0 f1 f3 f4 f5;obtain⟨o,e,c,d⟩:=id V;exact⟨u,rF,jU (s:={s with heap:=h'}) e c d dD ⟨x,H,I1,ru,⟨rF,λys hy=>by rw[I.list_inj hy hq];exact hx⟩,V,λb S=>(W b S).1⟩⟩
 done:=by
  intro X hP hw hK hc i pins s σ H E I W st hg;subst hP hw hK;obtain⟨xs,hq,hx⟩:=hg;obtain⟨its,rv,p,hz⟩:=I.list hq;obtain⟨f0,f1,f2,f3,f4,f5⟩:=W O ss;have hl:=rv.length;exact wpAny_pyNext_list_end (I.ok.hd hc) st p.isList (by simp;lia) λh' eb=>⟨rF,I.turned (t':=s.toks) (λb o S e=>eb b o S e) f0 f1 f3 f4 f5⟩
 self:=λ_ _ _ _ _ st h=>wpAny_pyIter_listiter st h
theorem lg(a O:Addr):jz P w K tg (Itt K a) [O] O (λi h=>h.IsTupleIter O a i) where
 mem:=ss
 obj:=λi h st b S=>by
  have e:b=O:=by simpa using S
  subst e;obtain⟨o,e,c,d⟩:=st;exact⟨o,e,λv z=>by rw[d]at z;cases z⟩
 keep:=λi h h' st k=>st.at λo e=>k O ss o e
 item:=by
  intro X hP hw hK hc i pins s σ H E I W st hg;subst hP hw hK;obtain⟨xs,x,hq,hx⟩:=hg;obtain⟨its,rv,p,hz⟩:=I.tuple hq;obtain⟨u,hu,ru⟩:=rv.get hx;obtain⟨f0,f1,f2,f3,f4,f5⟩:=W O ss;refine wpAny_pyNext_tuple_item st (show s.heap.IsTuple a its.toArray from p) (x:=u) (by simpa using hu) λh' V sb=>?_;have I1:Inv X pins σ H {s with heap:=h'}:=I.turned (t':=s.toks) (λb o S e=>(sb.2 b S).trans e) f0 f1 f3 f4 f5;obtain⟨o,e,c,d⟩:=id V;exact⟨u,rF,jU (s:={s with heap:=h'}) e c d dD ⟨x,H,I1,ru,⟨rF,λys hy=>by rw[I.tuple_inj hy hq];exact hx⟩,V,λb S=>(W b S).1⟩⟩
 done:=by
  intro X hP hw hK hc i pins s σ H E I W st hg;subst hP hw hK;obtain⟨xs,hq,hx⟩:=hg;obtain⟨its,rv,p,hz⟩:=I.tuple hq;obtain⟨f0,f1,f2,f3,f4,f5⟩:=W O ss;have hl:=rv.length;exact wpAny_pyNext_tuple_end (I.ok.hd hc) st (show s.heap.IsTuple a its.toArray from p) (by simp;lia) λh' eb=>⟨rF,I.turned (t':=s.toks) (λb o S e=>eb b o S e) f0 f1 f3 f4 f5⟩
 self:=λ_ _ _ _ _ st h=>wpAny_pyIter_tupleiter st h
theorem kj(O:Addr)(lo:Int)(n:Nat):jz P w K tg (Itr lo n) [O] O (λi h=>IsRangeIter h O (lo+(i:Nat)*1) ((n:Int)-(i:Nat)) 1) where
 mem:=ss
 obj:=λi h st b S=>by
  have e:b=O:=by simpa using S
  subst e
  exact⟨_,st,λv z=>by
   have z':Data.fields _=Data.cell v:=z
   cases z'⟩
 keep:=λi h h' st k=>k O ss _ st
 item:=by
  intro X hP hw hK hc i pins s σ H E I hf st hg;subst hP hw hK;obtain⟨f0,f1,f2,f3,f4,f5⟩:=hf O ss;have W:=Walks.range (prog:=X.prog) (w:=X.w) (I.ok.hd hc) O lo 1 n;refine W.item i s _ _ hg st λv h' tk hv V kk=>?_;obtain⟨t,rfl⟩:=hv;have I1:Inv X pins σ H {s with heap:=h',toks:=tk}:=I.turned (λb o S e=>kk b o (by simpa using S) e) f0 f1 f3 f4 f5;refine⟨_,rF,jU (s:={s with heap:=h',toks:=tk}) (n:="range_iterator") V rF rF dD ⟨.int$ lo+i,H,I1,⟨t,?_⟩,⟨rF,rF⟩,V,λb S=>(hf b S).1⟩⟩;rw[Int.mul_one]
 done:=by
  intro X hP hw hK hc i pins s σ H E I hf st hg;subst hP hw hK;obtain⟨f0,f1,f2,f3,f4,f5⟩:=hf O ss;exact wpAny_pyNext_range_end (I.ok.hd hc) st (by have:n<=i:=hg;lia) λh' eb=>⟨rF,I.turned (t':=s.toks) (λb o S e=>eb b o S e) f0 f1 f3 f4 f5⟩
 self:=λ_ _ _ _ _ st h=>wpAny_pyIter_rangeiter st h
section
variable{X:Cx}{tg:Expr}
inductive pJ(K:PySem.W.Frag)(R:It->Hp->Prop)(x:V)(H1:Hp):Prop
 |mk:∀a,x= .ref a->(∃xs,SqL K H1 a xs)->R (Itl K a) H1->pJ K R x H1
def ue(K:PySem.W.Frag)(tl:TE):TI:=λσ H R=>tl σ H λx H1=>pJ K R x H1
inductive uf(K:PySem.W.Frag)(R:It->Hp->Prop)(x:V)(H1:Hp):Prop
 |mk:∀a,x= .ref a->(∃xs,SqT K H1 a xs)->R (Itt K a) H1->uf K R x H1
def xJ(K:PySem.W.Frag)(tl:TE):TI:=λσ H R=>tl σ H λx H1=>uf K R x H1
theorem zAq{l:Expr}{tl:TE}(V:PE X l tl):PI X tg l (ue X.K tl):=by
 intro pins s σ H R I h;refine thn (V pins s σ H _ I h) λv S ⟨x,H1,O,r1,W⟩=>?_;obtain⟨a,e,⟨xs,hq⟩,q⟩:=W;subst e
 cases r1
 obtain⟨its,rv,p,hz⟩:=O.list hq;refine wpAny_pyIter_list p.isList ?_;refine⟨S.heap.objs.size,[S.heap.objs.size],_,_,H1,rF,O.kept (t':=S.toks) λb o e=>qAM _ e,nC a _,⟨_,qAk _ rF,rF,rF⟩,λb hb=>?_,q⟩;have e:b=S.heap.objs.size:=by simpa using hb
 subst e;exact O.fpOk (qAG _)$ O.hok.fresh$ qAG _
theorem va{l:Expr}{tl:TE}(V:PE X l tl):PI X tg l (xJ X.K tl):=by
 intro pins s σ H R I h;refine thn (V pins s σ H _ I h) λv S ⟨x,H1,O,r1,W⟩=>?_;obtain⟨a,e,⟨xs,hq⟩,q⟩:=W;subst e
 cases r1
 obtain⟨its,rv,p,hz⟩:=O.tuple hq;refine wpAny_pyIter_tuple (show S.heap.IsTuple a its.toArray from p) ?_;refine⟨S.heap.objs.size,[S.heap.objs.size],_,_,H1,rF,O.kept (t':=S.toks) λb o e=>qAM _ e,lg a _,⟨_,qAk _ rF,rF,rF⟩,λb hb=>?_,q⟩;have e:b=S.heap.objs.size:=by simpa using hb
 subst e;exact O.fpOk (qAG _)$ O.hok.fresh$ qAG _
theorem jw{R:It->Hp->Prop}{E:Value->Shared->Prop}{lo hi:Int}{t u v:Tok}{tk:Nat}(I:Inv X pins σ H s)(h1:-(2^62)<=lo)(h2:lo<2^62)(h3:-(2^62)<=hi)(h4:hi<2^62)
  (q:R (Itr lo (hi-lo).toNat) H):wpAny (model X.prog X.w) X.A (pyIter$ .ref s.heap.objs.size) (PIE X pins σ tg R) E {s with heap:=s.heap.push {cls:=.type "range",data:=.fields #[.int lo t,.int hi u,.int 1 v]},toks:=tk}:=by
 refine wpAny_pyIter_range (IsRange.new ..) (small_one h1 h2 h3 h4) ?_;have O:Inv X pins σ H {s with heap:=s.heap.push {cls:=.type "range",data:=.fields #[.int lo t,.int hi u,.int 1 v]},toks:=tk}:=I.kept λb o e=>qAM _ e
 refine⟨(s.heap.push {cls:=.type "range",data:=.fields #[.int lo t,.int hi u,.int 1 v]}).objs.size,[(s.heap.push {cls:=.type "range",data:=.fields #[.int lo t,.int hi u,.int 1 v]}).objs.size],_,_,H,rF,O.kept (t':=tk) λb o e=>qAM _ e,kj _ lo (hi-lo).toNat,?_,λb S=>?_,q⟩
 .have V:lo+((0:Nat):Int)*1=lo:=ss
  have W:(((hi-lo).toNat:Nat):Int)-((0:Nat):Int)=Builtin.Range.rangeSize lo hi 1:=by rw[rangeSize_one];split<;>lia
  show IsRangeIter _ _ (lo+((0:Nat):Int)*1) ((((hi-lo).toNat:Nat):Int)-((0:Nat):Int)) 1;rw[V,W];exact qAk _ rF
 .have e:b=(s.heap.push {cls:=.type "range",data:=.fields #[.int lo t,.int hi u,.int 1 v]}).objs.size:=by simpa using S
  subst e;exact O.fpOk (qAG _)$ O.hok.fresh$ qAG _
inductive rc(R:It->Hp->Prop)(vs:List V)(H1:Hp):Prop
 |mk:∀(j:Int),vs=[.int j]->-(2^62)<=j->j<2^62->R (Itr 0 j.toNat) H1->rc R vs H1
def xx(ta:TA):TI:=λσ H R=>ta σ H λvs H1=>rc R vs H1
inductive p6(R:It->Hp->Prop)(vs:List V)(H1:Hp):Prop
 |mk:∀(i j:Int),vs=[.int i,.int j]->(-(2^62)<=i/\i<2^62/\-(2^62)<=j/\j<2^62)->R (Itr i (j-i).toNat) H1->p6 R vs H1
def w6(ta:TA):TI:=λσ H R=>ta σ H λvs H1=>p6 R vs H1
theorem zEr{a:Expr}{ta:TA}{p:Pos}(S:Gl X "range")(hm:X.mg "range"=none)(V:PA X [a] ta)(hs:starEach [a] X.env=[(false,eval a X.env)]:=by rfl):PI X tg (.Call (.Name "range" p) [a] [] pos) (xx ta):=by
 intro pins s σ H R I h;refine Call_$ zHz I S hm boot_range$ qCT (thn (V pos pins s σ H _ I h) λus s1 ⟨vs,H1,W,r1,O⟩=>?_) hs rF;obtain⟨j,e,O,q2,q⟩:=O;subst e
 cases r1 with
 |cons r rr=>
  cases rr
  obtain⟨t,rfl⟩:=r;exact call_range_1 (jw W Ll Ll O q2$ by simpa using q)
theorem oM{a b:Expr}{ta:TA}{p pos:Pos}(W:Gl X "range")(hm:X.mg "range"=none)(ha:PA X [a,b] ta)(hs:starEach [a,b] X.env=[(false,eval a X.env),(false,eval b X.env)]:=by rfl)(O:starEach [b] X.env=[(false,eval b X.env)]:=by rfl) :
  PI X tg (.Call (.Name "range" p) [a,b] [] pos) (w6 ta):=by
 intro pins s σ H R I h;refine Call_ (zHz I W hm boot_range$ qCT (thn (ha pos pins s σ H _ I h) λus s1 ⟨vs,H1,I1,r1,S⟩=>?_) (by rw[hs,O])$ by rw[O];rfl);obtain⟨i,j,e,⟨S,q2,q3,q4⟩,q⟩:=S;subst e
 cases r1 with
 |cons r V=>
  cases V with
  |cons r' V=>
   cases V
   obtain⟨t,rfl⟩:=r;obtain⟨t',rfl⟩:=r';exact call_range_2$ jw I1 S q2 q3 q4 q
def xM(wi:TI)(g:TG)(tb:TS):TS:=λD σ H=>wi σ H λJ H1=>∃W:Nat->Nat->St->Hp->Prop,(∃m,W 0 m σ H1)/\∀i m σ H,W i m σ H ->
 (J.stop i H/\D.nx σ H)\/(J.go i H/\∃N:St->Hp->Prop,(∀O H',N O H'->∃V,V<m/\W (i+1) V O H')/\∀x H',J.yld i H x H'->g x σ H' λS H2=>tb {D with nx:=N,ct:=N,bk:=D.nx} S H2)
def zIu(fp:List Addr)(h:Heap):List (Addr×Obj):=fp.filterMap λb=>(h.get? b).map λo=>(b,o)
theorem zC4{fp:List Addr}{b:Addr}{o:Obj}(O:b∈fp)(e:h.get? b=some o):(b,o)∈zIu fp h:=List.mem_filterMap.mpr ⟨b,O,by rw[e];rfl⟩
theorem oH{fp:List Addr}{p:Addr×Obj}(O:p∈zIu fp h):p.1∈fp/\h.get? p.1=some p.2:=by
 obtain⟨b,S,e⟩:=List.mem_filterMap.mp O
 cases q:h.get? b with
 |none=>rw[q]at e;cases e
 |some o=>
  rw[q]at e;have V:(b,o)=p:=qAb e;subst V;exact⟨S,q⟩
theorem Inv.pinned{fp:List Addr}(I:Inv X pins σ H s)(V:∀b∈fp,eS X pins H b)(ho:∀b∈fp,∃o,s.heap.get? b=some o/\∀v,o.data≠.cell v):Inv X (pins++zIu fp s.heap) σ H s :=
 I.pins_of λp W=>(qAR.mp W).elim (λz=>I.pin p$ qAs _ z) λz=>by
  obtain⟨O,e⟩:=oH z;obtain⟨f0,f1,f2,_⟩:=V p.1 O;obtain⟨o,S,d⟩:=ho p.1 O;rw[e]at S;cases S;exact⟨e,f0,f1,f2,d⟩
theorem Inv.unpinned{pl:List (Addr×Obj)}(I:Inv X (pins++pl) σ H s):Inv X pins σ H s:=I.pins_of λp O=>I.pin p$ qAs _$ qAp _ O
theorem zA7{iter:Expr}{body:List Stmt}{wi:TI}{tb:TS}(hp:PassesOwn (model X.prog X.w) X.A X.env X.xe)(hc:X.calm=true)(hi:PI X tg iter wi)(hg:PG X tg g)(S:PSs X body tb)
  (hs:∀x,foldedSetIterable iter X.env x=pure x:=by intro _;rfl):PS X (.For tg iter body [] pos) (xM wi g tb):=by
 intro pins s σ H D I h;refine wpAny_For (thn (hi pins s σ H _ I h) λv s1 h1=>thn h1 λam s2 h2=>?_) hs;obtain⟨it,fp,tn,J,H2,e,I2,T,ai,f2,W,⟨m0,w0⟩,af⟩:=h2;subst e;have V:∀{H':Hp},(∀b∈fp,H' b=none)->∀b∈fp,eS X pins H' b:=λhn b S=>⟨hn b S,(f2 b S).2⟩;refine codeAny_forLoop_any (λn s'=>∃i aa H',Inv X pins aa H' s'/\tn i s'.heap/\(∀b∈fp,H' b=none)/\W i n aa H') ?_ m0 ⟨0,σ,H2,I2,ai,λb S=>(f2 b S).1,w0⟩;rintro n s3 ⟨i,ad,H3,I3,st3,ag,w3⟩;rcases af i n ad H3 w3 with⟨ah,qn⟩|⟨go,N,hN,step⟩
 .refine qB3 hp$ thn (T.done X rF rF rF hc i pins s3 ad H3 X.xe I3 (V ag) st3 ah) λr s4 ⟨hr,I4⟩=>?_;subst hr;exact qCS ⟨ad,H3,I4,qn⟩
 .refine qB3 hp$ thn (T.item X rF rF rF hc i pins s3 ad H3 X.xe I3 (V ag) st3 go) λr s4 ⟨u,hr,h4⟩=>?_;subst hr;refine qB3 hp$ thn h4 λ_ s5 ⟨x,H5,I5,r5,y5,ae,aj⟩=>?_;have ak:=I5.pinned (V aj)$ T.obj _ _ ae;refine qB3 hp$ thn (hg _ s5 ad H5 x u _ ak r5$ step x H5 y5) λ_ s6 ⟨al,H6,I6,q6⟩=>?_;refine qB3 hp$ thn (S _ s6 al H6 _ I6 q6) λf s7 q7=>?_
  have again:∀{O:St}{H7:Hp},Inv X (pins++zIu fp s5.heap) O H7 s7->N O H7->∃m,m<n/\∃i aa H',Inv X pins aa H' s7/\tn i s7.heap/\(∀b∈fp,H' b=none)/\W i m aa H':=λ{O H7} I7 n7=>by
   obtain⟨m',hm,w7⟩:=hN O H7 n7;refine⟨m',hm,i+1,O,H7,I7.unpinned,T.keep _ _ _ ae λb S o e=>(I7.pin (b,o)$ qAs _$ qAs _$ zC4 S e).1,λb S=>?_,w7⟩;obtain⟨o,e,d⟩:=T.obj _ _ ae b S;exact(I7.pin (b,o)$ qAs _$ qAs _$ zC4 S e).2.1
  cases f with
  |next=>obtain⟨O,H7,I7,n7⟩:=q7;exact again I7 n7
  |cont=>obtain⟨O,H7,I7,n7⟩:=q7;exact again I7 n7
  |brk=>obtain⟨O,H7,I7,q7⟩:=q7;exact⟨O,H7,I7.unpinned,q7⟩
  |ret v=>obtain⟨x7,O,H7,I7,r7,q7⟩:=q7;exact⟨x7,O,H7,I7.unpinned,r7,q7⟩
end
theorem zA3{xs:List V}{tb:TS}(O:Nat->St->Hp->Prop)(h0:O 0 σ H)(hl:∀i σ H,i<=xs.length->O i σ H->SqL K H a xs)
  (hs:∀i x σ H,xs[i]?=some x->O i σ H->g x σ H λS H2=>tb {D with nx:=O (i+1),ct:=O (i+1),bk:=D.nx} S H2) (hd:∀σ H,O xs.length σ H->D.nx σ H) :
  ∃W:Nat->Nat->St->Hp->Prop,(∃m,W 0 m σ H)/\∀i m σ H,W i m σ H ->
   ((Itl K a).stop i H/\D.nx σ H)\/((Itl K a).go i H/\∃N:St->Hp->Prop,(∀aa H',N aa H'->∃m',m'<m/\W (i+1) m' aa H')/\∀x H',(Itl K a).yld i H x H'->g x σ H' λS H2=>tb {D with nx:=N,ct:=N,bk:=D.nx} S H2):=by
 refine⟨λi m σ H=>m=xs.length-i/\i<=xs.length/\O i σ H,⟨xs.length,ss,qAi _,h0⟩,?_⟩;rintro i m σ H ⟨rfl,hi,p⟩;have q:=hl i σ H hi p
 by_cases hlt:i<xs.length
 .refine .inr ⟨⟨xs,xs[i],q,by simp[hlt]⟩,O$ i+1,λaa H' p'=>⟨xs.length-(i+1),Ll,rF,hlt,p'⟩,λx H' y=>?_⟩;obtain⟨e,y⟩:=y;subst e;exact hs i x σ _ (y xs q) p
 .have e:i=xs.length:=Ll
  subst e;exact .inl ⟨⟨xs,q,qAG _⟩,hd σ H p⟩
theorem sM{tb:TS}(V:Nat->St->Hp->Prop)(h0:V 0 σ H)(hl:∀i σ H,i<=xs.length->V i σ H->SqT K H a xs)
  (hs:∀i x σ H,xs[i]?=some x->V i σ H->g x σ H λO H2=>tb {D with nx:=V (i+1),ct:=V (i+1),bk:=D.nx} O H2) (hd:∀σ H,V xs.length σ H->D.nx σ H) :
  ∃W:Nat->Nat->St->Hp->Prop,(∃m,W 0 m σ H)/\∀i m σ H,W i m σ H ->
   ((Itt K a).stop i H/\D.nx σ H)\/((Itt K a).go i H/\∃N:St->Hp->Prop,(∀S H',N S H'->∃m',m'<m/\W (i+1) m' S H')/\∀x H',(Itt K a).yld i H x H'->g x σ H' λO H2=>tb {D with nx:=N,ct:=N,bk:=D.nx} O H2):=by
 refine⟨λi m σ H=>m=xs.length-i/\i<=xs.length/\V i σ H,⟨xs.length,ss,qAi _,h0⟩,?_⟩;rintro i m σ H ⟨rfl,hi,p⟩;have q:=hl i σ H hi p
 by_cases hlt:i<xs.length
 .refine .inr ⟨⟨xs,xs[i],q,by simp[hlt]⟩,V$ i+1,λS H' p'=>⟨xs.length-(i+1),Ll,rF,hlt,p'⟩,λx H' y=>?_⟩;obtain⟨e,y⟩:=y;subst e;exact hs i x σ _ (y xs q) p
 .have e:i=xs.length:=Ll
  subst e;exact .inl ⟨⟨xs,q,qAG _⟩,hd σ H p⟩
theorem zDw{lo:Int}{n:Nat}{tb:TS}(V:Nat->St->Hp->Prop)(h0:V 0 σ H)
  (hs:∀i σ H,i<n->V i σ H->g (.int$ lo+i) σ H λO H2=>tb {D with nx:=V (i+1),ct:=V (i+1),bk:=D.nx} O H2) (hd:∀σ H,V n σ H->D.nx σ H) :
  ∃W:Nat->Nat->St->Hp->Prop,(∃m,W 0 m σ H)/\∀i m σ H,W i m σ H ->
   ((Itr lo n).stop i H/\D.nx σ H)\/((Itr lo n).go i H/\∃N:St->Hp->Prop,(∀S H',N S H'->∃m',m'<m/\W (i+1) m' S H')/\∀x H',(Itr lo n).yld i H x H'->g x σ H' λO H2=>tb {D with nx:=N,ct:=N,bk:=D.nx} O H2):=by
 refine⟨λi m σ H=>m=n-i/\i<=n/\V i σ H,⟨n,ss,qAi _,h0⟩,?_⟩;rintro i m σ H ⟨rfl,hi,p⟩
 by_cases hlt:i<n
 .refine .inr ⟨hlt,V$ i+1,λS H' p'=>⟨n-(i+1),Ll,rF,hlt,p'⟩,λx H' y=>?_⟩;obtain⟨e,y⟩:=y;subst e y;exact hs i σ _ hlt p
 .have e:i=n:=Ll
  subst e;exact .inl ⟨qAG _,hd σ H p⟩
theorem jc{c:TT}{tb:TS}(V:St->Hp->Prop)(S:St->Hp->Nat)(h0:V σ H)
  (hs:∀σ H,V σ H->c σ H λb H1=>if b=true then tb {D with nx:=λO H'=>V O H'/\S O H'<S σ H,ct:=λO H'=>V O H'/\S O H'<S σ H,bk:=D.nx} σ H1 else D.nx σ H1)
  (mono:∀σ H Q W,(∀b H1,Q b H1->W b H1)->c σ H Q->c σ H W):ie c tb D σ H:=by
 refine⟨λm σ H=>m=S σ H/\V σ H,⟨_,rF,h0⟩,?_⟩;rintro m σ H ⟨rfl,p⟩;refine mono σ H _ _ (λb H1 q=>?_)$ hs σ H p
 cases b with
 |true=>exact⟨_,λO H' ⟨p',l⟩=>⟨_,l,rF,p'⟩,q⟩
 |false=>exact q
abbrev R2:=V->V->Hp->VK->Prop
variable{r:R2}
def OpR(X:Cx)(f:Value->Value->Sem Value)(r:R2):Prop :=
 ∀(pins:List (Addr×Obj)) (s:Shared) (σ:St) (H:Hp) (x y:V) (v u:Value) (Q:VK),Inv X pins σ H s->dy x v->dy y u->r x y H Q ->
  wpAny (model X.prog X.w) X.A (f v u) (EP X pins σ Q) X.xe s
def UnR(X:Cx)(f:Value->Sem Value)(r:V->Hp->VK->Prop):Prop :=
 ∀(pins:List (Addr×Obj)) (s:Shared) (σ:St) (H:Hp) (x:V) (v:Value) (Q:VK),Inv X pins σ H s->dy x v->r x H Q ->
  wpAny (model X.prog X.w) X.A (f v) (EP X pins σ Q) X.xe s
def zCz(X:Cx)(f:Value)(r:List V->Hp->VK->Prop):Prop :=
 ∀(pins:List (Addr×Obj)) (s:Shared) (σ:St) (H:Hp) (xs:List V) (us:List Value) (Q:VK),Inv X pins σ H s->dv xs us->r xs H Q ->
  wpAny (model X.prog X.w) X.A (call f us) (EP X pins σ Q) X.xe s
def x4(X:Cx)(r:V->Hp->(Bool->Hp->Prop)->Prop):Prop :=
 ∀(pins:List (Addr×Obj)) (s:Shared) (σ:St) (H:Hp) (x:V) (v:Value) (Q:Bool->Hp->Prop),Inv X pins σ H s->dy x v->r x H Q ->
  wpAny (model X.prog X.w) X.A (truthy v) (TP X pins σ Q) X.xe s
def tOp(r:R2)(ta tb:TE):TE:=λσ H Q=>ta σ H λx H1=>tb σ H1 λy H2=>r x y H2 Q
def tUn(r:V->Hp->VK->Prop)(ta:TE):TE:=λσ H Q=>ta σ H λx H1=>r x H1 Q
inductive rI(C:Int->Int->Prop)(g:Int->Int->V)(x:V)(y:V)(H:Hp)(Q:VK):Prop
 |mk:∀i j,x= .int i->y= .int j->C i j->Q (g i j) H->rI C g x y H Q
inductive rI0(g:Int->Int->V)(x:V)(y:V)(H:Hp)(Q:VK):Prop
 |mk:∀i j,x= .int i->y= .int j->Q (g i j) H->rI0 g x y H Q
inductive rU(g:Int->V)(x:V)(H:Hp)(Q:VK):Prop
 |mk:∀i,x= .int i->Q (g i) H->rU g x H Q
section
variable{X:Cx}{a b c:Expr}{ta tb tc:TE}{pos:Pos}
theorem vZ(W:PE X a ta)(hb:PE X b tb){R:V->V->Hp->Prop}(I:Inv X pins σ H s)
  (h:ta σ H λx H1=>tb σ H1 λy H2=>R x y H2) {Q:Value->Shared->Prop} {f:Value->Value->Sem Value}
  (hf:∀v u s2 x y H2,Inv X pins σ H2 s2->dy x v->dy y u->R x y H2->wpAny (model X.prog X.w) X.A (f v u) Q X.xe s2) :
  wpAny (model X.prog X.w) X.A (eval a X.env) (λv S=>wpAny (model X.prog X.w) X.A (eval b X.env) (λu O=>wpAny (model X.prog X.w) X.A (f v u) Q X.xe O) X.xe S) X.xe s:=by
 refine thn (W pins s σ H _ I h) λv s1 ⟨x,H1,I1,r1,q1⟩=>?_;refine thn (hb pins s1 σ H1 _ I1 q1) λu s2 ⟨y,H2,I2,r2,q2⟩=>?_;exact hf v u s2 x y H2 I2 r1 r2 q2
theorem zAn{op:Operator}{r:R2}(ho:OpR X (binaryOp op) r)(O:PE X a ta)(S:PE X b tb):PE X (.BinOp a op b pos) (tOp r ta tb):=by
 intro pins s σ H Q I h;exact wpAny_BinOp$ vZ O S I h λv u s2 x y H2 V W ry q=>ho pins s2 σ H2 x y v u Q V W ry q
theorem qS{op:UnaryOp}{r:V->Hp->VK->Prop}(ho:UnR X (unaryOp op) r)(O:PE X a ta):PE X (.UnaryOp op a pos) (tUn r ta):=by
 intro pins s σ H Q I h;exact UnaryOp_$ thn (O pins s σ H _ I h) λv S ⟨x,H1,W,r1,q1⟩=>ho pins S σ H1 x v Q W r1 q1
theorem opI{f:Value->Value->Sem Value}{C:Int->Int->Prop}{g:Int->Int->Int}
  (rule:∀(i j:Int)(t u:Tok)(s:Shared)(Q:Value->Shared->Prop)(E:Value->Shared->Prop),C i j->Q (.int (g i j) s.toks) {s with toks:=s.toks+1}->wpAny (model X.prog X.w) X.A (f (.int i t)$ .int j u) Q E s) :
  OpR X f (rI C λi j=>.int$ g i j):=by
 intro pins s σ H x y v u Q I O S h;obtain⟨i,j,rfl,rfl,hc,q⟩:=h;obtain⟨t,rfl⟩:=O;obtain⟨t',rfl⟩:=S;exact rule i j t t' s _ _ hc ⟨.int$ g i j,H,I.tok _,⟨_,rF⟩,q⟩
theorem xt{f:Value->Value->Sem Value}{g:Int->Int->Int}
  (rule:∀(i j:Int)(t u:Tok)(s:Shared)(Q:Value->Shared->Prop)(E:Value->Shared->Prop),Q (.int (g i j) s.toks) {s with toks:=s.toks+1}->wpAny (model X.prog X.w) X.A (f (.int i t)$ .int j u) Q E s) :
  OpR X f (rI0 λi j=>.int$ g i j):=by
 intro pins s σ H x y v u Q I O S h;obtain⟨i,j,rfl,rfl,q⟩:=h;obtain⟨t,rfl⟩:=O;obtain⟨t',rfl⟩:=S;exact rule i j t t' s _ _ ⟨.int$ g i j,H,I.tok _,⟨_,rF⟩,q⟩
theorem vn{f:Value->Value->Sem Value}{g:Int->Int->Bool}
  (rule:∀(i j:Int)(t u:Tok)(s:Shared)(Q:Value->Shared->Prop)(E:Value->Shared->Prop),Q (.bool$ g i j) s->wpAny (model X.prog X.w) X.A (f (.int i t)$ .int j u) Q E s) :
  OpR X f (rI0 λi j=>.bl$ g i j):=by
 intro pins s σ H x y v u Q I O S h;obtain⟨i,j,rfl,rfl,q⟩:=h;obtain⟨t,rfl⟩:=O;obtain⟨t',rfl⟩:=S;exact rule i j t t' s _ _ ⟨.bl$ g i j,H,I,rF,q⟩
def xX(i j:Int):Prop:=0<j/\j<1073741824
def xW(i j:Int):Prop:=0<=j/\j<=1000000/\i.natAbs<2^64
def uW(i j:Int):Prop:=(-(2^64)<i/\i<2^64)\/(-(2^64)<j/\j<2^64)
theorem uW.ok{i j:Int}(h:uW i j):IntMulOk i j:=by
 rcases h with⟨h1,h2⟩|⟨h1,h2⟩
 .exact .of_left$ intBits_le_64 h1 h2
 .exact .of_right$ intBits_le_64 h1 h2
theorem zCy:OpR X (binaryOp .Add) (rI0 λi j=>.int$ i+j):=xt λ_ _ _ _ _ _ _ q=>add_int q
theorem zE9:OpR X (binaryOp .Sub) (rI0 λi j=>.int$ i-j):=xt λ_ _ _ _ _ _ _ q=>sub_int q
theorem zFv:OpR X (binaryOp .Mult) (rI uW λi j=>.int$ i*j):=opI λ_ _ _ _ _ _ _ hc q=>mul_int q hc.ok
theorem zJi:OpR X (binaryOp .FloorDiv) (rI xX λi j=>.int$ i / j):=opI λi j _ _ _ _ _ hc q=>by
 have h1:(0:Int)<j:=hc.1;have h2:j<1073741824:=hc.2;exact floordiv_int Ll (by rw[Int.fdiv_eq_ediv_of_nonneg i Ll];exact q)$ .inl$ PyProof.noPylong_small Ll
theorem zBa:OpR X (binaryOp .Mod) (rI (λ_ j=>0<j) λi j=>.int$ i % j):=opI λi j _ _ _ _ _ hc q=>by
 have h1:(0:Int)<j:=hc;exact mod_int' Ll (by rw[Int.fmod_eq_emod_of_nonneg i Ll];exact q)
theorem ki:OpR X (binaryOp .Pow) (rI xW λi j=>.int$ i^j.toNat):=opI λ_ _ _ _ _ _ _ hc q=>pow_int_small hc.1 hc.2.1 hc.2.2 q
theorem unI{f:Value->Sem Value}{g:Int->Int}
  (rule:∀(i:Int)(t:Tok)(s:Shared)(Q:Value->Shared->Prop)(E:Value->Shared->Prop),Q (.int (g i) s.toks) {s with toks:=s.toks+1}->wpAny (model X.prog X.w) X.A (f$ .int i t) Q E s) :
  UnR X f (rU λi=>.int$ g i):=by
 intro pins s σ H x v Q I O h;obtain⟨i,rfl,q⟩:=h;obtain⟨t,rfl⟩:=O;exact rule i t s _ _ ⟨.int$ g i,H,I.tok _,⟨_,rF⟩,q⟩
theorem ko:UnR X (unaryOp .USub) (rU λi=>.int$ -i):=unI λ_ _ _ _ _ q=>neg_int q
end
def xo:V->V->Bool
 | .non,.non=>true| .non,.int _=>true| .int _,.non=>true| .non,.bl _=>true| .bl _,.non=>true| .non,.str _=>true| .str _,.non=>true
 | .int _,.int _=>true| .bl _,.bl _=>true| .str _,.str _=>true| .byt _,.byt _=>true
 | .int _,.str _=>true| .str _,.int _=>true| .bl _,.str _=>true| .str _,.bl _=>true
 |_,_=>false
def rEq:R2:=λx y H Q=>xo x y=true/\Q (.bl$ decide$ x=y) H
def rNe:R2:=λx y H Q=>xo x y=true/\Q (.bl$ !decide (x=y)) H
theorem mE{i j:Int}:decide (V.int i=V.int j)=(i==j):=by
 rw[qB5];simp
theorem pf{i j:Bool}:decide (V.bl i=V.bl j)=(i==j):=by
 rw[qB5];simp
theorem mK{i j:Str}:decide (V.str i=V.str j)=(i==j):=by
 rw[qB5];simp
theorem mC{i j:Array UInt8}:decide (V.byt i=V.byt j)=(i.toList==j.toList):=by
 rw[qB5]
 cases i
 cases j
 simp
section
variable{X:Cx}{a b c:Expr}{ta tb tc:TE}{pos:Pos}
theorem zBj{Q:VK}{k O:Bool}(I:Inv X pins σ H s)(q:Q (.bl k) H)(e:k=O):EP X pins σ Q (.bool O) s:=by
 subst e;exact⟨.bl k,H,I,rF,q⟩
theorem zD8:OpR X (compareOp .Eq) rEq:=by
 intro pins s σ H x y v u Q I S O h;obtain⟨hs,q⟩:=h
 cases x with
 |non=>
  cases S
  cases y with
  |non=>cases O;exact PySem.EqNone.eq_none_none$ zBj I q ss
  |bl j=>cases O;exact PySem.EqNone.eq_none_bool$ zBj I q ss
  |int j=>obtain⟨t',rfl⟩:=O;exact PySem.EqNone.eq_none_int$ zBj I q ss
  |str j=>obtain⟨t',rfl⟩:=O;exact PySem.EqNone.eq_none_str$ zBj I q ss
  |_=>exact absurd (show false=true from hs) qAd
 |bl i=>
  cases S
  cases y with
  |non=>cases O;exact PySem.EqNone.eq_bool_none$ zBj I q ss
  |bl j=>cases O;exact eq_bool$ zBj I q pf
  |str j=>obtain⟨t',rfl⟩:=O;exact PySem.EqMixed.eq_bool_str$ zBj I q ss
  |_=>exact absurd (show false=true from hs) qAd
 |int i=>
  obtain⟨t,rfl⟩:=S
  cases y with
  |non=>cases O;exact PySem.EqNone.eq_int_none$ zBj I q ss
  |int j=>obtain⟨t',rfl⟩:=O;exact eq_int$ zBj I q mE
  |str j=>obtain⟨t',rfl⟩:=O;exact PySem.EqMixed.eq_int_str$ zBj I q ss
  |_=>exact absurd (show false=true from hs) qAd
 |str i=>
  obtain⟨t,rfl⟩:=S
  cases y with
  |non=>cases O;exact PySem.EqNone.eq_str_none$ zBj I q ss
  |bl j=>cases O;exact PySem.EqMixed.eq_str_bool$ zBj I q ss
  |int j=>obtain⟨t',rfl⟩:=O;exact PySem.EqMixed.eq_str_int$ zBj I q ss
  |str j=>obtain⟨t',rfl⟩:=O;exact eq_str$ zBj I q mK
  |_=>exact absurd (show false=true from hs) qAd
 |byt i=>
  obtain⟨t,rfl⟩:=S
  cases y with
  |byt j=>obtain⟨t',rfl⟩:=O;exact PySem.W.eq_bytes$ zBj I q mC
  |_=>exact absurd (show false=true from hs) qAd
 |_=>cases y<;>exact absurd (show false=true from hs) qAd
theorem zFu:OpR X (compareOp .NotEq) rNe:=by
 intro pins s σ H x y v u Q I S O h;obtain⟨hs,q⟩:=h
 cases x with
 |non=>
  cases S
  cases y with
  |non=>cases O;exact PySem.EqNone.ne_none_none$ zBj I q ss
  |bl j=>cases O;exact PySem.EqNone.ne_none_bool$ zBj I q ss
  |int j=>obtain⟨t',rfl⟩:=O;exact PySem.EqNone.ne_none_int$ zBj I q ss
  |str j=>obtain⟨t',rfl⟩:=O;exact PySem.EqNone.ne_none_str$ zBj I q ss
  |_=>exact absurd (show false=true from hs) qAd
 |bl i=>
  cases S
  cases y with
  |non=>cases O;exact PySem.EqNone.ne_bool_none$ zBj I q ss
  |bl j=>cases O;exact ne_bool$ zBj I q$ qAl not pf
  |str j=>obtain⟨t',rfl⟩:=O;exact PySem.EqMixed.ne_bool_str$ zBj I q ss
  |_=>exact absurd (show false=true from hs) qAd
 |int i=>
  obtain⟨t,rfl⟩:=S
  cases y with
  |non=>cases O;exact PySem.EqNone.ne_int_none$ zBj I q ss
  |int j=>obtain⟨t',rfl⟩:=O;exact ne_int$ zBj I q$ qAl not mE
  |str j=>obtain⟨t',rfl⟩:=O;exact PySem.EqMixed.ne_int_str$ zBj I q ss
  |_=>exact absurd (show false=true from hs) qAd
 |str i=>
  obtain⟨t,rfl⟩:=S
  cases y with
  |non=>cases O;exact PySem.EqNone.ne_str_none$ zBj I q ss
  |bl j=>cases O;exact PySem.EqMixed.ne_str_bool$ zBj I q ss
  |int j=>obtain⟨t',rfl⟩:=O;exact PySem.EqMixed.ne_str_int$ zBj I q ss
  |str j=>obtain⟨t',rfl⟩:=O;exact ne_str$ zBj I q$ qAl not mK
  |_=>exact absurd (show false=true from hs) qAd
 |byt i=>
  obtain⟨t,rfl⟩:=S
  cases y with
  |byt j=>obtain⟨t',rfl⟩:=O;exact PySem.W.ne_bytes$ zBj I q$ qAl not mC
  |_=>exact absurd (show false=true from hs) qAd
 |_=>cases y<;>exact absurd (show false=true from hs) qAd
theorem jY:OpR X (compareOp .Lt) (rI0 λi j=>.bl$ decide$ i<j):=vn λ_ _ _ _ _ _ _ q=>lt_int q
theorem uu:OpR X (compareOp .LtE) (rI0 λi j=>.bl$ decide$ i<=j):=vn λ_ _ _ _ _ _ _ q=>le_int q
theorem jh:OpR X (compareOp .Gt) (rI0 λi j=>.bl$ decide$ j<i):=vn λ_ _ _ _ _ _ _ q=>gt_int q
theorem zAv(b:Expr)(h:op≠.In:=by decide)(h2:op≠.NotIn:=by decide):behindInMarks op b=false:=by
 have O:(op==CmpOp.In)=false:=by cases op<;>first|rfl|exact absurd rF h
 have S:(op==CmpOp.NotIn)=false:=by cases op<;>first|rfl|exact absurd rF h2
 cases b<;>simp[behindInMarks,O,S]
theorem zCs(ho:OpR X (compareOp op) r)(O:PE X a ta)(S:PE X b tb)(hm:behindInMarks op b=false):PE X (.Compare a [op] [b] pos) (tOp r ta tb):=by
 intro pins s σ H Q I h;exact wpAny_Compare1 (vZ O S I h λv u s2 x y H2 V W ry q=>ho pins s2 σ H2 x y v u Q V W ry q) hm
inductive rB(Q:Bool->Hp->Prop)(x:V)(H':Hp):Prop
 |mk:∀k,x= .bl k->Q k H'->rB Q x H'
def ug(t:TE):TT:=λσ H Q=>t σ H λx H'=>rB Q x H'
theorem zAr(ho:OpR X (compareOp op) r)(O:PE X a ta)(S:PE X b tb)(hm:behindInMarks op b=false):PT X (.Compare a [op] [b] pos) (ug$ tOp r ta tb):=by
 intro pins s σ H Q I h
 refine wpAny_isTrue_Compare1 (thn (O pins s σ H _ I h) λv V ⟨x,H1,W,r1,q1⟩=>thn (S pins V σ H1 _ W q1) λu s2 ⟨y,H2,I2,r2,q2⟩=>thn (ho pins s2 σ H2 x y v u _ I2 r1 r2 q2) λc s3 ⟨z,H3,I3,r3,k,e,q3⟩=>?_) hm
 subst e
 cases r3
 exact qBP ⟨H3,I3,q3⟩
def qZ(r S:R2)(ta tb tc:TE):TE:=λσ H Q=>ta σ H λx H1=>tb σ H1 λy H2=>r x y H2 λz O=>∃k,z= .bl k /\
 (if k=true then tc σ O λW V=>S y W V Q else Q (.bl false) O)
theorem pM{O:CmpOp}{V:R2}(ho:OpR X (compareOp op) r)(S:OpR X (compareOp O) V)(ha:PE X a ta)(hb:PE X b tb)(hc:PE X c tc)
  (hm:lastMarks [op,O] [b,c]=false:=by with_unfolding_all rfl):PE X (.Compare a [op,O] [b,c] pos) (qZ r V ta tb tc):=by
 intro pins s σ H Q I h
 refine Compare_chain (thn (ha pins s σ H _ I h) λv s1 ⟨x,H1,I1,r1,q1⟩=>chain_link$ thn (hb pins s1 σ H1 _ I1 q1) λu s2 ⟨y,H2,I2,r2,q2⟩=>thn (ho pins s2 σ H2 x y v u _ I2 r1 r2 q2) λd s3 ⟨z,W,I3,r3,k,e,q3⟩=>?_) hm
 subst e
 cases r3
 refine qBP ?_
 cases k with
 |false=>exact ite_ff ⟨.bl false,W,I3,rF,q3⟩
 |true=>exact ite_tt$ chain_last$ thn (hc pins s3 σ W _ I3 q3) λw' s4 ⟨z',H4,I4,r4,q4⟩=>S pins s4 σ H4 y z' u w' Q I4 r2 r4 q4
theorem qP{O:CmpOp}{V:R2}(ho:OpR X (compareOp op) r)(S:OpR X (compareOp O) V)(ha:PE X a ta)(hb:PE X b tb)(hc:PE X c tc)
  (hm:lastMarks [op,O] [b,c]=false:=by with_unfolding_all rfl):PT X (.Compare a [op,O] [b,c] pos) (ug$ qZ r V ta tb tc):=by
 intro pins s σ H Q I h
 refine isTrue_chain (thn (ha pins s σ H _ I h) λv s1 ⟨x,H1,I1,r1,q1⟩=>test_link$ thn (hb pins s1 σ H1 _ I1 q1) λu s2 ⟨y,H2,I2,r2,q2⟩=>thn (ho pins s2 σ H2 x y v u _ I2 r1 r2 q2) λd s3 ⟨z,W,I3,r3,k,e,q3⟩=>?_) hm
 subst e
 cases r3
 refine qBP ?_
 cases k with
 |false=>
  obtain⟨k',e',q'⟩:=q3
  cases e'
  exact ite_ff ⟨W,I3,q'⟩
 |true=>
  refine ite_tt$ test_last$ thn (hc pins s3 σ W _ I3 q3) λw' s4 ⟨z',H4,I4,r4,q4⟩=>thn (S pins s4 σ H4 y z' u w' _ I4 r2 r4 q4) λd' s5 ⟨z2,H5,I5,r5,k2,e2,q5⟩=>?_;subst e2
  cases r5
  exact qBP ⟨H5,I5,q5⟩
def uR(K:PySem.W.Frag)(x:V)(H:Hp)(k:Bool):Prop :=
 match x with
 | .non=>k=false
 | .bl b=>k=b
 | .int i=>k=(i != 0)
 | .str y=>y.length<=sizeLine/\k=((y.length:Int) != 0)
 | .byt y=>y.size<=sizeLine/\k=((y.size:Int) != 0)
 | .ref p=>(∃xs,SqL K H p xs/\k= !xs.isEmpty)\/(∃xs,SqT K H p xs/\k= !xs.isEmpty)\/∃S,H p=some (.dK S)/\k= !S.isEmpty
 |_=>False
theorem kl{κ:Type}{S:List (κ×V)}{vs:List (κ×Value)}(r:KV S vs):(!vs.isEmpty)= !S.isEmpty:=by
 cases r<;>rfl
theorem zIy{its:List Value}(r:dv xs its):(!its.toArray.isEmpty)= !xs.isEmpty:=by
 cases r<;>simp
theorem zHx:(sizeLine:Nat)<2^63:=by rw[qAK];decide
theorem uS:x4 X (λx H Q=>∃k,uR X.K x H k/\Q k H):=by
 intro pins s σ H x v Q I W h;obtain⟨k,e,q⟩:=h;have hl:=zHx;have hs:sizeLine=16777216:=qAK
 cases x with
 |non=>
  cases W
  have O:k=false:=e;subst O;exact truthy_none ⟨H,I,q⟩
 |bl b=>
  cases W
  have O:k=b:=e;subst O;exact qBP ⟨H,I,q⟩
 |int i=>
  obtain⟨t,rfl⟩:=W;have O:k=(i != 0):=e;subst O;exact PySem.P.truthy_int ⟨H,I,q⟩
 |str y=>
  obtain⟨t,rfl⟩:=W;obtain⟨hy,O⟩:y.length<=sizeLine/\k=((y.length:Int) != 0):=e;subst O;exact PySem.P.truthy_str Ll ⟨H,I.tok _,q⟩
 |byt y=>
  obtain⟨t,rfl⟩:=W;obtain⟨hy,O⟩:y.size<=sizeLine/\k=((y.size:Int) != 0):=e;subst O;exact PySem.W.truthy_bytes Ll ⟨H,I.tok _,q⟩
 |ref p=>
  cases W
  have O:(∃xs,SqL X.K H p xs/\k= !xs.isEmpty)\/(∃xs,SqT X.K H p xs/\k= !xs.isEmpty)\/∃S,H p=some (.dK S)/\k= !S.isEmpty:=e;rcases O with⟨xs,hx,O⟩|⟨xs,hx,O⟩|⟨S,hx,O⟩
  .subst O;obtain⟨its,r,pl,hz⟩:=I.list hx;have V:=r.length;exact wpAny_truthy_list pl.isList (by simp only[qAS];lia) ⟨H,I.tok _,by rw[zIy r];exact q⟩
  .subst O;obtain⟨its,r,pl,hz⟩:=I.tuple hx;have V:=r.length;exact truthy_tuple pl (by simp only[qAS];lia) ⟨H,I.tok _,by rw[zIy r];exact q⟩
  .subst O;obtain⟨hz,hS,vs,r,m⟩:S.length<=sizeLine/\(p==sysModules)=false/\∃vs,KV S vs/\s.heap.DictOf (zB5 X.prog X.w) p vs:=I.hok p _ hx;have V:S.length=vs.length:=qCD r;exact wpAny_truthy_dict hS m Ll ⟨H,I.tok _,by rw[kl r];exact q⟩
 |_=>exact(show False from e).elim
theorem zG6(O:PE X a ta)(S:∀whole,isTrue a X.env whole=(do let v<-whole;standAt a.pos;holding [v] (truthy v))) :
  PT X a (λσ H Q=>ta σ H λx H'=>∃k,uR X.K x H' k/\Q k H'):=by
 intro pins s σ H Q I h;exact isTrue_plain (thn (O pins s σ H _ I h) λv V ⟨x,H1,W,r1,q1⟩=>uS pins V σ H1 x v Q W r1 q1)$ S _
theorem lh:OpR X (binaryOp .Add) (λx y H Q=>∃i j,x= .str i/\y= .str j/\i.length+j.length<=sizeLine/\Q (.str$ i++j) H):=by
 intro pins s σ H x y v u Q I O S h;obtain⟨i,j,rfl,rfl,V,q⟩:=h;obtain⟨t,rfl⟩:=O;obtain⟨t',rfl⟩:=S;exact add_str (λt' tk=>⟨.str$ i++j,H,I.tok _,⟨_,rF⟩,q⟩) V
theorem zI5{x:V}(r:dv [x] us):∃u,us=[u]/\dy x u:=by
 cases r with
 |cons r1 r2=>cases r2;exact⟨_,rF,r1⟩
theorem wE{x:V}(r:dv [x,y] us):∃u W,us=[u,W]/\dy x u/\dy y W:=by
 cases r with
 |cons r1 r2=>
  cases r2 with
  |cons O S=>cases S;exact⟨_,_,rF,r1,O⟩
theorem jV:zCz X (.builtin "abs") (λxs H Q=>∃i,xs=[.int i]/\Q (.int$ if i<0 then -i else i) H):=by
 intro pins s σ H xs us Q I r h;obtain⟨i,rfl,q⟩:=h;obtain⟨u,rfl,t,rfl⟩:=zI5 r;exact call_abs_int λu tk=>⟨.int$ if i<0 then -i else i,H,I.tok _,⟨_,rF⟩,q⟩
theorem nX(hc:X.calm=true):zCz X (.builtin "max") (λxs H Q=>∃i j,xs=[.int i,.int j]/\Q (.int$ if j>i then j else i) H):=by
 intro pins s σ H xs us Q I r h;obtain⟨i,j,rfl,q⟩:=h;obtain⟨u,W,rfl,⟨t,rfl⟩,⟨t',rfl⟩⟩:=wE r;refine max_two_ints (I.ok.hd hc) λh' tk k=>⟨_,H,I.kept k,?_,q⟩
 by_cases hj:j>i
 .rw [qAC hj,qAC hj];exact⟨_,rF⟩
 .rw [qAB hj,qAB hj];exact⟨_,rF⟩
theorem zEz:zCz X (.type "int") (λxs H Q=>(∃i,xs=[.int i]/\Q (.int i) H)\/∃k,xs=[.bl k]/\Q (.int$ if k then 1 else 0) H):=by
 intro pins s σ H xs us Q I r h;rcases h with⟨i,rfl,q⟩|⟨k,rfl,q⟩
 .obtain ⟨u,rfl,t,rfl⟩:=zI5 r;exact call_int_int ⟨.int i,H,I,⟨_,rF⟩,q⟩
 .obtain ⟨u,rfl,r1⟩:=zI5 r
  cases r1
  exact call_int_bool ⟨.int$ if k then 1 else 0,H,I.tok _,⟨_,rF⟩,q⟩
end
structure kE(h:Heap)(x dx C:Addr)(mA:Str->Option Value):Prop where
 obj:h.get? x=some (PySem.W.instObj C dx)
 ns:h.Ns1 dx mA
 ne:dx≠x
theorem oG{dx:Addr}{mA:Str->Option Value}(n:h.Ns1 dx mA):∃S,h.get? dx=some S/\∀name,PySem.W.lookIn name S=some (mA name):=by
 obtain⟨o,es,ep,ho,hd,V,_,hm⟩:=n;refine⟨o,ho,λname=>?_⟩;have e:=hm name;unfold nsFind findBy at e;rw[<-Array.find?_toList]at e;unfold PySem.W.lookIn;rw[hd];dsimp only;split
 .rename_i y q;rw[q]at e;exact qAl some e
 .rename_i q;rw[q]at e
  have a:es.toList.any (·.refKey)=false:=by
   rw[List.any_eq_false];intro y W;obtain⟨z,t,O⟩:=V y$ qDC.mp W;simp[DictEntry.refKey,O]
  have a':¬es.toList.any (·.refKey)=true:=by rw[a];exact qAd
  rw[qAB a'];exact qAl some e
theorem kE.look{x dx:Addr}{mA:Str->Option Value}(I:kE h x dx C mA):∃O,PySem.W.InstAt h x (PySem.W.instObj C dx) C (some O)/\∀name,PySem.W.lookIn name O=some (mA name) :=
 let⟨O,ho,S⟩:=oG I.ns
 ⟨O,⟨I.obj,rF,rF,ho⟩,S⟩
section
variable{prog:Program}{w:World}{A:Around}{E:Value->Shared->Prop}{s:Shared}{K:PySem.W.Frag}{x dx C f:Addr}{mA:Str->Option Value}{name:Str}{v:Value}
theorem tH{O:Bool}{Q:Value->Shared->Prop}(X:K.In s.heap)(I:kE s.heap x dx C mA)(V:PySem.W.plainGet K C name=true)(W:PySem.W.hasDictIn K C=true)
  (ha:PySem.W.findIn K (.ref C) name=some none) (hv:mA name=some v) (S:PySem.W.handedIn v=true) (h:Q v {s with toks:=s.toks+1}) :
  wpAny (model prog w) A (getAttr (.ref x) name O) Q E s:=by
 obtain⟨od,J,hl⟩:=I.look;exact PySem.W.get_value X J (PySem.W.plainGet_of V).1 (PySem.W.findObj_own W ha rF$ by rw[hl,hv]) S h
theorem qY{pl:Sem Bool}{Q:Value×List Value->Shared->Prop}(X:K.In s.heap)(I:kE s.heap x dx C mA)(O:PySem.W.plainGet K C name=true)
  (S:PySem.W.findIn K (.ref C) name=some (some$ .ref f)) (V:PySem.W.isFn K (.ref f)=true) (W:mA name=none) (h:Q (.ref f,[.ref x]) s) :
  wpAny (model prog w) A (getMethod (.ref x) name pl) Q E s:=by
 obtain⟨od,J,hl⟩:=I.look;exact PySem.W.method_fn X J (PySem.W.plainGet_of O).1 (PySem.W.plainGet_of O).2 S (qBQ.mp V) (by show(PySem.W.lookIn name od).map (·.isSome)=some false;rw[hl,W];rfl) h
theorem su{ns:List Str}{Q:Unit->Shared->Prop}(X:K.In s.heap)(I:kE s.heap x dx C mA)
  (hs:PySem.W.findIn K (.ref C) "__setattr__"=some (some$ .builtin "object.__setattr__")) (hp:PySem.W.plainOver K C=true) (ht:PySem.W.takerIn K C name=some none) (hh:PySem.W.hasDictIn K C=true)
  (hw:PySem.Within mA ns) (hsz:ns.length<=sizeLine)
  (h:∀h',kE h' x dx C (λy=>if y=name then some v else mA y)->Heap.SameBut dx s.heap h'->Q () {s with heap:=h',toks:=s.toks+2}) :
  wpAny (model prog w) A (setAttr (.ref x) name v) Q E s:=by
 obtain⟨od,J,hl⟩:=I.look;refine PySem.W.set_plain X J hs$ PySem.W.osa_open (s:={s with toks:=s.toks+1}) (r:=none) X J hp ht λb=>?_;obtain⟨cd,hc,V⟩:=PySem.W.any_some hh;have hx:s.heap.get? x=some ⟨.ref C,some dx,.plain,#[]⟩:=I.obj;refine qAA$ qAE$ qAA$ qAA$ wpAny_loadPart hx$ qAA$ PySem.W.Looks.here (s:={s with toks:=s.toks+1}) (PySem.W.looks_clsIn X hc) ?_;rw[V];refine qAE (a:=some dx)$ qAA$ qAE$ qAA ?_;refine wpAny_nsSet1 (s:={s with toks:=s.toks+1}) I.ns λh' O S=>?_;obtain⟨oD,ae,af,W,aa,ad⟩:=O.count$ PySem.Within.cons name v hw;refine qAA$ wpAny_lookBehind W (by rw[aa];exact pastItsLine_dict$ qAW ad$ by rw[qAa];lia) ?_;exact qAE$ h _ ⟨(S.2 _$ qAh I.ne).trans I.obj,O,I.ne⟩ S
theorem pX{R:Result->Shared->Prop}{vs:List Value}{W:List (Str×Value)}(X:K.In s.heap)(hm:PySem.W.makesIn K C=true)
  (hi:PySem.W.findIn K (.ref C) "__init__"=some (some$ .ref f)) (O:PySem.W.typeIn K (.ref f)=some (.type "function"))
  (h:codeAny (model prog w) (A.under$ .builtin "type.__call__" ⟨.ref C::vs,W⟩) (.call (.ref f) ⟨.ref (s.heap.objs.size+1)::vs,W⟩) (PySem.W.InitBack (s.heap.objs.size+1) R)
   {s with heap:=(s.heap.push PySem.W.emptyDict).push (PySem.W.instObj C s.heap.objs.size)}) :
  codeAny (model prog w) A (.call (.ref C) ⟨vs,W⟩) R s:=by
 obtain⟨V,g,d,t,os⟩:=s;exact PySem.W.make_core (PySem.W.makes_of X hm) (PySem.W.looks_findIn X hi) (λS=>PySem.W.bind_fn X S O) (.inl rF) h
end
def dH(f:Str)(v:V):List (Str×V)->List (Str×V)
 |[]=>[(f,v)]
 |(g,x)::r=>if g=f then(g,v)::r else(g,x)::dH f v r
theorem zA6(f g:Str)(v:V):∀fs:List (Str×V),(dH f v fs).lookup g=if g=f then some v else fs.lookup g
 |[]=>by
  show List.lookup g [(f,v)]=_
  by_cases h:g=f
  .have O:(g==f)=true:=qBQ.mpr h;simp only[List.lookup,O,qAC h]
  .have O:(g==f)=false:=qBG.mpr h;simp only[List.lookup,O,qAB h]
 |(k,x)::r=>by
  have S:=zA6 f g v r;rw[show dH f v ((k,x)::r)=(if k=f then(k,v)::r else(k,x)::dH f v r)from rfl]
  by_cases hk:k=f
  .rw [qAC hk]
   by_cases h:g=k
   .have O:(g==k)=true:=qBQ.mpr h;simp only[List.lookup,O,qAC (h.trans hk)]
   .have O:(g==k)=false:=qBG.mpr h;simp only[List.lookup,O,qAB (λe:g=f=>h$ e.trans hk.symm)]
  .rw [qAB hk]
   by_cases h:g=k
   .have O:(g==k)=true:=qBQ.mpr h;simp only[List.lookup,O,qAB (λe:g=f=>hk$ h.symm.trans e)]
   .have O:(g==k)=false:=qBG.mpr h;simp only[List.lookup,O];exact S
theorem zH1(f:Str)(v:V):∀fs:List (Str×V),f∈(dH f v fs).map (·.1)/\∀g,g∈fs.map (·.1)->g∈(dH f v fs).map (·.1)
 |[]=>⟨by simp[dH],λg h=>by simp at h⟩
 |(k,x)::r=>by
  obtain⟨O,S⟩:=zH1 f v r;rw[show dH f v ((k,x)::r)=(if k=f then(k,v)::r else(k,x)::dH f v r)from rfl]
  by_cases hk:k=f
  .rw [qAC hk];subst hk;exact⟨ss,λg h=>by simpa using h⟩
  .rw [qAB hk];refine⟨?_,λg h=>?_⟩
   .rw [qAt];exact qAX _ O
   .rw [qAt]at h ⊢;rcases qAT.mp h with e|e
    .exact qAT.mpr$ .inl e
    .exact qAX _$ S g e
theorem zHy(f:Str)(v:V):∀fs:List (Str×V),(dH f v fs).length<=fs.length+1
 |[]=>by simp[dH]
 |(k,x)::r=>by
  have O:=zHy f v r;rw[show dH f v ((k,x)::r)=(if k=f then(k,v)::r else(k,x)::dH f v r)from rfl]
  by_cases hk:k=f
  .rw [qAC hk,qAa,qAa];lia
  .rw [qAB hk,qAa,qAa];lia
theorem eP.some_of{v:V}{o:Option Value}(r:eP (some v) o):∃u,o=some u/\dy v u:=by
 cases o with
 |none=>exact(show False from r).elim
 |some u=>exact⟨u,rF,r⟩
theorem eP.none_of{o:Option Value}(r:eP none o):o=none:=by
 cases o with
 |none=>rfl
 |some u=>exact(show False from r).elim
theorem nW(r:dy v u):PySem.W.handedIn u=true:=by
 cases v with
 |non=>cases (show u=Value.none from r);rfl
 |bl b=>cases (show u=Value.bool b from r);rfl
 |int i=>obtain⟨t,e⟩:=(show∃t,u=Value.int i t from r);cases e;rfl
 |str x=>obtain⟨t,e⟩:=(show∃t,u=Value.str x t from r);cases e;rfl
 |byt b=>obtain⟨t,e⟩:=(show∃t,u=Value.bytes b t from r);cases e;rfl
 |flt b=>obtain⟨t,e⟩:=(show∃t,u=Value.float b t from r);cases e;rfl
 |ref a=>cases (show u=Value.ref a from r);rfl
 |ty n=>cases (show u=Value.type n from r);rfl
section
variable{P:Program}{w:World}{H H':Hp}{h h':Heap}{a C dx:Addr}{fs fs':List (Str×V)}
theorem zGl(O:HOk P w H h)(e:H a=some (.ins C dx fs)):∃mA,kE h a dx C mA/\(∀f,eP (fs.lookup f) (mA f))/\PySem.Within mA (fs.map (·.1))/\fs.length<=1000/\H dx=some (.own a):=by
 obtain⟨d,z,S,V,mA,n,r,q⟩:=(show zBq P w H h a (.ins C dx fs)from O a _ e);exact⟨mA,⟨V,n,S⟩,r,q,z,d⟩
end
structure Cls(K:PySem.W.Frag)(C:Addr):Prop where
 pg:PySem.W.plainGet K C Str.empty=true
 hd:PySem.W.hasDictIn K C=true
 po:PySem.W.plainOver K C=true
 sa:PySem.W.findIn K (.ref C) "__setattr__"=some (some$ .builtin "object.__setattr__")
theorem Cls.get(c:Cls K C)(f:Str):PySem.W.plainGet K C f=true:=c.pg
def zGc(K:PySem.W.Frag)(C:Addr)(f:Str):Prop:=PySem.W.findIn K (.ref C) f=some none
theorem zGc.taker{f:Str}(n:zGc K C f):PySem.W.takerIn K C f=some none:=by
 unfold PySem.W.takerIn;rw[show PySem.W.findIn K (.ref C) f=some none from n];rfl
structure tX(K:PySem.W.Frag)(C:Addr)(m:Str)(f:Addr):Prop where
 at_:PySem.W.findIn K (.ref C) m=some (some$ .ref f)
 fn:PySem.W.isFn K (.ref f)=true
 kp:PySem.W.keepIn K (.ref f)=true
section
variable{X:Cx}{pins:List (Addr×Obj)}{σ:St}{H:Hp}{s:Shared}{a C dx:Addr}{fs:List (Str×V)}{f:Str}{v:V}{A:Around}{E:Value->Shared->Prop}
theorem kP{b:Bool}{Q:Value->Shared->Prop}(I:Inv X pins σ H s)(e:H a=some (.ins C dx fs))(c:Cls X.K C)(n:zGc X.K C f)(l:fs.lookup f=some v)
  (h:∀u s',Inv X pins σ H s'->dy v u->Q u s'):wpAny (model X.prog X.w) A (getAttr (.ref a) f b) Q E s:=by
 obtain⟨mA,O,r,_,_,_⟩:=zGl I.hok e;obtain⟨u,V,S⟩:=eP.some_of (v:=v) (o:=mA f) (by rw[<-l];exact r f);exact tH I.kIn O (c.get f) c.hd n V (nW S)$ h u _ (I.tok _) S
theorem zI0{m:Str}{g:Addr}{pl:Sem Bool}{Q:Value×List Value->Shared->Prop}(I:Inv X pins σ H s)(e:H a=some (.ins C dx fs))(c:Cls X.K C)(k:tX X.K C m g)(l:fs.lookup m=none)
  (h:Q (.ref g,[.ref a]) s):wpAny (model X.prog X.w) A (getMethod (.ref a) m pl) Q E s:=by
 obtain⟨mA,O,r,_,_,_⟩:=zGl I.hok e;have S:mA m=none:=eP.none_of (by rw[<-l];exact r m);exact qY I.kIn O (c.get m) k.at_ k.fn S h
theorem kH{Q:Unit->Shared->Prop}(I:Inv X pins σ H s)(e:H a=some (.ins C dx fs))(c:Cls X.K C)(n:zGc X.K C f)(hl:fs.length<1000)(V:dy y u)
  (h:∀s',Inv X pins σ (upd H a$ .ins C dx$ dH f y fs) s'->Q () s'):wpAny (model X.prog X.w) A (setAttr (.ref a) f u) Q E s:=by
 obtain⟨mA,O,r,wi,_,ho⟩:=zGl I.hok e;have W:(fs.map (·.1)).length<=sizeLine:=by rw[qAD,qAK];lia
 refine su I.kIn O c.sa c.po n.taker c.hd wi W λh' S sb=>h _ ?_;have hd:∃o,h'.get? dx=some o:=let⟨o,_,_,e',_⟩:=S.ns;⟨o,e'⟩;refine I.write (x:=a) (e:=dx) (by rw[e];exact True.intro) (.inr ho) (λb q hb z=>(sb.2 b hb).trans z) hd ?_;refine⟨by rw[a_ O.ne];exact ho,?_,O.ne,S.obj,_,S.ns,λg=>?_,λg hg=>?_⟩
 .have:=zHy f y fs;lia
 .show eP ((dH f y fs).lookup g) (if g=f then some u else mA g);rw[zA6]
  by_cases q:g=f
  .rw [qAC q,qAC q];exact V
  .rw [qAB q,qAB q];exact r g
 .by_cases q:g=f
  .rw [q];exact(zH1 f y fs).1
  .refine (zH1 f y fs).2 g$ wi g λz=>hg ?_;show(if g=f then some u else mA g)=none;rw[qAB q];exact z
theorem Inv.made(I:Inv X pins σ H s):Inv X pins σ (upd (upd H s.heap.objs.size$ .own$ s.heap.objs.size+1) (s.heap.objs.size+1)$ .ins C s.heap.objs.size [])
  {s with heap:=(s.heap.push PySem.W.emptyDict).push (PySem.W.instObj C s.heap.objs.size)}:=by
 have O:(s.heap.push PySem.W.emptyDict).get? s.heap.objs.size=some PySem.W.emptyDict:=qAk s.heap rF
 have V:((s.heap.push PySem.W.emptyDict).push$ PySem.W.instObj C s.heap.objs.size).get? (s.heap.objs.size+1)=some (PySem.W.instObj C s.heap.objs.size):=by
  have:=qAk (s.heap.push PySem.W.emptyDict) (o:=PySem.W.instObj C s.heap.objs.size) rF
  rwa [qBR]at this
 have W:(s.heap.push PySem.W.emptyDict).Ns s.heap.objs.size (λ_=>none):=⟨PySem.W.emptyDict,#[],_,O,rF,(λe he=>absurd he ss),λ_=>rfl⟩;have I1:=I.laid (a:=s.heap.objs.size) (o:=.own$ s.heap.objs.size+1) (h':=s.heap.push PySem.W.emptyDict) (t':=s.toks) (λb u q=>qAM _ q) (qAG _) ⟨_,O⟩;refine I1.laid (a:=s.heap.objs.size+1) (o:=.ins C s.heap.objs.size []) (t':=s.toks) (λb u q=>qAM _ q) (qCU$ qBR _ _) ?_;have S:s.heap.objs.size≠s.heap.objs.size+1:=qAQ$ qCV _;refine⟨by rw[a_ S,ac],qAi _,S,V,λ_=>none,(Heap.Ns1.of_empty W).at λo q=>qAM _ q,λ_=>True.intro,λy hy=>absurd rF hy⟩
theorem sN{prog:Program}{env:Env}{f:Str}{Q:Value->Shared->Prop}(O:attributeBase e f env (eval e env)=eval e env)
  (h:wpAny (model prog w) A (eval e env) (λo S=>wpAny (model prog w) A (getAttr o f true) Q E S) E s):wpAny (model prog w) A (eval (.Attribute e f pos) env) Q E s :=
 Attribute_any_ h (by rw[arm_eval_Attribute,O])
end
inductive uJ(K:PySem.W.Frag)(f:Str)(Q:VK)(x:V)(H1:Hp):Prop
 |mk:∀a C dx fs v,x= .ref a->H1 a=some (.ins C dx fs)->Cls K C->zGc K C f->fs.lookup f=some v->Q v H1->uJ K f Q x H1
def ya(K:PySem.W.Frag)(ta:TE)(f:Str):TE:=λσ H Q=>ta σ H λx H1=>uJ K f Q x H1
inductive uq(K:PySem.W.Frag)(f:Str)(D:eI)(σ:St)(y:V)(x:V)(H2:Hp):Prop
 |mk:∀a C dx fs,x= .ref a->H2 a=some (.ins C dx fs)->Cls K C->zGc K C f->fs.length<1000->D.nx σ (upd H2 a$ .ins C dx$ dH f y fs)->uq K f D σ y x H2
def x9(K:PySem.W.Frag)(ta tv:TE)(f:Str):TS:=λD σ H=>tv σ H λy H1=>ta σ H1 λx H2=>uq K f D σ y x H2
section
variable{X:Cx}{o e value:Expr}{f:Str}{pos pos' tpos:Pos}{ta tv:TE}
theorem zHo(O:PE X e ta)(S:attributeBase e f X.env (eval e X.env)=eval e X.env):PE X (.Attribute e f pos) (ya X.K ta f):=by
 intro pins s σ H Q I h;refine sN S$ thn (O pins s σ H _ I h) λu s1 ⟨x,H1,V,W,a,C,dx,fs,v,ex,ea,c,n,l,q⟩=>?_;subst ex;obtain rfl:u=Value.ref a:=W;exact kP V ea c n l λu' s2 I2 ru=>⟨v,H1,I2,ru,q⟩
theorem kC(O:PE X o ta)(V:PE X value tv)(hs:swapsWith value (some$ .Attribute o f pos') pos.line X.env=pure false):PS X (.Assign [.Attribute o f pos'] value pos) (x9 X.K ta tv f):=by
 intro pins s σ H D I h;refine plainObj_wpAny_Assign_Attribute (thn (V pins s σ H _ I h) λu S ⟨y,H1,W,ry,q⟩=>thn (O pins S σ H1 _ W q) λov s2 ⟨x,H2,I2,rx,a,C,dx,fs,ex,ea,c,n,l,q2⟩=>?_) hs;subst ex;obtain rfl:ov=Value.ref a:=rx;exact kH I2 ea c n l ry λs3 I3=>⟨σ,_,I3,q2⟩
end
section
variable{X:Cx}{pins:List (Addr×Obj)}{σ:St}{H:Hp}{s:Shared}{A:Around}{E:Value->Shared->Prop}{Q:Value->Shared->Prop}{c:Value}{b:Bool}
inductive dz(K:PySem.W.Frag)(H:Hp):V->Value->Prop where
 |non:dz K H .non (.type "NoneType")
 |bl (x:Bool):dz K H (.bl x) (.type "bool")
 |int (i:Int):dz K H (.int i) (.type "int")
 |str (x:Str):dz K H (.str x) (.type "str")
 |flt (x:UInt64):dz K H (.flt x) (.type "float")
 |lst {a:Addr} {xs:List V} (e:H a=some (.lst xs)):dz K H (.ref a) (.type "list")
 |frz {a:Addr} {o:Obj} {xs:List V} (e:H a=some (.frz o$ .lst xs)):dz K H (.ref a) (.type "list")
 |tup {a:Addr} {xs:List V} (e:H a=some (.tup xs)):dz K H (.ref a) (.type "tuple")
 |dK {a:Addr} {kvs:List (Key×V)} (e:H a=some (.dK kvs)):dz K H (.ref a) (.type "dict")
 |dT {a:Addr} {kvs:List (List Key×V)} (e:H a=some (.dT kvs)):dz K H (.ref a) (.type "dict")
 |ins {a C dx:Addr} {fs:List (Str×V)} (e:H a=some (.ins C dx fs)) (cl:Cls K C) (ha:PySem.W.findIn K (.ref C) "__class__"=some (some$ .builtin "object.__class__"))
   (hn:PySem.W.specialIn K (.builtin "object.__class__") "__get__"=some (some$ .builtin "getset_descriptor.__get__")) (htk:PySem.W.takesIn K (.builtin "object.__class__")=some true)
   (hm:PySem.W.mroIn K C (.type "object")=some true):dz K H (.ref a) (.ref C)
theorem oC{x:V}{t:Value}(I:Inv X pins σ H s)(S:dy x u)(ty:dz X.K H x t)(e:PySem.W.kitOne X.K t c=some b)(h:∀tk,Q (.bool b) {s with toks:=tk}) :
  wpAny (model X.prog X.w) A (call (.builtin "isinstance") [u,c]) Q E s:=by
 cases ty with
 |non=>cases (show u=Value.none from S);exact qA8 PySem.W.kitx_none I.kIn True.intro e (λz=>nomatch z) h
 |bl y=>cases (show u=Value.bool y from S);exact qA8 PySem.W.kitx_bool I.kIn True.intro e (λz=>nomatch z) h
 |int i=>obtain⟨t,q⟩:=(show∃t,u=Value.int i t from S);cases q;exact qA8 PySem.W.kitx_int I.kIn True.intro e (λz=>nomatch z) h
 |str y=>obtain⟨t,q⟩:=(show∃t,u=Value.str y t from S);cases q;exact qA8 PySem.W.kitx_str I.kIn True.intro e (λz=>nomatch z) h
 |flt y=>obtain⟨t,q⟩:=(show∃t,u=Value.float y t from S);cases q;exact qA8 PySem.W.kitx_float I.kIn True.intro e (λz=>nomatch z) h
 |@lst a xs W=>
  cases (show u=Value.ref a from S)
  obtain⟨_,_,n,_,h1⟩:=(show zBq X.prog X.w H s.heap a (.lst xs)from I.hok a _ W);exact qA8 PySem.W.kitx_list I.kIn ⟨_,h1,rF⟩ e (λz=>nomatch z) h
 |@frz a ob xs W=>
  cases (show u=Value.ref a from S)
  obtain⟨_,_,_,n,_,h1⟩:=(show zBq X.prog X.w H s.heap a (.frz ob$ .lst xs)from I.hok a _ W);exact qA8 PySem.W.kitx_list I.kIn ⟨_,h1,rF⟩ e (λz=>nomatch z) h
 |@tup a xs W=>
  cases (show u=Value.ref a from S)
  obtain⟨_,_,_,p⟩:=(show zBq X.prog X.w H s.heap a (.tup xs)from I.hok a _ W);obtain⟨o,h1,h2,_⟩:=p;exact qA8 PySem.W.kitx_tuple I.kIn ⟨o,h1,h2⟩ e (λz=>nomatch z) h
 |@dK a aa W=>
  cases (show u=Value.ref a from S)
  obtain⟨_,_,vs,_,p⟩:=(show zBq X.prog X.w H s.heap a (.dK aa)from I.hok a _ W);obtain⟨o,es,ep,h1,h2,_⟩:=p;exact qA8 PySem.W.kitx_dict I.kIn ⟨o,h1,h2.1⟩ e (λz=>nomatch z) h
 |@dT a aa W=>
  cases (show u=Value.ref a from S)
  obtain⟨_,_,xs,_,o,es,ep,h1,h2,_⟩:=(show zBq X.prog X.w H s.heap a (.dT aa)from I.hok a _ W);exact qA8 PySem.W.kitx_dict I.kIn ⟨o,h1,h2.1⟩ e (λz=>nomatch z) h
 |@ins a C dx fs W cl ha hn ad hm=>
  cases (show u=Value.ref a from S)
  obtain⟨mA,O,_⟩:=zGl I.hok W;obtain⟨od,J,_⟩:=O.look;exact qA8 (PySem.W.kitx_own (cl.get _) cl.hd ha hn ad hm) I.kIn J e (λz=>nomatch z) h
end
structure dF(k:Nat)(A:Around):Prop where
 hd:A.handled=none
 dp:A.depth+3*k+5<recursionLimit
 un:A.units+16*k+200<cLine
 gd:A.guards=some []
theorem dF.mono{j k:Nat}(r:dF k A)(h:j<=k):dF j A:=⟨r.hd,by have:=r.dp;lia,by have:=r.un;lia,r.gd⟩
theorem dF.deeper{k:Nat}(r:dF (k+1) A)(env:Env):dF k (A.deeper env) :=
 ⟨r.hd,by have:=r.dp;show A.depth+1+3*k+5<_;lia,by have:=r.un;show A.units+3+16*k+200<_;lia,r.gd⟩
theorem kq{W:List (Str×Value)}:(A.under$ .builtin "type.__call__" ⟨.ref C::us,W⟩).depth=A.depth+1:=by
 first|rfl|simp[Around.under,Code.weight,Code.isCreation,Code.isGuard,Code.isCaller,Code.frames,Code.isFrame,guardIds]
theorem lJ{W:List (Str×Value)}:(A.under$ .builtin "type.__call__" ⟨.ref C::us,W⟩).units=A.units+1:=by
 first|rfl|simp[Around.under,Code.cUnits,Code.frames,Code.isFrame]
theorem dF.make{k:Nat}(r:dF (k+1) A)(C:Addr)(us:List Value)(W:List (Str×Value)):dF k (A.under$ .builtin "type.__call__" ⟨.ref C::us,W⟩) :=
 ⟨r.hd,by have:=r.dp;rw[kq];lia,by have:=r.un;rw[lJ];lia,(by unfold Around.under;dsimp only;rw[r.gd];rfl)⟩
theorem dF.depth{k:Nat}(r:dF k A):A.depth<recursionLimit:=by have:=r.dp;lia
theorem dF.units{k:Nat}(r:dF k A):A.units+64<cLine:=by have:=r.un;lia
def gw:TA:=λ_ H Q=>Q [] H
def zIf(ta:TE)(O:TA):TA:=λσ H Q=>ta σ H λx H1=>O σ H1 λxs H2=>Q (x::xs) H2
section
variable{X:Cx}{e:Expr}{es:List Expr}{te:TE}{t:TA}{pos:Pos}
theorem zAb:PA X [] gw:=λ_ _ _ _ H Q I h=>Calls.spliced_nil ⟨[],H,I,.nil,h⟩
theorem zAa(O:PE X e te)(S:PA X es t)(hs:starEach (e::es) X.env=(false,eval e X.env)::starEach es X.env:=by rfl):PA X (e::es) (zIf te t):=by
 intro pos pins s σ H Q I h;rw[hs];show wpAny _ _ (spliced$ (false,eval e X.env)::backTo pos (starEach es X.env)) _ _ s;refine Calls.spliced_cons$ thn (O pins s σ H _ I h) λu V ⟨x,H1,W,r1,q1⟩=>?_;exact thn (S pos pins V σ H1 _ W q1) λus s2 ⟨xs,H2,I2,r2,q2⟩=>⟨x::xs,H2,I2,.cons r1 r2,q2⟩
def gx(t:TA):TE:=λσ H Q=>t σ H λxs H1=>xs.length<=sizeLine/\∀p,H1 p=none->Q (.ref p) (upd H1 p$ .tup xs)
def fH(t:TA):TE:=λσ H Q=>t σ H λxs H1=>xs.length<=sizeLine/\∀p,H1 p=none->Q (.ref p) (upd H1 p$ .lst xs)
theorem zCa{V}(h:PA X es t):PE X (.Tuple es V pos) (gx t):=by
 intro pins s σ H Q I W;refine wpAny_Tuple_spliced$ thn (h pos pins s σ H _ I W) λus S ⟨xs,H1,O,r,z,q⟩=>⟨by rw[<-r.length];exact z,?_⟩;have hf:H1 S.heap.objs.size=none:=O.hok.fresh$ qAG _;refine⟨.ref S.heap.objs.size,upd H1 S.heap.objs.size$ .tup xs,O.laid (t':=S.toks) (λb u e=>qAM _ e) (qAG _) ?_,rF,q _ hf⟩;exact⟨z,us,r,⟨_,qAk _ rF,rF,_,rF⟩⟩
theorem zAj(h:PA X es t):PE X (.List es pos) (fH t):=by
 intro pins s σ H Q I V;refine wpAny_List_spliced$ thn (h pos pins s σ H _ I V) λus S ⟨xs,H1,O,r,z,q⟩=>⟨by rw[<-r.length];exact z,?_⟩;have W:H1 S.heap.objs.size=none:=O.hok.fresh$ qAG _;refine⟨.ref S.heap.objs.size,upd H1 S.heap.objs.size$ .lst xs,O.laid (t':=S.toks) (λb u e=>qAM _ e) (qAG _) ?_,rF,q _ W⟩;exact⟨z,us,0,r,qAk _ rF⟩
end
abbrev Sp:=List V->Hp->VK->XK->Prop
abbrev CXT:=List Env->Hp->Shared->XK->Value->Shared->Prop
structure jK(P:Program)(w:World)(K:PySem.W.Frag)(mg:Str->Option Value)(base:Heap)(A:Around)(outer:List Env)(s:Shared)(H:Hp):Prop where
 frames:A.frames=some outer
 mod:Mod K mg base
 bs:∀b o,base.get? b=some o->s.heap.get? b=some o/\H b=none
 bsz:base.objs.size<=s.heap.objs.size
 funs:s.heap.FunFrames base outer
 frf:∀b∈frs outer,H b=none
 hok:HOk P w H s.heap
 bare:AllBare s.gens
def CE(outer:List Env)(P:Program)(w:World)(H:Hp)(s:Shared)(Q:VK)(u:Value)(s':Shared):Prop :=
 ∃v H',s'.os=s.os/\AllBare s'.gens/\Un (frs outer) [] H H' s.heap s'.heap/\HOk P w H' s'.heap/\dy v u/\Q v H'
def CR(CX:CXT)(outer:List Env)(P:Program)(w:World)(H:Hp)(s:Shared)(Q:VK)(E:XK)(r:Result)(s':Shared):Prop :=
 match r with
 | .ok (.ret u)=>CE outer P w H s Q u s'
 | .ok _=>False
 | .error e=>CX outer H s E e s'
structure dw(P:Program)(w:World)(K:PySem.W.Frag)(mg:Str->Option Value)(base:Heap)(CX:CXT)(k:Nat)(f:Addr)(fd:FuncData)(ps:List Str)(sp:Sp):Prop where
 len:∀vs H Q E,sp vs H Q E->vs.length=ps.length
 run:∀(A:Around)(outer:List Env)(s:Shared)(H:Hp)(args:Args)(us:List Value)(vs:List V)(Q:VK)(E:XK),dF k A->jK P w K mg base A outer s H->BindsTo s fd args (ps.zip us)->dv vs us->sp vs H Q E ->
  codeAny (model P w) A (.call (.ref f) args) (CR CX outer P w H s Q E) s
theorem jK.make{mg:Str->Option Value}{outer:List Env}(e:jK P w K mg base A outer s H)(C:Addr)(us:List Value)(W:List (Str×Value)) :
  jK P w K mg base (A.under$ .builtin "type.__call__" ⟨.ref C::us,W⟩) outer s H:=⟨by first|exact e.frames|(simpa[Around.under,Code.envs,Code.isFrame,pushEnvs]using e.frames),e.mod,e.bs,e.bsz,e.funs,e.frf,e.hok,e.bare⟩
section
variable{X:Cx}{pins:List (Addr×Obj)}{σ:St}{H:Hp}{s s':Shared}
theorem Inv.env0(I:Inv X pins σ H s):jK X.prog X.w X.K X.mg X.base X.A X.stack s H :=
 ⟨I.ok.frames,I.ok.mod,I.bs,qAW I.ok.bsz I.sz,I.stack,I.stkFree,I.hok,I.bare⟩
theorem Inv.after{Q:VK}(I:Inv X pins σ H s)(h:CE X.stack X.prog X.w H s Q u s'):EP X pins σ Q u s':=by
 obtain⟨v,H',os,O,un,S,r,q⟩:=h;obtain⟨W,g,d,t,V⟩:=s';obtain rfl:V=s.os:=os;exact⟨v,H',I.call (h':=W) (g':=g) (d':=d) (t':=t) (ch:=[]) un S O λb z=>absurd z ss,r,q⟩
end
def pI(sp:Sp)(dvs:List V)(E:XK)(t:TA):TE:=λσ H Q=>t σ H λvs H1=>sp (vs++dvs) H1 Q E
inductive pO(C:Addr)(m:Str)(sp:Sp)(dvs:List V)(E:XK)(t:TA)(σ:St)(Q:VK)(x:V)(H1:Hp):Prop
 |mk:∀a dx fs,x= .ref a->H1 a=some (.ins C dx fs)->fs.lookup m=none->(t σ H1 λvs H2=>sp (x::(vs++dvs)) H2 Q E)->pO C m sp dvs E t σ Q x H1
def mQ(C:Addr)(m:Str)(sp:Sp)(dvs:List V)(E:XK)(ta:TE)(t:TA):TE:=λσ H Q=>ta σ H λx H1=>pO C m sp dvs E t σ Q x H1
def uh(C:Addr)(sp:Sp)(dvs:List V)(E:XK)(t:TA):TE:=λσ H Q=>t σ H λvs H1=>∀x dx,H1 x=none->H1 dx=none->dx≠x ->
 sp (.ref x::(vs++dvs)) (upd (upd H1 dx$ .own x) x$ .ins C dx []) (λv H2=>v= .non/\Q (.ref x) H2) E
def zDe(K:PySem.W.Frag)(fd:FuncData)(ps:List Str)(ds:List Value):Prop :=
 ∀(s:Shared)(us:List Value),K.In s.heap->(us++ds).length=ps.length->BindsTo s fd ⟨us,[]⟩ (ps.zip$ us++ds)
theorem zDe.all{fd:FuncData}{ps:List Str}(h:∀us:List Value,us.length=ps.length->bindArgs fd ⟨us,[]⟩=pure (ps.zip us)):zDe K fd ps []:=λs us _ O=>by
 rw[qAm]at O ⊢;exact .of_eq$ h us O
def zIe(CX:CXT)(X:Cx)(E:XK):Prop:=∀(pins:List (Addr×Obj)) (σ:St) (H:Hp) (s:Shared) (e:Value) (s':Shared),Inv X pins σ H s->CX X.stack H s E e s'->X.xe e s'
section
variable{X:Cx}{CX:CXT}{k:Nat}{f C:Addr}{fd:FuncData}{ps:List Str}{sp:Sp}{dvs:List V}{ds:List Value}{E:XK}{x m:Str}{p pos apos:Pos}{e o:Expr}{es:List Expr}{ta:TE}{t:TA}
theorem kR{Q:VK}{us:List Value}{vs:List V}(F:dw X.prog X.w X.K X.mg X.base CX k f fd ps sp)(S:dF k X.A)(W:zDe X.K fd ps ds)(hd:dv dvs ds)(hx:zIe CX X E)
  (I:Inv X pins σ H s) (r:dv vs us) (h:sp (vs++dvs) H Q E):wpAny (model X.prog X.w) X.A (call (.ref f) us) (EP X pins σ Q) X.xe s:=by
 have r2:dv (vs++dvs) (us++ds):=r.append hd;have hl:(us++ds).length=ps.length:=by rw[<-r2.length];exact F.len _ _ _ _ h
 refine qCF$ qBf (F.run X.A X.stack s H ⟨us,[]⟩ (us++ds) (vs++dvs) Q E S I.env0 (W s us I.kIn hl) r2 h) λr s' O=>?_
 cases r with
 |error e=>exact hx pins σ H s e s' I O
 |ok fl=>
  cases fl with
  |ret u=>exact I.after O
  |next=>exact False.elim O
  |brk=>exact False.elim O
  |cont=>exact False.elim O
theorem tO(F:dw X.prog X.w X.K X.mg X.base CX k f fd ps sp)(W:dF k X.A)(hg:Gl X x)(hm:X.mg x=some (.ref f))(hk:PySem.W.keepIn X.K (.ref f)=true)(hb:zDe X.K fd ps ds)(hd:dv dvs ds)(hx:zIe CX X E)
  (ha:PA X (e::es) t) (O:(x==("__debug__": Str))=false:=by decide) (he:starEach (e::es) X.env=(false,eval e X.env)::starEach es X.env:=by rfl) (S:(backTo pos$ starEach es X.env).any (·.1)=false:=by rfl) :
  PE X (.Call (.Name x p) (e::es) [] pos) (pI sp dvs E t):=by
 intro pins s σ H Q I h;refine qCG$ zFj I hg hm ?_ O;refine qCW (h₀:=X.base) I.ok.mod.kin hk (thn (ha pos pins s σ H _ I h) λus s1 ⟨vs,H1,V,r,q⟩=>⟨V.kIn,?_⟩) he S;exact kR F W hb hd hx V r q
theorem sk{pl:Sem Bool}(he:PE X o ta)(c:Cls X.K C)(hm:tX X.K C m f)(F:dw X.prog X.w X.K X.mg X.base CX k f fd ps sp)(hr:dF k X.A)(hb:zDe X.K fd ps ds)(hd:dv dvs ds)(hx:zIe CX X E)(ha:PA X (e::es) t)
  (O:starEach (e::es) X.env=(false,eval e X.env)::starEach es X.env:=by rfl) (S:(backTo pos$ starEach es X.env).any (·.1)=false:=by rfl)
  (ht:eval (.Call (.Attribute o m apos) (e::es) [] pos) X.env=(do
   let ov<-eval o X.env
   standAt apos.atName
   let(f,first)<-holding [ov] (getMethod ov m pl)
   callWith pos f first (backTo pos$ starEach (e::es) X.env) (backToKw pos$ keywordEach [] X.env)):=by rfl) :
  PE X (.Call (.Attribute o m apos) (e::es) [] pos) (mQ C m sp dvs E ta t):=by
 intro pins s σ H Q I h;refine PySem.W.methodCall_KW (pl:=pl) (thn (he pins s σ H _ I h) λu s1 ⟨x,H1,V,rx,a,dx,fs,ex,ea,l,q⟩=>?_) ht;subst ex;obtain rfl:u=Value.ref a:=rx;refine zI0 V ea c hm l ?_;refine qCW (first:=[.ref a]) (h₀:=X.base) I.ok.mod.kin hm.kp (thn (ha pos pins s1 σ H1 _ V q) λus s2 ⟨vs,H2,W,r,q2⟩=>⟨W.kIn,?_⟩) O S;exact kR (us:=.ref a::us) (vs:=.ref a::vs) F hr hb hd hx W (.cons rF r) q2
theorem pG{pl:Sem Bool}(S:PE X o ta)(c:Cls X.K C)(hm:tX X.K C m f)(F:dw X.prog X.w X.K X.mg X.base CX k f fd ps sp)(V:dF k X.A)(W:zDe X.K fd ps ds)(hd:dv dvs ds)(hx:zIe CX X E)
  (ht:eval (.Call (.Attribute o m apos) [] [] pos) X.env=(do
   let ov<-eval o X.env
   standAt apos.atName
   let(f,first)<-holding [ov] (getMethod ov m pl)
   callWith pos f first (backTo pos$ starEach [] X.env) (backToKw pos$ keywordEach [] X.env)):=by rfl) :
  PE X (.Call (.Attribute o m apos) [] [] pos) (mQ C m sp dvs E ta gw):=by
 intro pins s σ H Q I h;refine PySem.W.methodCall_KW (pl:=pl) (thn (S pins s σ H _ I h) λu s1 ⟨x,H1,O,rx,a,dx,fs,ex,ea,l,q⟩=>?_) ht;subst ex;obtain rfl:u=Value.ref a:=rx;refine zI0 O ea c hm l ?_;exact PySem.W.callWith_K0 (first:=[.ref a]) O.kIn hm.kp$ kR (us:=[.ref a]) (vs:=[.ref a]) F V W hd hx O (.cons rF .nil) q
structure Mk(K:PySem.W.Frag)(C f:Addr):Prop where
 makes:PySem.W.makesIn K C=true
 init:PySem.W.findIn K (.ref C) "__init__"=some (some$ .ref f)
 fn:PySem.W.isFn K (.ref f)=true
 kp:PySem.W.keepIn K (.ref C)=true
theorem qi{Q:VK}{vs:List V}(M:Mk X.K C f)(F:dw X.prog X.w X.K X.mg X.base CX k f fd ps sp)(hr:dF (k+1) X.A)(hb:zDe X.K fd ps ds)(hd:dv dvs ds)
  (hx:zIe CX X E) (I:Inv X pins σ H s) (r:dv vs us)
  (h:∀x dx,H x=none->H dx=none->dx≠x->sp (.ref x::(vs++dvs)) (upd (upd H dx$ .own x) x$ .ins C dx []) (λv H2=>v= .non/\Q (.ref x) H2) E) :
  wpAny (model X.prog X.w) X.A (call (.ref C) us) (EP X pins σ Q) X.xe s:=by
 have W:=h (s.heap.objs.size+1) s.heap.objs.size (I.hok.fresh$ qB6 _) (I.hok.fresh$ qAG _)$ qAQ$ qCV _;have S:=Inv.made (C:=C) I;have r2:dv (V.ref (s.heap.objs.size+1)::(vs++dvs)) (Value.ref (s.heap.objs.size+1)::(us++ds)):=.cons rF$ r.append hd
 have hl:(Value.ref (s.heap.objs.size+1)::us++ds).length=ps.length:=by
  have e:=r2.length;rw[F.len _ _ _ _ W]at e;exact e.symm
 refine qCF$ pX (f:=f) I.kIn M.makes M.init (qBQ.mp M.fn)$ qBf (F.run _ X.stack _ _ ⟨Value.ref (s.heap.objs.size+1)::us,[]⟩ (Value.ref (s.heap.objs.size+1)::(us++ds)) _ _ E (hr.make C us []) (S.env0.make C us []) (hb _ (Value.ref (s.heap.objs.size+1)::us) S.kIn hl) r2 W) λr s' O=>?_
 cases r with
 |error e=>exact hx pins σ _ _ e s' S O
 |ok fl=>
  cases fl with
  |ret u=>
   obtain⟨v,H',I3,rv,ev,q3⟩:=S.after O;subst ev;exact⟨rv,⟨V.ref$ s.heap.objs.size+1,H',I3,rF,q3⟩⟩
  |next=>exact False.elim O
  |brk=>exact False.elim O
  |cont=>exact False.elim O
theorem tR(M:Mk X.K C f)(F:dw X.prog X.w X.K X.mg X.base CX k f fd ps sp)(W:dF (k+1) X.A)(hg:Gl X x)(hm:X.mg x=some (.ref C))(hb:zDe X.K fd ps ds)(hd:dv dvs ds)(hx:zIe CX X E)
  (ha:PA X (e::es) t) (O:(x==("__debug__": Str))=false:=by decide) (he:starEach (e::es) X.env=(false,eval e X.env)::starEach es X.env:=by rfl) (S:(backTo pos$ starEach es X.env).any (·.1)=false:=by rfl) :
  PE X (.Call (.Name x p) (e::es) [] pos) (uh C sp dvs E t):=by
 intro pins s σ H Q I h;refine qCG$ zFj I hg hm ?_ O;refine qCW (h₀:=X.base) I.ok.mod.kin M.kp (thn (ha pos pins s σ H _ I h) λus s1 ⟨vs,H1,V,r,q⟩=>⟨V.kIn,?_⟩) he S;exact qi M F W hb hd hx V r q
end
section
variable{X:Cx}{CX:CXT}{k:Nat}{f C:Addr}{fd:FuncData}{ps ks:List Str}{sp:Sp}{E:XK}{x m:Str}{p pos apos kpos:Pos}{e o:Expr}{es:List Expr}{kws:List Keyword}{te ta:TE}{t tk:TA}{nm:Option Str}
variable{g:List Value->List Value->List Value}{gV:List V->List V->List V}
end
structure dq(N P:List Str)(sc:Scope):Prop where
 kind:sc.kind= .function
 co:sc.isCoroutine=false
 gen:sc.isGenerator=false
 nd:N.Nodup
 pre:N.take P.length=P
 par:∀x∈P,sc.names.lookup x=some .local\/sc.names.lookup x=some .cell
 nofree:∀y∈sc.names,y.2≠.free
theorem gI{kindOf:Str->Option NameKind} :∀{binds:List (Str×Value)} {m:Str->Option Value},(∀v,(x,v)∉binds)->bindL kindOf binds m x=m x
 |[],_,_=>rfl
 |(n,v)::r,m,h=>by
  unfold bindL;rw[gI λw hw=>h w$ qAX _ hw];split
  .have:x≠n:=by rintro rfl;exact h v qAf
   simp[this]
  .rfl
theorem gT{kindOf:Str->Option NameKind} :∀{binds:List (Str×Value)} {m:Str->Option Value},(∀v,(x,v)∉binds)->bindC kindOf binds m x=m x
 |[],_,_=>rfl
 |(n,v)::r,m,h=>by
  unfold bindC;rw[gT λw hw=>h w$ qAX _ hw];split
  .rfl
  .have:x≠n:=by rintro rfl;exact h v qAf
   simp[this]
theorem g7{kindOf:Str->Option NameKind}{v:Value}:∀{P:List Str}{vs:List Value}{i:Nat}{m:Str->Option Value},P.Nodup->P[i]?=some x->vs[i]?=some v->kindOf x=some .local ->
  bindL kindOf (P.zip vs) m x=some v
 |[],_,_,_,_,h,_,_=>by simp at h
 |_::_,[],_,_,_,_,h,_=>by simp at h
 |p::P,w::vs,0,m,O,h1,h2,S=>by
  simp at h1 h2;subst h1;subst h2;show bindL kindOf ((p,w)::P.zip vs) m p=_;unfold bindL;rw[gI λv V=>(qBI.mp O).1 (qCn V).1,qAC S];simp
 |p::P,w::vs,i+1,m,O,h1,h2,S=>by
  show bindL kindOf ((p,w)::P.zip vs) m x=_;unfold bindL;exact g7 (i:=i) (qBI.mp O).2 (by simpa using h1) (by simpa using h2) S
theorem gP{kindOf:Str->Option NameKind}{v:Value}:∀{P:List Str}{vs:List Value}{i:Nat}{m:Str->Option Value},P.Nodup->P[i]?=some x->vs[i]?=some v->kindOf x≠some .local ->
  bindC kindOf (P.zip vs) m x=some v
 |[],_,_,_,_,h,_,_=>by simp at h
 |_::_,[],_,_,_,_,h,_=>by simp at h
 |p::P,w::vs,0,m,O,h1,h2,S=>by
  simp at h1 h2;subst h1;subst h2;show bindC kindOf ((p,w)::P.zip vs) m p=_;unfold bindC;rw[gT λv V=>(qBI.mp O).1 (qCn V).1,qAB S];simp
 |p::P,w::vs,i+1,m,O,h1,h2,S=>by
  show bindC kindOf ((p,w)::P.zip vs) m x=_;unfold bindC;exact gP (i:=i) (qBI.mp O).2 (by simpa using h1) (by simpa using h2) S
def start(N:List Str)(vs:List V):St:=vs.map some++List.replicate (N.length-vs.length) none
def dQ(CX:CXT)(P:Program)(w:World)(K:PySem.W.Frag)(mg:Str->Option Value)(base:Heap)(N:List Str)(qual:Str)(scope:Scope)(f:Addr)(cd:Value)(A:Around)(outer:List Env)(s:Shared)(H:Hp)(E:XK):Cx where
 prog:=P
 w:=w
 K:=K
 mg:=mg
 base:=base
 A:=A.deeper (envOfC qual scope s.heap.objs.size f cd)
 N:=N
 s₀:=s
 H₀:=H
 env:=envOfC qual scope s.heap.objs.size f cd
 outer:=outer
 stack:=envOfC qual scope s.heap.objs.size f cd::outer
 ex:=[]
 calm:=true
 fn:=λ_=>true
 pn:=[]
 xe:=λe s'=>wpAny (model P w) (A.deeper$ envOfC qual scope s.heap.objs.size f cd) (leaving (envOfC qual scope s.heap.objs.size f cd) e) (λ_ S=>CX outer H s E e S) (λO S=>CX outer H s E O S) s'
theorem jB{sc:Scope}{n:Nat}(h:sc.names.lookup x=some .cell):∃c,(cellsFrom n sc.names []).lookup x=some c:=by
 have q:=qCo sc.names n []$ .inl h;exact Option.isSome_iff_exists.mp q
theorem g6{CX:CXT}{mg:Str->Option Value}{N ps:List Str}{qual:Str}{scope:Scope}{f:Addr}{cd:Value}{A:Around}{outer:List Env}{s1:Shared}{E:XK}{vs:List V}
  (S:dq N ps scope) (hd:A.handled=none) (O:jK P w K mg base A outer s H) (hl:vs.length=ps.length) (r:dv vs us)
  (x:InCallC s s.heap.objs.size (bindL (envOfC qual scope s.heap.objs.size f cd).kindOf (ps.zip us) λ_=>none) (cellsFrom (s.heap.objs.size+1) scope.names []) (bindC (envOfC qual scope s.heap.objs.size f cd).kindOf (ps.zip us) λ_=>none) s1) :
  Inv (dQ CX P w K mg base N qual scope f cd A outer s H E) [] (start N vs) H s1:=by
 have ad:ps.length<=N.length:=by have:=qAl List.length S.pre;rw[qAU]at this;lia
 obtain⟨h1,tk,rfl,hk⟩:=x.done;have W:∀b:Addr,b∉(dQ CX P w K mg base N qual scope f cd A outer s H E).ex:=λb z=>absurd (show b∈([]:List Addr)from z) ss
 refine⟨⟨O.mod,S.kind,rF,rF,qAG _,λy z c h1 h2=>?_,λy hy=>?_,λy c _ h=>?_,λ_=>hd,Around.frames_deeper O.frames,.inr ⟨rF,rF⟩,λb z=>absurd z$ W b,O.bs,O.bsz,λb _ _=>W b,λb z=>absurd z$ W b,O.funs,O.frf⟩,rF,O.bare,Un.kept hk,⟨_,x.toInCall.ns,λi y v h1 h2 h3=>?_⟩,λy c h=>⟨_,x.cell y c h⟩,O.hok.fresh$ qAG _,λy c h=>?_,λp hp=>absurd (show p∈([]:List (Addr×Obj))from hp) ss,O.hok.kept hk,?_⟩
 .exact name_of_addr x.apart (qCH h1)$ qCH h2
 .have hy:scope.names.lookup y=some .cell\/scope.names.lookup y=some .free:=hy;rcases hy with hy|hy
  .exact jB hy
  .exact absurd rF$ S.nofree _$ qCH hy
 .exact qCR$ x.above y c$ qCH h
 .have hi:i<vs.length:=by
   unfold start at h2
   by_cases hi:i<vs.length
   .exact hi
   .rw [qBJ$ by simpa using hi]at h2;rw[List.getElem?_replicate]at h2;split at h2<;>cases h2
  have ha:vs[i]?=some v:=by
   unfold start at h2;rw[qA5 (by simpa using hi),qAY]at h2
   cases e:vs[i]? with
   |none=>rw[e]at h2;cases h2
   |some a=>rw[e]at h2;cases h2;rfl
  obtain⟨u,hu,rv⟩:=r.get ha
  have hp:ps[i]?=some y:=by
   rw[<-S.pre,qDD Ll];exact h1
  have aa:ps.Nodup:=by rw[<-S.pre];exact S.nd.sublist$ List.take_sublist _ _
  refine⟨u,rv,?_⟩;rcases S.par y (qAJ hp)with k|k
  .exact .inl ⟨k,g7 aa hp hu k⟩
  .obtain ⟨c,e⟩:=jB (n:=s.heap.objs.size+1) k;refine .inr ⟨.inl k,c,e,?_⟩;have q:=x.cell y c e;rw[gP aa hp hu$ by show scope.names.lookup y≠_;rw[k];decide]at q;exact q
 .exact O.hok.fresh$ qCR$ x.above y c$ qCH h
 .unfold start;show _=N.length;rw[qAN,qAD,List.length_replicate];lia
theorem ui{CX:CXT}{mg:Str->Option Value}{k:Nat}{f:Addr}{name qual:Str}{W:Arguments}{body:List Stmt}{scope:Scope}{dV kV af pm O ct oc:Value}{an od:Option Addr}
  {ah:Array (Option Value)} {N ps:List Str} {sp:Sp} (lk:K.lookup f=some ⟨oc,od,.func$ PySem.W.fnOf name qual W body scope dV kV af pm an O ct,ah⟩) (ai:PySem.W.codeIn K O qual=true) (S:dq N ps scope)
  (len:∀vs H Q E,sp vs H Q E->vs.length=ps.length)
  (ad:∀(A:Around) (outer:List Env) (s:Shared) (H:Hp) (vs:List V) (Q:VK) (E:XK),dF k (A.deeper$ envOfC qual scope s.heap.objs.size f O)->sp vs H Q E ->
   ∃t,PSs (dQ CX P w K mg base N qual scope f O A outer s H E) body t/\t {nx:=λ_ H'=>Q .non H',rt:=Q} (start N vs) H) :
  dw P w K mg base CX (k+1) f (PySem.W.fnOf name qual W body scope dV kV af pm an O ct) ps sp:=by
 refine⟨len,λA outer s H ak us vs Q E hr e0 hb r ag=>?_⟩;have hl:=len _ _ _ _ ag;have KX:K.In s.heap:=e0.mod.kin.keeps λb o e=>(e0.bs b o e).1;have aj:s.heap.NoLimit:=e0.mod.nolimit.keeps λb o e=>(e0.bs b o e).1
 have ae:∀y∈ps.zip us,scope.names.lookup y.1=some .local\/(scope.names.lookup y.1=some .cell/\((cellsFrom (s.heap.objs.size+1) scope.names []).lookup y.1).isSome=true):=λ⟨n,v⟩ hy=>by
  rcases S.par n (qCn hy).1 with q|q
  .exact .inl q
  .exact .inr ⟨q,qCo _ _ _$ .inl q⟩
 refine codeAny_call_function hr.depth (KX _ _ lk) rF S.co S.gen rF (PySem.W.codeRec_of KX ai)$ hb _ _ _ _ ?_;refine wpAny_newFunctionEnv_cells S.kind ae λenv he s1 x=>?_;subst he;refine⟨aj.keeps x.toInCall.keep,codeAny_func ?_⟩;obtain⟨t,ht,hq⟩:=ad A outer s H vs Q E (hr.deeper _) ag;have I:Inv (dQ CX P w K mg base N qual scope f O A outer s H E) [] (start N vs) H s1:=g6 S hr.hd e0 hl r x;refine qAv (ht [] s1 (start N vs) H _ I hq) (λfl s' hs=>?_) λe s' hs=>hs
 have fin:∀{aa:St}{H':Hp}{v:V}{u:Value},Inv (dQ CX P w K mg base N qual scope f O A outer s H E) [] aa H' s'->dy v u->Q v H'->CE outer P w H s Q u s' :=
  λ{aa H' v u} J rv q=>⟨v,H',J.os,J.bare,J.base,J.hok,rv,q⟩
 cases fl with
 |ret u=>
  obtain⟨v,aa,H',J,rv,q⟩:=hs;exact fin J rv q
 |next=>
  obtain⟨aa,H',J,q⟩:=hs;exact fin (v:=V.non) (u:=Value.none) J rF q
 |brk=>
  obtain⟨_,_,_,q⟩:=hs;exact False.elim q
 |cont=>
  obtain⟨_,_,_,q⟩:=hs;exact False.elim q
section
variable{X:Cx}{x:Str}{p pos:Pos}{e:Expr}{es:List Expr}{t:TA}{id T:String}{r:List V->Hp->VK->Prop}
def tCB(r:List V->Hp->VK->Prop)(t:TA):TE:=λσ H Q=>t σ H λvs H1=>r vs H1 Q
theorem zAi(hc:zCz X (.builtin id) r)(V:Gl X x)(hm:X.mg x=none)(W:bootBuiltins x=some (.builtin id))(ha:PA X (e::es) t)(hn:x≠ "__name__":= by decide)(O:(x==("__debug__": Str))=false:=by decide)
  (he:starEach (e::es) X.env=(false,eval e X.env)::starEach es X.env:=by rfl) (S:(backTo pos$ starEach es X.env).any (·.1)=false:=by rfl):PE X (.Call (.Name x p) (e::es) [] pos) (tCB r t):=by
 intro pins s σ H Q I h;refine qCG$ zHz I V hm W ?_ hn O;exact PyProof.Rows.callWith_builtin1 (thn (ha pos pins s σ H _ I h) λus s1 ⟨vs,H1,I1,r1,q1⟩=>hc pins s1 σ H1 vs us Q I1 r1 q1) he S
theorem zA8(hc:zCz X (.type T) r)(V:Gl X x)(hm:X.mg x=none)(W:bootBuiltins x=some (.type T))(ha:PA X (e::es) t)(hn:x≠ "__name__":= by decide)(O:(x==("__debug__": Str))=false:=by decide)
  (he:starEach (e::es) X.env=(false,eval e X.env)::starEach es X.env:=by rfl) (S:(backTo pos$ starEach es X.env).any (·.1)=false:=by rfl):PE X (.Call (.Name x p) (e::es) [] pos) (tCB r t):=by
 intro pins s σ H Q I h;refine qCG$ zHz I V hm W ?_ hn O;exact qCT (thn (ha pos pins s σ H _ I h) λus s1 ⟨vs,H1,I1,r1,q1⟩=>hc pins s1 σ H1 vs us Q I1 r1 q1) he S
end
end L2
namespace HT
open PySem PyProof.Rows
section
open PySem.SeqAt
open PySem.AutoSeq1 (wpAny_loadPart')
open PySem.MeetsSeq PySem.MeetsSeq2 PySem.MeetsSeq3
end
section
variable{prog:Program}{w:World}{A:Around}{E:Value->Shared->Prop}{s:Shared}
def sIx(n d:Nat):Option Int->Nat
 |none=>d
 |some v=>if v<0 then(v+(n:Int)).toNat else min v.toNat n
theorem sIx_none(n d:Nat):sIx n d none=d:=rfl
theorem sIx_nat(n d k:Nat):sIx n d (some (k:Int))=min k n:=by
 show(if(k:Int)<0 then((k:Int)+(n:Int)).toNat else min (k:Int).toNat n)=min k n;rw[qAB Ll,qCp]
end
end HT
namespace L2
open PySem PySem.Spec PyProof.Rows
variable{α:Type}{n:Nat}{x:V}
abbrev TO:=St->Hp->(Option Int->Hp->Prop)->Prop
def PO(X:Cx)(e:Option Expr)(t:TO):Prop :=
 ∀(pins:List (Addr×Obj)) (s:Shared) (σ:St) (H:Hp) (Q:Option Int->Hp->Prop),Inv X pins σ H s->t σ H Q ->
  wpAny (model X.prog X.w) X.A (evalPart e X.env) (λu s'=>∃o H',Inv X pins σ H' s'/\IsPart u o/\Q o H') X.xe s
def zHf:TO:=λ_ H Q=>Q none H
inductive pp(Q:Option Int->Hp->Prop)(x:V)(H1:Hp):Prop
 |mk:∀i,x= .int i->Q (some i) H1->pp Q x H1
def jo(t:TE):TO:=λσ H Q=>t σ H λx H1=>pp Q x H1
section
variable{X:Cx}{e:Expr}{te:TE}{lo hi:Option Expr}{tl th:TO}{pos p2:Pos}
theorem zCr:PO X none zHf:=by
 intro pins s σ H Q I h;rw[evalPart_none];exact qAE ⟨none,H,I,.none,h⟩
theorem zCd(h:PE X e te):PO X (some e) (jo te):=by
 intro pins s σ H Q I hw;rw[evalPart_some];refine thn (h pins s σ H _ I hw) λu V ⟨x,H1,O,r1,S⟩=>?_;obtain⟨i,rfl,q⟩:=S;obtain⟨t,rfl⟩:=r1;exact⟨some i,H1,O,.int i t,q⟩
def SlR(X:Cx)(r:V->Option Int->Option Int->Hp->VK->Prop):Prop :=
 ∀(pins:List (Addr×Obj)) (s:Shared) (σ:St) (H:Hp) (x:V) (v O S:Value) (lo hi:Option Int) (sl:Addr) (Q:VK),Inv X pins σ H s->dy x v->s.heap.IsSliceOf sl O S .none->IsPart O lo->IsPart S hi->r x lo hi H Q ->
  ∃T id,typeLookup (.type T) "__getitem__"=pure (some$ .builtin id)/\s.TypeIs v T/\wpAny (model X.prog X.w) X.A (getItem v$ .ref sl) (EP X pins σ Q) X.xe s
def tSl(r:V->Option Int->Option Int->Hp->VK->Prop)(te:TE)(tl th:TO):TE:=λσ H Q=>te σ H λx H1=>tl σ H1 λl H2=>th σ H2 λu O=>r x l u O Q
theorem zB1{r:V->Option Int->Option Int->Hp->VK->Prop}(hr:SlR X r)(he:PE X e te)(hl:PO X lo tl)(hu:PO X hi th):PE X (.Subscript e (.Slice lo hi none p2) pos) (tSl r te tl th):=by
 intro pins s σ H Q I h;refine Subscript_$ thn (he pins s σ H _ I h) λv s1 ⟨x,H1,I1,r1,q1⟩=>?_;refine wpAny_Slice$ thn (hl pins s1 σ H1 _ I1 q1) λO s2 ⟨l,H2,I2,pl,q2⟩=>thn (hu pins s2 σ H2 _ I2 q2) λS s3 ⟨u,W,I3,pu,q3⟩=>?_;rw[evalPart_none];refine qAE ?_;have I4:Inv X pins σ W {s3 with heap:=s3.heap.push {cls:=.type "slice",data:=.fields #[O,S,.none]}}:=I3.kept (t':=s3.toks) λb ob q=>qAM _ q;obtain⟨T,id,hT,ht,hg⟩:=hr pins {s3 with heap:=s3.heap.push {cls:=.type "slice",data:=.fields #[O,S,.none]}} σ W x v O S l u s3.heap.objs.size Q I4 r1 (Heap.IsSliceOf.new ..) pl pu q3;show wpAny (model X.prog X.w) X.A (subscriptTail e (.Slice lo hi none p2) v$ .ref s3.heap.objs.size) (EP X pins σ Q) X.xe {s3 with heap:=s3.heap.push {cls:=.type "slice",data:=.fields #[O,S,.none]}};exact tail_any (ops:=[.ref s3.heap.objs.size,v]) ht hT hg (by with_unfolding_all rfl)
def fI(xs:List V)(lo hi:Option Int):List V:=(xs.drop$ HT.sIx xs.length 0 lo).take$ HT.sIx xs.length xs.length hi-HT.sIx xs.length 0 lo
theorem zIa(xs:List V)(lo hi:Option Int):(fI xs lo hi).length<=xs.length:=by
 unfold fI;rw[qAU,qAz];lia
end
def ixN(n:Nat)(i:Int):Option Nat:=if 0<=i then(if i<n then some i.toNat else none)else if -(n:Int)<=i then some (i+n).toNat else none
def atI(xs:List α)(i:Int):Option α:=(ixN xs.length i).bind λj=>xs[j]?
theorem mI{i:Int}{j:Nat}(h:ixN n i=some j):seqIndex? i n=some j/\j<n/\-(n:Int)<=i/\i<n:=by
 unfold ixN at h
 by_cases h0:0<=i
 .rw [qAC h0]at h
  by_cases h1:i<n
  .rw [qAC h1]at h;have e:i.toNat=j:=qAb h;exact⟨by rw[seqIndex_of h0 h1,e],Ll,Ll,h1⟩
  .rw [qAB h1]at h;cases h
 .rw [qAB h0]at h
  by_cases h1:-(n:Int)<=i
  .rw [qAC h1]at h;have e:(i+n).toNat=j:=qAb h;exact⟨by rw[seqIndex_neg Ll h1,e],Ll,h1,Ll⟩
  .rw [qAB h1]at h;cases h
theorem ij{xs:List α}{i:Int}{v:α}(h:atI xs i=some v):∃j,seqIndex? i xs.length=some j/\xs[j]?=some v/\j<xs.length/\-(xs.length:Int)<=i/\i<xs.length:=by
 unfold atI at h
 cases e:ixN xs.length i with
 |none=>rw[e]at h;cases h
 |some j=>
  rw[e]at h;obtain⟨h1,h2,h3,h4⟩:=mI e;exact⟨j,h1,h,h2,h3,h4⟩
def mL(b:Expr):Prop:=∀o i,subscripted b false o i=operate [o,i] (getItem o i)
def IxR(X:Cx)(r:R2):Prop :=
 ∀(value S:Expr) (pins:List (Addr×Obj)) (s:Shared) (σ:St) (H:Hp) (x y:V) (v u:Value) (Q:VK),Inv X pins σ H s->dy x v->dy y u->r x y H Q ->
  subscripted S false v u=operate [v,u] (getItem v u)->wpAny (model X.prog X.w) X.A (subscriptTail value S v u) (EP X pins σ Q) X.xe s
def MtR(X:Cx)(id:String)(r:V->List V->Hp->VK->Prop):Prop :=
 ∀(pins:List (Addr×Obj)) (s:Shared) (σ:St) (H:Hp) (x:V) (xs:List V) (v:Value) (us:List Value) (Q:VK),Inv X pins σ H s->dy x v->dv xs us->r x xs H Q ->
  wpAny (model X.prog X.w) X.A (call (.builtin id)$ v::us) (EP X pins σ Q) X.xe s
section
variable{X:Cx}{a b:Expr}{ta tb:TE}{pos:Pos}
theorem zBd{r:R2}(O:IxR X r)(S:PE X a ta)(V:PE X b tb)(hs:mL b):PE X (.Subscript a b pos) (tOp r ta tb):=by
 intro pins s σ H Q I h;exact Subscript_$ vZ S V I h λv u s2 x y H2 W rx ry q=>O a b pins s2 σ H2 x y v u Q W rx ry q$ hs _ _
inductive t9(K:PySem.W.Frag)(x:V)(y:V)(H:Hp)(Q:VK):Prop
 |mk:∀p xs i v,x= .ref p->y= .int i->SqL K H p xs->atI xs i=some v->Q v H->t9 K x y H Q
inductive wI(K:PySem.W.Frag)(x:V)(y:V)(H:Hp)(Q:VK):Prop
 |mk:∀p xs i v,x= .ref p->y= .int i->SqT K H p xs->atI xs i=some v->Q v H->wI K x y H Q
inductive w_(x:V)(y:V)(H:Hp)(Q:VK):Prop
 |mk:∀z i c,x= .str z->y= .int i->z.length<=sizeLine->atI z.cps.toList i=some c->Q (.str ⟨#[c]⟩) H->w_ x y H Q
theorem zA0:IxR X (t9 X.K):=by
 intro value S pins s σ H x y v u Q I rx ry h hs;obtain⟨p,xs,i,z,rfl,rfl,hq,he,q⟩:=h
 cases rx
 obtain⟨t,rfl⟩:=ry;obtain⟨its,r,pl,hz⟩:=I.list hq;obtain⟨j,h1,h2,h3,h4,h5⟩:=ij he;obtain⟨w,W,O⟩:=r.get h2;have hl:=r.length;have hn:=zHx;have fin:EP X pins σ Q w s:=⟨z,H,I,O,q⟩
 by_cases h0:0<=i
 .have V:i.toNat=j:=by
   rw[seqIndex_of h0 h5]at h1;exact qAb h1
  exact item_listR pl.isList h0 Ll (by rw[V];simpa using W) fin hs
 .have V:(i+(its.toArray.size:Int)).toNat=j:=by
   rw[seqIndex_neg Ll h4]at h1;rw[qAS,<-hl];exact qAb h1
  exact subscriptTail_builtinR (x:=w) pl.isList.typeIs slot_list_getitem.lookup
   (wpAny_getItem_list_neg (Q:=λr s'=>r=w/\EP X pins σ Q r s') pl.isList Ll (by rw[qAS]<;>lia) Ll (by rw[V];simpa using W) ⟨rF,fin⟩) hs
theorem zDb:IxR X (wI X.K):=by
 intro value S pins s σ H x y v u Q I V W h hs;obtain⟨p,xs,i,z,rfl,rfl,hq,he,q⟩:=h
 cases V
 obtain⟨t,rfl⟩:=W;obtain⟨its,r,pl,hz⟩:=I.tuple hq;obtain⟨j,h1,h2,h3,h4,h5⟩:=ij he;obtain⟨w,ew,O⟩:=r.get h2;have hl:=r.length;have hn:=zHx;have fin:EP X pins σ Q w s:=⟨z,H,I,O,q⟩
 exact subscriptTail_builtinR (x:=w) pl.typeIs slot_tuple_getitem.lookup
  (getItem_tuple (j:=j) (Q:=λr s'=>r=w/\EP X pins σ Q r s') pl Ll Ll (by rw[qAS,<-hl];exact h1) (by simpa using ew) ⟨rF,fin⟩) hs
theorem wb:IxR X w_:=by
 intro value S pins s σ H x y v u Q I O V h hs;obtain⟨z,i,c,rfl,rfl,hz,W,q⟩:=h;obtain⟨t,rfl⟩:=O;obtain⟨t',rfl⟩:=V;obtain⟨j,h1,h2,h3,h4,h5⟩:=ij W;have hl:z.cps.toList.length=z.length:=by simp[Str.length]
 rw[hl]at h1 h4 h5;have hn:=zHx
 exact tail_any (qBp s z t) slot_str_getitem.lookup (getItem_str (c:=c) (by
  have e1:decide (i< -(2^63:Int))=false:=qAZ Ll;have e2:decide (i>=2^63)=false:=qAZ Ll;rw[e1,e2,Bool.or_false]) (by rw[h1];simpa using h2) ⟨.str ⟨#[c]⟩,H,I.tok _,⟨_,rF⟩,q⟩) hs
theorem kZ(its:List Value)(n j:Nat)(u:Value):Obj.mapSeq (·.setIfInBounds j u) {cls:=.type "list",data:=.seq its.toArray n}={cls:=.type "list",data:=.seq (its.set j u).toArray n}:=by
 simp[Obj.mapSeq]
theorem Inv.lst{pins:List (Addr×Obj)}{σ:St}{H:Hp}{s:Shared}{p:Addr}{xs:List V}(I:Inv X pins σ H s)(h:H p=some (.lst xs)) :
  ∃(its:List Value)(n:Nat),dv xs its/\s.heap.get? p=some {cls:=.type "list",data:=.seq its.toArray n}/\xs.length<=sizeLine:=by
 obtain⟨z,its,n,r,e⟩:=I.hok p _ h;exact⟨its,n,r,e,z⟩
theorem Inv.lstUpd{pins:List (Addr×Obj)}{σ:St}{H:Hp}{s:Shared}{p:Addr}{xs ys:List V}{its its':List Value}{O:Nat}{f:Obj->Obj}(I:Inv X pins σ H s)(h:H p=some (.lst xs))
  (ho:s.heap.get? p=some {cls:=.type "list",data:=.seq its.toArray n}) (S:f {cls:=.type "list",data:=.seq its.toArray n}={cls:=.type "list",data:=.seq its'.toArray O}) (r:dv ys its') (W:ys.length<=sizeLine) (t:Nat) :
  Inv X pins σ (upd H p$ .lst ys) {s with heap:=s.heap.update p f,toks:=t}:=by
 have e:(s.heap.update p f).get? p=some {cls:=.type "list",data:=.seq its'.toArray O}:=by
  rw[qA9 f ho (by rw[S]<;>rfl),S]
 refine I.write (x:=p) (e:=p) (by rw[h];trivial) (.inl rF) (λb u hb q=>(qBq _ _$ qAh hb).trans q) ⟨_,e⟩ ?_;exact⟨W,its',O,r,e⟩
inductive uG(o:V)(i:V)(v:V)(H:Hp)(Q:Hp->Prop):Prop
 |mk:∀p xs k j,o= .ref p->i= .int k->H p=some (.lst xs)->ixN xs.length k=some j->Q (upd H p$ .lst$ xs.set j v)->uG o i v H Q
theorem zI9:wX X uG:=by
 intro pins s σ H o i v ov iv u Q I ro ri rv h;obtain⟨p,xs,k,j,rfl,rfl,V,hj,q⟩:=h
 cases ro
 obtain⟨t,rfl⟩:=ri;obtain⟨its,n,r,ho,hz⟩:=I.lst V;obtain⟨h1,h2,h3,h4⟩:=mI hj;have O:=r.length;have hn:=zHx
 have W:Inv X pins σ (upd H p$ .lst$ xs.set j v) {s with heap:=s.heap.update p (Obj.mapSeq (·.setIfInBounds j u))} :=
  I.lstUpd V ho (kZ its n j u) (r.set rv j) (by rw[qCq];exact hz) s.toks
 by_cases h0:0<=k
 .have S:k.toNat=j:=by
   rw[seqIndex_of h0 h4]at h1;exact qAb h1
  exact PySem.W.ki_setAt ho h0 Ll (by rw[qAS,<-O];exact h4) (by rw[S];exact⟨_,W,q⟩)
 .have S:(k+(its.toArray.size:Int)).toNat=j:=by
   rw[seqIndex_neg Ll h3]at h1;rw[qAS,<-O];exact qAb h1
  exact PySem.W.ki_setBack ho Ll (by rw[qAS,<-O];exact h3) Ll (by rw[S];exact⟨_,W,q⟩)
theorem ik(lo hi:Option Int)(n:Nat):(sliceBounds lo hi none n).1=((HT.sIx n 0 lo:Nat):Int)/\(sliceBounds lo hi none n).2.1=((HT.sIx n n hi:Nat):Int)/\(sliceBounds lo hi none n).2.2=1:=by
 refine⟨?_,?_,rF⟩
 .cases lo with
  |none=>simp[sliceBounds,HT.sIx]
  |some i=>
   simp only[sliceBounds,HT.sIx,Option.getD_none,show(1:Int)>0 by decide,if_true]
   by_cases h:i<0
   .simp only[h,if_true]<;>lia
   .simp only[h,qB7]<;>lia
 .cases hi with
  |none=>simp[sliceBounds,HT.sIx]
  |some i=>
   simp only[sliceBounds,HT.sIx,Option.getD_none,show(1:Int)>0 by decide,if_true]
   by_cases h:i<0
   .simp only[h,if_true]<;>lia
   .simp only[h,qB7]<;>lia
theorem zI8(its:List Value)(lo hi:Option Int):slicePick its.toArray lo hi none=((its.drop$ HT.sIx its.length 0 lo).take$ HT.sIx its.length its.length hi-HT.sIx its.length 0 lo).toArray:=by
 obtain⟨h1,h2,h3⟩:=ik lo hi its.toArray.size;unfold slicePick;rw[h1,h2,h3];simp only[sliceRange_one,pick_run,qAS]<;>rfl
inductive oY(K:PySem.W.Frag)(x:V)(lo:Option Int)(hi:Option Int)(H:Hp)(Q:VK):Prop
 |mk:∀a xs,x= .ref a->SqL K H a xs->(∀p,H p=none->Q (.ref p) (upd H p$ .lst$ fI xs lo hi))->oY K x lo hi H Q
theorem zCi:SlR X (oY X.K):=by
 intro pins s σ H x v vl vu lo hi sl Q I V hs pl W h;obtain⟨a,xs,rfl,hx,q⟩:=h
 cases V
 obtain⟨its,r,S,hz⟩:=I.list hx;have O:=r.length;refine⟨"list",_,slot_list_getitem.lookup,S.isList.typeIs,?_⟩;refine wpAny_getItem_list_slice S.isList hs pl W .none ss ?_ (by rw[qAS]<;>lia);rw[zI8,<-O];refine⟨.ref s.heap.objs.size,_,I.laid (t':=s.toks) (o:=.lst$ fI xs lo hi) (λb ob q=>qAM _ q) (qAG _) ?_,rF,q _$ I.hok.fresh$ qAG _⟩;exact⟨qAW (zIa xs lo hi) hz,_,0,(r.drop$ HT.sIx xs.length 0 lo).take$ HT.sIx xs.length xs.length hi-HT.sIx xs.length 0 lo,qAk _ rF⟩
def zGm:V->Bool
 | .non=>true
 | .bl _=>true
 | .int _=>true
 | .str _=>true
 |_=>false
def eqV:V->V->Bool
 | .non,.non=>true
 | .bl a,.bl b=>a==b
 | .bl a,.int b=>(if a then 1 else 0)==b
 | .int a,.bl b=>a==(if b then 1 else 0)
 | .int a,.int b=>a==b
 | .str a,.str b=>a==b
 |_,_=>false
theorem qF{A:Around}{s:Shared}{y:V}{u v:Value}(S:dy y u)(O:dy x v)(fy:zGm y=true)(W:zGm x=true):SeqAt.EqAt A s u v (eqV y x):=by
 cases y with
 |non=>
  cases S
  cases x with
  |non=>cases O;exact qCr _
  |bl b=>cases O;exact SeqAt.EqAt.none_bool b
  |int b=>obtain⟨t,rfl⟩:=O;exact SeqAt.EqAt.none_int b t
  |str b=>obtain⟨t,rfl⟩:=O;exact SeqAt.EqAt.none_str b t
  |_=>exact absurd (show false=true from W) qAd
 |bl a=>
  cases S
  cases x with
  |non=>cases O;exact SeqAt.EqAt.bool_none a
  |bl b=>cases O;exact SeqAt.EqAt.bool_bool a b
  |int b=>obtain⟨t,rfl⟩:=O;exact SeqAt.EqAt.bool_int a b t
  |str b=>obtain⟨t,rfl⟩:=O;exact SeqAt.EqAt.bool_str a b t
  |_=>exact absurd (show false=true from W) qAd
 |int a=>
  obtain⟨t',rfl⟩:=S
  cases x with
  |non=>cases O;exact SeqAt.EqAt.int_none a t'
  |bl b=>cases O;exact SeqAt.EqAt.int_bool a t' b
  |int b=>obtain⟨t,rfl⟩:=O;exact SeqAt.EqAt.int_int a t' b t
  |str b=>obtain⟨t,rfl⟩:=O;exact SeqAt.EqAt.int_str a t' b t
  |_=>exact absurd (show false=true from W) qAd
 |str a=>
  obtain⟨t',rfl⟩:=S
  cases x with
  |non=>cases O;exact SeqAt.EqAt.str_none a t'
  |bl b=>cases O;exact SeqAt.EqAt.str_bool a t' b
  |int b=>obtain⟨t,rfl⟩:=O;exact SeqAt.EqAt.str_int a t' b t
  |str b=>obtain⟨t,rfl⟩:=O;exact SeqAt.EqAt.str_str a t' b t
  |_=>exact absurd (show false=true from W) qAd
 |_=>exact absurd (show false=true from fy) qAd
def eqU(x:V)(u:Value):Bool:=match u with
 | .none=>eqV .non x
 | .bool b=>eqV (.bl b) x
 | .int i _=>eqV (.int i) x
 | .str z _=>eqV (.str z) x
 |_=>false
theorem pi{y:V}{u:Value}(r:dy y u)(f:zGm y=true):eqU x u=eqV y x:=by
 cases y with
 |non=>cases r;rfl
 |bl b=>cases r;rfl
 |int i=>obtain⟨t,rfl⟩:=r;rfl
 |str z=>obtain⟨t,rfl⟩:=r;rfl
 |_=>exact absurd (show false=true from f) qAd
theorem zIc :∀{xs:List V}{us:List Value},dv xs us->xs.all zGm=true->us.any (eqU x)=xs.any λy=>eqV y x
 |_,_,.nil,_=>rfl
 |y::xs,u::us,.cons r t,f=>by
  rw[List.all_cons,qBS]at f;rw[qCI,qCI,pi r f.1,zIc t f.2]
theorem zF1{A:Around}{s:Shared}{v:Value}(S:dy x v)(W:zGm x=true):∀{xs:List V}{us:List Value},dv xs us->xs.all zGm=true->∀u∈us,SeqAt.EqAt A s u v (eqU x u)
 |_,_,.nil,_=>λu O=>by cases O
 |y::xs,u::us,.cons r t,f=>λu' O=>by
  rw[List.all_cons,qBS]at f;rcases qAT.mp O with rfl|O
  .rw [pi r f.1];exact qF r S f.1 W
  .exact zF1 S W t f.2 u' O
def inV(x:V)(xs:List V):Bool:=xs.any λy=>eqV y x
inductive rIn(K:PySem.W.Frag)(neg:Bool)(x:V)(y:V)(H:Hp)(Q:VK):Prop
 |mk:∀p xs,y= .ref p->(SqL K H p xs\/SqT K H p xs)->zGm x=true->xs.all zGm=true->Q (.bl$ if neg then !inV x xs else inV x xs) H->rIn K neg x y H Q
theorem zFw:OpR X (compareOp .In) (rIn X.K false):=by
 intro pins s σ H x y v u Q I S W h;obtain⟨p,xs,rfl,O,V,fs,q⟩:=h
 cases W
 rcases O with O|O
 .obtain ⟨its,r,pl,hz⟩:=I.list O;refine SeqAt.in_listAt (eqU x) pl.isList (λw hw=>zF1 S V r fs w$ by simpa using hw) ⟨.bl _,H,I,rF,?_⟩;rw[show its.toArray.any (eqU x)=its.any (eqU x) by simp,zIc r fs];exact q
 .obtain ⟨its,r,pl,hz⟩:=I.tuple O;refine SeqAt.in_tupleAt (eqU x) pl (λw hw=>zF1 S V r fs w$ by simpa using hw) ⟨.bl _,H,I,rF,?_⟩;rw[show its.toArray.any (eqU x)=its.any (eqU x) by simp,zIc r fs];exact q
theorem zGr:OpR X (compareOp .NotIn) (rIn X.K true):=by
 intro pins s σ H x y v u Q I S W h;obtain⟨p,xs,rfl,O,V,fs,q⟩:=h
 cases W
 rcases O with O|O
 .obtain ⟨its,r,pl,hz⟩:=I.list O;refine SeqAt.notIn_listAt (eqU x) pl.isList (λw hw=>zF1 S V r fs w$ by simpa using hw) ⟨.bl _,H,I,rF,?_⟩;rw[show its.toArray.any (eqU x)=its.any (eqU x) by simp,zIc r fs];exact q
 .obtain ⟨its,r,pl,hz⟩:=I.tuple O;refine SeqAt.notIn_tupleAt (eqU x) pl (λw hw=>zF1 S V r fs w$ by simpa using hw) ⟨.bl _,H,I,rF,?_⟩;rw[show its.toArray.any (eqU x)=its.any (eqU x) by simp,zIc r fs];exact q
theorem zAp:zCz X (.builtin "len") (λxs H Q=>∃p ys,xs=[.ref p]/\(SqL X.K H p ys\/SqT X.K H p ys)/\Q (.int ys.length) H):=by
 intro pins s σ H xs us Q I r h;obtain⟨p,ys,rfl,S,q⟩:=h;obtain⟨u,rfl,W⟩:=zI5 r
 cases W
 have hn:=zHx;rcases S with S|S
 .obtain ⟨its,V,pl,hz⟩:=I.list S;have O:=V.length;exact Calls.call_len_list pl.isList (by simp only[qAS]<;>lia) ⟨.int ys.length,H,I.tok _,⟨s.toks+1,by rw[qAS,O]⟩,q⟩
 .obtain ⟨its,V,pl,hz⟩:=I.tuple S;have O:=V.length;exact len_tuple pl (by simp only[qAS]<;>lia) ⟨.int ys.length,H,I.tok _,⟨s.toks+1,by rw[qAS,O]⟩,q⟩
theorem iS:zCz X (.builtin "len") (λxs H Q=>∃z,xs=[.str z]/\z.length<=sizeLine/\Q (.int z.length) H):=by
 intro pins s σ H xs us Q I r h;obtain⟨z,rfl,O,q⟩:=h;obtain⟨u,rfl,t,rfl⟩:=zI5 r;have S:=zHx;exact len_str Ll ⟨.int z.length,H,I.tok _,⟨_,rF⟩,q⟩
theorem zBu:zCz X (.type "list") (λxs H Q=>∃p ys,xs=[.ref p]/\(SqL X.K H p ys\/SqT X.K H p ys)/\∀l,H l=none->Q (.ref l) (upd H l$ .lst ys)):=by
 intro pins s σ H xs us Q I r h;obtain⟨p,ys,rfl,V,q⟩:=h;obtain⟨u,rfl,rx⟩:=zI5 r
 cases rx
 have fin:∀(its:List Value),dv ys its->ys.length<=sizeLine->∀(h':Heap)(O:Nat),(∀b o',s.heap.get? b=some o'->h'.get? b=some o') ->
   h'.get? s.heap.objs.size=some {cls:=.type "list",dict:=none,data:=.seq its.toArray O,slots:=#[]}->EP X pins σ Q (.ref s.heap.objs.size) {s with heap:=h'}:=λits S W h' O kp e=>
  ⟨.ref s.heap.objs.size,_,I.laid (t':=s.toks) kp (qAG _)$ show zBq X.prog X.w _ h' _ (.lst ys)from⟨W,its,O,S,e⟩,rF,q _$ I.hok.fresh$ qAG _⟩
 rcases V with V|V
 .obtain ⟨its,S,pl,W⟩:=I.list V;have aa:=S.length;obtain⟨o,ho,hc,n,hd⟩:=pl.isList;exact call_list_seq p (.inl rF) ho hc hd (λh' O kp e=>fin its S W h' O kp e) (by simp only[qAS]<;>lia)
 .obtain ⟨its,S,pl,W⟩:=I.tuple V;have aa:=S.length;obtain⟨o,ho,hc,n,hd⟩:=pl;exact call_list_seq p (.inr rF) ho hc hd (λh' O kp e=>fin its S W h' O kp e) (by simp only[qAS]<;>lia)
theorem zF7:zCz X (.type "tuple") (λxs H Q=>∃p ys,xs=[.ref p]/\((SqL X.K H p ys/\∀l,H l=none->Q (.ref l) (upd H l$ .tup ys))\/(SqT X.K H p ys/\Q (.ref p) H))):=by
 intro pins s σ H xs us Q I r h;obtain⟨p,ys,rfl,h⟩:=h;obtain⟨u,rfl,rx⟩:=zI5 r
 cases rx
 rcases h with⟨O,q⟩|⟨O,q⟩
 .obtain ⟨its,S,pl,V⟩:=I.list O;have W:=S.length;refine call_tuple_list pl.isList (λh' kp=>?_) (by simp only[qAS]<;>lia);have I1:Inv X pins σ H {s with heap:=h'}:=I.kept (t':=s.toks) kp
  have I2:Inv X pins σ (upd H h'.objs.size$ .tup ys) {s with heap:=h'.push {cls:=.type "tuple",data:=.seq its.toArray}} :=
   I1.laid (t':=s.toks) (λb o e=>qAM _ e) (qAG _)$ show zBq X.prog X.w _ _ _ (.tup ys)from⟨V,its,S,IsTup.new _ _⟩
  exact⟨.ref h'.objs.size,_,I2,rF,q _$ I1.hok.fresh$ qAG _⟩
 .obtain ⟨its,S,pl,V⟩:=I.tuple O;exact call_tuple_same pl ⟨.ref p,H,I,rF,q⟩
def tyV(K:PySem.W.Frag)(T:String)(x:V)(H:Hp):Prop:=match x with
 | .str _=>T="str"
 | .int _=>T="int"
 | .ref p=>(T="list"/\∃xs,SqL K H p xs)\/(T="tuple"/\∃o,K.lookup p=some o/\o.cls= .type "tuple"/\o.dict=none) \/
   (T="dict"/\((∃O,H p=some (.dK O))\/∃O,H p=some (.dT O)))\/(T="set"/\∃S n,H p=some (.set S n))
 |_=>False
theorem pP{pins:List (Addr×Obj)}{σ:St}{H:Hp}{s:Shared}{T:String}{v:Value}(I:Inv X pins σ H s)(r:dy x v)(ty:tyV X.K T x H) :
  s.TypeIs v T/\∀a,v= .ref a->∃ob,s.heap.get? a=some ob/\ob.dict=none:=by
 cases x with
 |str z=>
  obtain⟨t,rfl⟩:=r
  cases (show T="str" from ty)
  exact⟨qBp s z t,λ_ e=>nomatch e⟩
 |int i=>
  obtain⟨t,rfl⟩:=r
  cases (show T="int" from ty)
  exact⟨typeIs_int s i t,λ_ e=>nomatch e⟩
 |ref p=>
  cases r
  rcases ty with⟨rfl,xs,hq⟩|⟨rfl,o,O,hc,hd⟩|⟨rfl,O⟩|⟨rfl,S,n,O⟩
  .obtain ⟨its,_,pl,_⟩:=I.list hq;refine⟨pl.isList.typeIs,λa e=>?_⟩
   cases e
   obtain⟨o,n,e,c,hd,_⟩:=pl;exact⟨o,e,hd⟩
  .refine ⟨⟨o,I.kIn p o O,hc⟩,λa e=>?_⟩
   cases e
   exact⟨o,I.kIn _ o O,hd⟩
  .have z:∃o,s.heap.get? p=some o/\o.ExactDict:=by
    rcases O with⟨V,O⟩|⟨V,O⟩
    .obtain ⟨_,_,_,_,o,_,_,e,ex,_⟩:=I.hok p _ O;exact⟨o,e,ex⟩
    .obtain ⟨_,_,_,_,o,_,_,e,ex,_⟩:=I.hok p _ O;exact⟨o,e,ex⟩
   obtain⟨o,e,ex⟩:=z;refine⟨⟨o,e,ex.1⟩,λa W=>?_⟩
   cases W
   exact⟨o,e,ex.2.1⟩
  .obtain ⟨o,_,_,_,e,ex,_⟩:=I.hok p _ O;refine⟨⟨o,e,ex.1⟩,λa W=>?_⟩
   cases W
   exact⟨o,e,ex.2.1⟩
 |_=>exact False.elim ty
def x5(K:PySem.W.Frag)(T:String)(r:V->List V->Hp->VK->Prop)(to:TE):TE:=λσ H Q=>to σ H λx H1=>tyV K T x H1/\r x [] H1 Q
def tBM(K:PySem.W.Frag)(T:String)(r:V->List V->Hp->VK->Prop)(to:TE)(t:TA):TE:=λσ H Q=>to σ H λx H1=>tyV K T x H1/\t σ H1 λxs H2=>r x xs H2 Q
variable{o e:Expr}{es:List Expr}{to:TE}{t:TA}{name:Str}{apos cpos:Pos}{T id:String}{r:V->List V->Hp->VK->Prop}
theorem ph(pa:PlainAttrs T)(slot:Slot T name id)(V:typeOf (.builtin id)=pure (.type "method_descriptor"))(hm:MtR X id r)(ho:PE X o to)
  (O:attributeBase o name X.env (eval o X.env)=eval o X.env:=by rfl) (S:(apos.endLine==cpos.line)=true:=by rfl):PE X (.Call (.Attribute o name apos) [] [] cpos) (x5 X.K T r to):=by
 intro pins s σ H Q I h;refine wpAny_Call_method0_late O S$ thn (ho pins s σ H _ I h) λv s1 ⟨x,H1,W,r1,ty,q1⟩=>?_;obtain⟨h1,h2⟩:=pP W r1 ty;exact⟨T,id,pa,slot,V,h1,h2,Calls.callWith_builtin rF$ PySem.evalArgs_none$ hm pins s1 σ H1 x [] v [] Q W r1 .nil q1⟩
theorem zD6(pa:PlainAttrs T)(slot:Slot T name id)(aa:typeOf (.builtin id)=pure (.type "method_descriptor"))(hm:MtR X id r)(ho:PE X o to)(ha:PA X (e::es) t)
  (S:attributeBase o name X.env (eval o X.env)=eval o X.env:=by rfl)
  (W:((backTo cpos$ starEach (e::es) X.env).all (fun x=>!x.1)&&(backToKw cpos$ keywordEach [] X.env).all (fun x=>x.1.isSome)
   &&decide ((e::es).length+([]:List Keyword).length+(if([]:List Keyword).isEmpty then 0 else 1)<30))=true:=by rfl)
  (V:(apos.endLine==cpos.line)=true:=by rfl) (hs:starEach (e::es) X.env=(false,eval e X.env)::starEach es X.env:=by rfl) (O:(backTo cpos$ starEach es X.env).any (·.1)=false:=by rfl) :
  PE X (.Call (.Attribute o name apos) (e::es) [] cpos) (tBM X.K T r to t):=by
 intro pins s σ H Q I h;refine wpAny_Call_method_late S W V rF$ thn (ho pins s σ H _ I h) λv s1 ⟨x,H1,I1,r1,ty,q1⟩=>?_;obtain⟨h1,h2⟩:=pP I1 r1 ty;refine⟨T,id,pa,slot,aa,h1,h2,?_⟩;have hA:=ha cpos pins s1 σ H1 _ I1 q1;rw[hs]at hA ⊢;refine Calls.callWith_builtin (by show(false||(backTo cpos$ starEach es X.env).any (·.1))=false;rw[O]<;>rfl)$ Calls.evalArgs_plain ?_;exact thn hA λus s2 ⟨vs,H2,I2,r2,q2⟩=>hm pins s2 σ H2 x vs v us Q I2 r1 r2 q2
end
def MtM(X:Cx)(id:String)(r:V->List V->Hp->VK->Prop):Prop :=
 ∀(pins:List (Addr×Obj)) (s:Shared) (σ:St) (H:Hp) (x:V) (xs:List V) (v:Value) (us:List Value) (Q:VK),Inv X pins σ H s->dy x v->dv xs us->r x xs H Q ->
  wpAny (model X.prog X.w) X.A (call (.builtin id)$ v::us) (EP X pins σ Q) X.xe s
theorem dv.one:∀{x:V}{us:List Value},dv [x] us->∃u,us=[u]/\dy x u
 |_,_,.cons r .nil=>⟨_,rF,r⟩
theorem dv.two:∀{x y:V}{us:List Value},dv [x,y] us->∃u v,us=[u,v]/\dy x u/\dy y v
 |_,_,_,.cons r (.cons q .nil)=>⟨_,_,rF,r,q⟩
theorem dv.zero:∀{us:List Value},dv [] us->us=[]
 |_,.nil=>rfl
theorem dv.dropLast{xs:List V}{us:List Value}(h:dv xs us):dv xs.dropLast us.dropLast:=by
 induction h with
 |nil=>exact .nil
 |cons r t O=>
  cases t with
  |nil=>exact .nil
  |cons q t'=>exact .cons r O
theorem dv.rep{xs:List V}{us:List Value}(h:dv xs us):∀k:Nat,dv (List.replicate k xs).flatten (List.replicate k us).flatten
 |0=>.nil
 |k+1=>by
  rw[qCX,qCX,qBA,qBA];exact dv.append h$ dv.rep h k
theorem kS(l:List α):l.eraseIdx (l.length-1)=l.dropLast:=by
 induction l with
 |nil=>rfl
 |cons a r O=>
  cases r with
  |nil=>rfl
  |cons b r=>
   have e:(a::b::r).length-1=((b::r).length-1)+1:=by
    have h1:(a::b::r).length=r.length+2:=rfl;have h2:(b::r).length=r.length+1:=rfl;lia
   rw[e,List.eraseIdx_cons_succ,O]
   all_goals rfl
theorem gZ(its:List Value):∀(k:Nat)(acc:List Value),
  List.foldl (λO S=>O++S) acc.toArray (List.replicate k its.toArray)=(acc++(List.replicate k its).flatten).toArray
 |0,acc=>ss
 |k+1,acc=>by
  have e:acc.toArray++its.toArray=(acc++its).toArray:=ss
  have V:(acc++its)++(List.replicate k its).flatten=acc++(List.replicate (k+1) its).flatten:=by
   rw[qCX,qBA,qBK]
  rw[<-V,<-gZ its k$ acc++its,<-e,qCX,qBr]
section
variable{X:Cx}{pins:List (Addr×Obj)}{σ:St}{H:Hp}{s:Shared}{l b:Addr}{xs ys zs:List V}
theorem Inv.lset{its its':List Value}{f:Array Value->Array Value}{t':Nat}(I:Inv X pins σ H s)(O:H l=some (.lst xs))
  (e:s.heap.get? l=some {cls:=.type "list",data:=.seq its.toArray n}) (S:f its.toArray=its'.toArray) (V:dv ys its') (W:ys.length<=sizeLine) :
  Inv X pins σ (upd H l$ .lst ys) {s with heap:=s.heap.update l (Obj.mapSeq f),toks:=t'}:=by
 have q:=PySem.IsL.update e f;rw[S]at q;refine I.write (x:=l) (e:=l) (by rw[O];exact trivial) (.inl rF) (λb' u hb hu=>(qBq s.heap (Obj.mapSeq f)$ qAh hb).trans hu) ⟨_,q⟩ ?_;exact⟨W,its',_,V,q⟩
theorem Inv.lnew{its:List Value}{t':Nat}(I:Inv X pins σ H s)(V:dv ys its)(O:ys.length<=sizeLine) :
  Inv X pins σ (upd H s.heap.objs.size$ .lst ys) {s with heap:=s.heap.push {cls:=.type "list",data:=.seq its.toArray},toks:=t'} :=
 I.laid (λ_ _ q=>qAM _ q) (qAG _) ⟨O,its,0,V,qAk _ rF⟩
theorem Inv.fresh(I:Inv X pins σ H s):H s.heap.objs.size=none:=I.hok.fresh$ qAG _
theorem Inv.lstM(I:Inv X pins σ H s)(O:H l=some (.lst xs)):xs.length<=sizeLine/\∃(its:List Value)(n:Nat),dv xs its/\xs.length=its.length/\s.heap.get? l=some {cls:=.type "list",data:=.seq its.toArray n}:=by
 obtain⟨z,its,n,r,e⟩:=I.hok l _ O;exact⟨z,its,n,r,r.length,e⟩
theorem jE(h:n<=sizeLine):Builtin.List.listTooLong n=false:=by
 unfold Builtin.List.listTooLong;exact qAZ Ll
end
section
variable{X:Cx}
inductive mh(x:V)(vs:List V)(H:Hp)(Q:VK):Prop
 |mk:∀l xs y,x= .ref l->vs=[y]->H l=some (.lst xs)->xs.length<sizeLine->Q .non (upd H l$ .lst$ xs++[y])->mh x vs H Q
theorem zCb:MtM X "list.append" mh:=by
 intro pins s σ H x vs v us Q I S V h;obtain⟨l,xs,y,rfl,rfl,O,hz,q⟩:=h
 cases S
 obtain⟨u,rfl,W⟩:=V.one;obtain⟨z,its,n,r,hl,e⟩:=I.lstM O;refine qBT F.slot_list_append ⟨_,e,rF⟩ F.entry_list_append (F.args_list_append_2 _ _) (PySem.list_append l its.toArray n u$ by rw[qAS];lia) ⟨e,?_⟩;refine⟨.non,_,I.lset (its':=its++[u]) O e ss (r.append$ .cons W .nil) ?_,rF,q⟩;rw[qAN,qAn];lia
inductive m8(x:V)(vs:List V)(H:Hp)(Q:VK):Prop
 |mk:∀l b xs zs,x= .ref l->vs=[.ref b]->H l=some (.lst xs)->H b=some (.lst zs)->xs.length+zs.length<=sizeLine->Q .non (upd H l$ .lst$ xs++zs)->m8 x vs H Q
theorem zEv:MtM X "list.extend" m8:=by
 intro pins s σ H x vs v us Q I W rv h;obtain⟨l,b,xs,zs,rfl,rfl,V,hB,hz,q⟩:=h
 cases W
 obtain⟨u,rfl,ru⟩:=rv.one
 cases ru
 obtain⟨z,its,n,r,hl,e⟩:=I.lstM V;obtain⟨z2,O,n2,r2,aa,e2⟩:=I.lstM hB;have hsz:its.toArray.size+O.toArray.size<=sizeLine:=by rw[qAS,qAS];lia
 have S:¬(!its.toArray.isEmpty&&Builtin.List.listTooLong (its.toArray.size+O.toArray.size))=true:=by
  rw[jE hsz,Bool.and_false];exact qAd
 refine qBT F.slot_list_extend ⟨_,e,rF⟩ F.entry_list_extend (F.args_list_extend_2 _ _)
  (AutoSeq1.list_extend_list_list_0 l its.toArray n b O.toArray n2 S (by rw[qAS];lia) Ll) ⟨e,e2,?_⟩
 refine⟨.non,_,I.lset (its':=its++O) V e ss (r.append r2) ?_,rF,q⟩;rw[qAN];lia
inductive wR(x:V)(vs:List V)(H:Hp)(Q:VK):Prop
 |mk:∀l xs y,x= .ref l->vs=[]->H l=some (.lst xs)->xs[xs.length-1]?=some y->Q y (upd H l$ .lst xs.dropLast)->wR x vs H Q
theorem pD:MtM X "list.pop" wR:=by
 intro pins s σ H x vs v us Q I W rv h;obtain⟨l,xs,y,rfl,rfl,V,hy,q⟩:=h
 cases W
 have S:=rv.zero;subst S;obtain⟨z,its,n,r,hl,e⟩:=I.lstM V;obtain⟨u,hu,ru⟩:=r.get hy
 have O:its.toArray[its.toArray.size-1]?=some u:=by
  show its.toArray[its.length-1]?=some u;rw[<-qAo,<-hl];exact hu
 refine qBT F.slot_list_pop ⟨_,e,rF⟩ F.entry_list_pop (F.args_list_pop_1 _) (MeetsSeq.list_pop_last l its.toArray n u O$ by rw[qAS];lia) ⟨e,?_⟩;refine⟨y,_,I.lset (its':=its.dropLast) V e ?_ r.dropLast ?_,ru,q⟩
 .show its.toArray.eraseIdxIfInBounds (its.toArray.size-1)=its.dropLast.toArray;rw[qAS,List.eraseIdxIfInBounds_toArray,kS]
 .rw [List.length_dropLast];lia
inductive oU(x:V)(y:V)(H:Hp)(Q:VK):Prop
 |mk:∀l b xs zs,x= .ref l->y= .ref b->H l=some (.lst xs)->H b=some (.lst zs)->xs.length+zs.length<=sizeLine->(∀p,H p=none->Q (.ref p) (upd H p$ .lst$ xs++zs))->oU x y H Q
theorem zC0:OpR X (binaryOp .Add) oU:=by
 intro pins s σ H x y v u Q I S V h;obtain⟨l,b,xs,zs,rfl,rfl,W,hB,hz,q⟩:=h
 cases S
 cases V
 obtain⟨z,its,n,r,hl,e⟩:=I.lstM W;obtain⟨z2,O,n2,r2,aa,e2⟩:=I.lstM hB;refine PySem.P.add_list e e2 ?_ (by rw[qAS,qAS];lia);have ea:its.toArray++O.toArray=(its++O).toArray:=ss
 rw[ea];exact⟨.ref _,_,I.lnew (t':=s.toks) (r.append r2) (by rw[qAN];lia),rF,q _ I.fresh⟩
inductive wy(x:V)(y:V)(H:Hp)(Q:VK):Prop
 |mk:∀l k xs,x= .ref l->y= .int k->H l=some (.lst xs)->-(2^63)<=k->k<2^63->xs.length*k.toNat<=sizeLine->(∀p,H p=none->Q (.ref p) (upd H p$ .lst (List.replicate k.toNat xs).flatten))->wy x y H Q
theorem iW(xs:List α)(k:Nat):(List.replicate k xs).flatten.length=k*xs.length:=by
 induction k with
 |zero=>simp
 |succ k O=>rw[qCX,qBA,qAN,O,Nat.succ_mul,qCs]
theorem lH:OpR X (binaryOp .Mult) wy:=by
 intro pins s σ H x y v u Q I rx ry h;obtain⟨l,k,xs,rfl,rfl,hH,h1,h2,hz,q⟩:=h
 cases rx
 obtain⟨t,rfl⟩:=ry;obtain⟨z,its,n,r,hl,e⟩:=I.lstM hH;have S:its.toArray.size*k.toNat<=sizeLine:=by rw[qAS,<-hl];exact hz
 have V:¬its.toArray.size*k.toNat>(2^63-1) / 8:=by
  have:(sizeLine:Nat)<=(2^63-1) / 8:=dD
  lia
 have W:¬(!Builtin.List.listFitsIndex k)=true:=by
  rw[fitsIndex_both h1 h2];exact qAd
 have O:¬Builtin.List.listTooLong (its.toArray.size*k.toNat)=true:=by
  rw[jE S];exact qAd
 have aa:List.foldl (λx1 x2=>x1++x2) #[] (List.replicate (if its.toArray.isEmpty=true then 0 else k.toNat) its.toArray)=(List.replicate k.toNat its).flatten.toArray:=by
  have f0:∀m:Nat,List.foldl (λx1 x2=>x1++x2) #[] (List.replicate m its.toArray)=(List.replicate m its).flatten.toArray:=λm=>by
   have:=gZ its m [];rw[List.nil_append]at this;exact this
  rw[f0]
  cases its with
  |nil=>simp
  |cons a r'=>rw[qAB ss]
 refine wpAny_binaryOp_repeat_ref (T:="list") (U:="int") dD ⟨_,e,rF⟩ (λs'=>typeIs_int s' k t) noFill_list_mul F.fills_int_mul F.slot_int_rmul repeat_list F.slot_int_index.lookup
  (qBT F.slot_int_rmul (typeIs_int s k t) F.entry_int_rmul (F.args_int_rmul_2 _ _) (int___rmul___int_list k t l its.toArray n)
   ⟨e,rF,⟨_,e,rF⟩,qBT F.slot_list_mul ⟨_,e,rF⟩ F.entry_list_mul (F.args_list_mul_2 _ _) (AutoListH.list___mul___list_int_3 l its.toArray n k t W V O) ⟨e,?_⟩⟩)
 rw[aa];exact⟨.ref _,_,I.lnew (t':=s.toks) (r.rep k.toNat) (by rw[iW,Nat.mul_comm];exact hz),rF,q _ I.fresh⟩
end
section
variable{prog:Program}{w:World}{A:Around}{E:Value->Shared->Prop}{s:Shared}
set_option maxRecDepth 100000 in
end
end L2
namespace Att
open PySem PySem.W PySem.Calls PyProof.Rows
theorem zH4{P:Params}{h:Heap}:∀(ns:List Int)(vs:List Value),WellAll P h vs (ns.map WData.int)->IntsAre vs ns:=by
 intro ns
 induction ns with
 |nil=>
  intro vs w;rw[List.map_nil]at w
  cases w
  exact .nil
 |cons n ns O=>
  intro vs w;rw[qAt]at w
  cases w with
  |cons a b=>
   cases a
   exact .cons _ _$ O _ b
theorem oN{l:OpenLaw}{n:Nat}(hn:l.most=some n){P:Params}{h:Heap}{S:List WData}{V:List Value}
  (O:l.row.toRowW.claim.pre S=true) (ad:WellAll P h V S) :
  ∃a vs ns,V=[Value.ref a]/\S=[WData.list (ns.map WData.int)]/\h.get? a=some {cls:=.type "list",data:=.seq vs.toArray}/\IntsAre vs ns/\ns.length<=n:=by
 have ae:WShape.hasAll [] S [.list .int]=true:=(pre_splitW O).1;have hc:l.pre.holds [] {args:=S}=true:=(pre_splitW O).2;obtain⟨d,r,rfl,h1,h2⟩:=hasAllW_cons ae;obtain rfl:=hasAllW_nil h2;obtain⟨xs,rfl,h3⟩:=hasW_list h1;obtain⟨ns,rfl⟩:=items_int h3
 have W:ns.length<=n:=by
  unfold OpenLaw.pre at hc
  have h4:(WTm.not$ .lt (.lit$ .int (n:Int))$ .len$ .arg 0).holds [] {args:=[.list (ns.map .int)]}=true:=by
   have h4:=(holds_andW hc).1;rw[hn]at h4;exact h4
  have h5:=condW_of h4$ w_not$ w_lt w_lit$ w_len_list$ w_arg rF;rw[qAD]at h5;refine Nat.le_of_not_lt λq=>?_;have q':(n:Int)<((ns.length:Nat):Int):=Ll
  first
   |(rw[qAV q']at h5;exact absurd h5 dD)
   |(simp at h5;lia)
 cases ad with
 |cons w1 w2=>
  cases w2
  cases w1 with
  |list ho aa=>exact⟨_,_,ns,rF,rF,ho,zH4 ns _ aa,W⟩
theorem nH(l:OpenLaw)(S:List WData):l.row.toRowW.claim.post S (.bool true) S=true :=
 postW_of (r:=l.row.toRowW) (X:=(true==true))
  (show WShape.has [] (.bool true) .bool=true by first|rfl|decide|simp[WShape.has,WShape.arms,WShape.armsAll])
  (show(WTm.eq .res$ .lit$ .bool true).value [] {args:=S,res:=some (.bool true),after:=S}=some (.bool$ true==true)from w_eq_bool (w_res rF) w_lit) rF
theorem attach_call{l:OpenLaw}{n:Nat}{q:Program}{O:List Str}{XP:(Str->Option Value)->Heap->Prop}{YP:World->Heap->Prop}{d:DefRec}
  (hn:l.most=some n) (af:d.params.defaults=[])
  (call:∀(w:World) (s₀ S:Shared) (mg mb:Str->Option Value) (fa:Addr) (o:Obj) (pm cd V:Value) (a:Addr) (vs:List Value) (ns:List Int),
   Ground q O [] XP w s₀ mg mb S.heap->YP w S.heap ->
   S.heap.get? fa=some o->o.data= .func (docDef d.name d.params d.body d.scope pm cd V)->S.heap.CodeRec cd d.name->mg d.name=some (.ref fa) ->
   S.heap.get? a=some {cls:=.type "list",data:=.seq vs.toArray}->IntsAre vs ns->ns.length<=n->S.gens=#[] ->
   codeAny (model l.prog w) callerA (.call (.ref fa) ⟨[.ref a],[]⟩) (λr s'=>r= .ok (.ret$ .bool true)/\OldK S.heap s'.heap/\s'.os=S.os/\AllBare s'.gens) S) :
  WalkO q O XP YP l.row.toRowW d [] (λf vs=>PySem.call f vs):=by
 intro w s₀ S mg mb G Y fa o pm cd V dV kV ho hd ag hD ah hg aj ak as aa al am ai an;obtain rfl:dV= .none:=Dflts.none hD af;obtain rfl:kV= .none:=Dflts.noKw hD;obtain⟨a,vs,ns,rfl,rfl,ad,W,ae⟩:=oN hn aa ai;refine enter_call$ qBf (call w s₀ S mg mb fa o pm cd V a vs ns G Y ho (fd_plain hd) ag ah ad W ae hg) λr s' hq=>?_;obtain⟨rfl,h2,h3,h4⟩:=hq;exact⟨.inl ⟨.bool true,.bool true,[],rF,λ_=>rfl,.bool true,nH l _,λ_=>⟨List.Pairwise.nil,λ_ hm=>(nomatch hm)⟩⟩,h2,h3,h4⟩
end Att
namespace L2
open PySem PySem.Spec PyProof.Rows
variable{x qual:Str}{H H':Hp}{a:Addr}{u:Value}{y:V}{w:World}
theorem g9:∀{vs:List Value}{ns:List Int},IntsAre vs ns->dv (ns.map V.int) vs
 |_,_,.nil=>.nil
 |_,_,.cons n t h=>.cons ⟨t,rF⟩ (g9 h)
def iR(s:Stmt)(j:Nat):Stmt:=match s with
 | .ClassDef _ _ _ body _ _ _ _ _ _ _=>body.getD j (.Pass ⟨0,0,0,0⟩)
 |_=>.Pass ⟨0,0,0,0⟩
def zDq(s:Stmt):Arguments:=match s with
 | .FunctionDef _ a _ _ _ _ _ _ _ _=>a
 |_=>{posonlyargs:=[],args:=[],vararg:=none,kwonlyargs:=[],kw_defaults:=[],kwarg:=none,defaults:=[]}
def zCt(s:Stmt):List Stmt:=match s with
 | .FunctionDef _ _ b _ _ _ _ _ _ _=>b
 |_=>[]
def zAg(s:Stmt):Scope:=match s with
 | .FunctionDef _ _ _ _ _ _ sc _ _ _=>sc
 |_=>{kind:=.function,names:=[],isGenerator:=false,isCoroutine:=false}
abbrev CX0:CXT:=λ_ _ _ _ _ _=>False
abbrev E0:XK:=λ_ _ _=>False
theorem lW{X:Cx}:zIe CX0 X E0:=λ_ _ _ _ _ _ _ h=>h.elim
structure Fun(K:PySem.W.Frag)(x qual:Str)(st:Stmt)(f:Addr)(fd:FuncData):Prop where
 ex:∃(oc:Value)(od:Option Addr)(kV doc pm:Value)(an:Option Addr)(cdv ct:Value) (osl:Array (Option Value)),
  fd=PySem.W.fnOf x qual (zDq st) (zCt st) (zAg st) .none kV doc pm an cdv ct/\K.lookup f=some ⟨oc,od,.func fd,osl⟩/\PySem.W.codeIn K cdv qual=true
 kp:PySem.W.keepIn K (.ref f)=true
section
variable{P:Program}{w:World}{K:PySem.W.Frag}{mg:Str->Option Value}{base:Heap}
theorem Fun.ok{st:Stmt}{f:Addr}{fd:FuncData}{N ps:List Str}{k:Nat}{sp:Sp}(F:Fun K x qual st f fd)(S:dq N ps (zAg st))(len:∀vs H Q E,sp vs H Q E->vs.length=ps.length)
  (W:∀(O:Value) (A:Around) (outer:List Env) (s:Shared) (H:Hp) (vs:List V) (Q:VK) (E:XK),dF k (A.deeper$ envOfC qual (zAg st) s.heap.objs.size f O)->sp vs H Q E ->
   ∃t,PSs (dQ CX0 P w K mg base N qual (zAg st) f O A outer s H E).nox (zCt st) t/\t {nx:=λ_ H'=>Q .non H',rt:=Q} (start N vs) H):dw P w K mg base CX0 (k+1) f fd ps sp:=by
 obtain⟨oc,od,kV,ae,pm,an,O,ct,af,rfl,lk,aa⟩:=F.ex;refine ui lk aa S len λA outer s H vs Q E hr ad=>?_;obtain⟨t,h,q⟩:=W O A outer s H vs Q E hr ad;exact⟨t,h.nox,q⟩
theorem Fun.binds{st:Stmt}{f:Addr}{fd:FuncData}{ps:List Str}(F:Fun K x qual st f fd)
  (h:∀(kV O S:Value)(W:Option Addr)(V ct:Value)(us:List Value),us.length=ps.length->bindArgs (PySem.W.fnOf x qual (zDq st) (zCt st) (zAg st) .none kV O S W V ct) ⟨us,[]⟩=pure (ps.zip us)):zDe K fd ps []:=by
 obtain⟨oc,od,kV,O,S,W,V,ct,aa,rfl,lk,ad⟩:=F.ex;exact .all$ h kV O S W V ct
theorem qA{st:Stmt}{f:Addr}{oc:Value}{od W:Option Addr}{S:Array (Option Value)}{kV O pm V ct:Value}(l:K.lookup f=some ⟨oc,od,.func$ PySem.W.fnOf x qual (zDq st) (zCt st) (zAg st) .none kV O pm W V ct,S⟩)
  (c:PySem.W.codeIn K V qual=true) (k:PySem.W.keepIn K (.ref f)=true):Fun K x qual st f (PySem.W.fnOf x qual (zDq st) (zCt st) (zAg st) .none kV O pm W V ct):=⟨⟨oc,od,kV,O,pm,W,V,ct,S,rF,l,c⟩,k⟩
end
theorem zF2{A:Around}{k:Nat}(O:dF k A):A.units+1<cLine:=Nat.lt_of_le_of_lt (Nat.add_le_add_left (dD:1<=64) _) O.units
section
variable{X:Cx}
theorem pv(i:Nat){pos:Pos}(S:X.N[i]?=some x:=by rfl)(V:Vis X.env.scope x:=by first|exact Or.inl rF|exact Or.inr$ Or.inl rF|exact Or.inr$ Or.inr rF)(hd:(x==("__debug__": Str))=false:=by decide)
  (O:(x==("__classdict__": Str))=false:=by decide):PE X (.Name x pos) (fj i):=vy S V hd O
end
theorem dC{A B:Prop}(h:B):if false=true then A else B:=by
 rw[qAB qAd];exact h
theorem eZ{A B:Prop}(h:A):if true=true then A else B:=by
 rw[qAC rF];exact h
theorem dE{c A B:Prop}[Decidable c](h1:c->A)(h2:¬c->B):if c then A else B:=by
 by_cases h:c
 .rw [qAC h];exact h1 h
 .rw [qAB h];exact h2 h
def uN(H H':Hp):Prop:=∀b o,H b=some o->H' b=some o
theorem uN.seq{K:PySem.W.Frag}{xs:List V}(e:uN H H')(h:SqL K H a xs):SqL K H' a xs:=by
 rcases h with(h|⟨o,h⟩)|h
 .exact .inl$ .inl$ e _ _ h
 .exact .inl$ .inr ⟨o,e _ _ h⟩
 .exact .inr h
section
variable{κ:Type}[DecidableEq κ]
def dX(S:List (κ×V))(k:κ):Option V:=(S.find? λO=>decide$ O.1=k).map (·.2)
def dZ(S:List (κ×V))(k:κ)(v:V):List (κ×V) :=
 if(S.any λO=>decide$ O.1=k)=true then S.map (λO=>if O.1=k then(O.1,v)else O)else S++[(k,v)]
theorem zGy{p:κ×V}{r:List (κ×V)}{k:κ}(e:p.1=k):dX (p::r) k=some p.2:=by simp[dX,qCJ,e]
theorem zGz{p:κ×V}{r:List (κ×V)}{k:κ}(e:¬p.1=k):dX (p::r) k=dX r k:=by simp[dX,qCJ,e]
theorem zG0(k:κ):∀S:List (κ×V),(S.any λO=>decide$ O.1=k)=(dX S k).isSome
 |[]=>rfl
 |p::r=>by
  rw[qCI]
  by_cases e:p.1=k
  .simp only[zGy e,qAV e,Bool.true_or,Option.isSome_some]
  .rw [zGz e,qAZ e,Bool.false_or];exact zG0 k r
theorem zFi(S:List (κ×V))(k:κ)(v:V):(dZ S k v).length<=S.length+1:=by
 unfold dZ;split
 .rw [qAD];lia
 .rw [qAN,qAa,qBB];lia
theorem pN{S:List (κ×V)}{k:κ}(v:V)(h:dX S k=none):dZ S k v=S++[(k,v)]:=by
 unfold dZ;rw[zG0,h];exact qAB dD
theorem eP.isSome_eq{o:Option V}{u:Option Value}(r:eP o u):o.isSome=u.isSome:=by
 cases o with
 |none=>cases u with
  |none=>rfl
  |some _=>exact(show False from r).elim
 |some _=>cases u with
  |none=>exact(show False from r).elim
  |some _=>rfl
theorem KV.val{S:List (κ×V)}{vs:List (κ×Value)}(r:KV S vs)(k:κ):eP (dX S k) (valueAt vs k):=by
 unfold KV at r
 induction r with
 |nil=>exact True.intro
 |@cons p q ps qs h t W=>
  obtain⟨h1,h2⟩:=h
  by_cases e:p.1=k
  .have O:q.1=k:=h1.symm.trans e;have b:valueAt (q::qs) k=some q.2:=by simp[valueAt,qCJ,O]
   rw[zGy e,b];exact h2
  .have O:¬q.1=k:=λz=>e$ h1.trans z;have b:valueAt (q::qs) k=valueAt qs k:=by simp[valueAt,qCJ,O]
   rw[zGz e,b];exact W
theorem KV.any{S:List (κ×V)}{vs:List (κ×Value)}(r:KV S vs)(k:κ):(S.any λO=>decide$ O.1=k)=vs.any λO=>decide$ O.1=k:=by
 unfold KV at r
 induction r with
 |nil=>rfl
 |cons h t W=>rw[qCI,qCI,W,h.1]
theorem KV.repl{S:List (κ×V)}{vs:List (κ×Value)}(r:KV S vs)(k:κ)(W:dy y u) :
  KV (S.map λO=>if O.1=k then(O.1,y)else O) (vs.map λO=>if O.1=k then(O.1,u)else O):=by
 unfold KV at r ⊢
 induction r with
 |nil=>exact .nil
 |@cons p q ps qs h t ih=>
  rw[qAt,qAt];refine .cons ?_ ih;obtain⟨h1,h2⟩:=h
  by_cases e:p.1=k
  .rw [qAC e,qAC$ h1.symm.trans e];exact⟨h1,W⟩
  .rw [qAB e,qAB λz=>e$ h1.trans z];exact⟨h1,h2⟩
theorem KV.put{S:List (κ×V)}{vs:List (κ×Value)}(r:KV S vs)(k:κ)(O:dy y u):KV (dZ S k y) (stored vs k u):=by
 unfold dZ stored;rw[r.any k]
 by_cases e:(vs.any λW=>decide$ W.1=k)=true
 .rw [qAC e,qAC e];exact r.repl k O
 .rw [qAB e,qAB e];exact Paired.snoc r ⟨rF,O⟩
theorem KV.length{S:List (κ×V)}{vs:List (κ×Value)}(r:KV S vs):S.length=vs.length:=qCD r
end
theorem jq{P:Program}{k:Key}(r:dy (kV k) u):(zB5 P w).is k u=true:=by
 cases k with
 |inl i=>obtain⟨t,e⟩:=(show∃t,u=Value.int i t from r);subst e;exact jT P w i t
 |inr x=>obtain⟨t,e⟩:=(show∃t,u=Value.str x t from r);subst e;exact jZ P w x t
theorem gD{P:Program} :∀{ks:List Key}{us:List Value},dv (ks.map kV) us->ItemsAre (zB5 P w) ks us
 |[],_,r=>by rw[List.map_nil]at r;cases r;exact .nil
 |k::ks,_,r=>by
  rw[qAt]at r
  cases r with
  |cons h t=>exact .cons (jq h)$ gD t
abbrev KT(H:Hp):List (List Key×V)->List (List Key×Addr×Value)->Prop:=Paired λp q=>p.1=q.1/\H q.2.1=some (.tup$ p.1.map kV)/\dy p.2 q.2.2
theorem KT.val{S:List (List Key×V)}{xs:List (List Key×Addr×Value)}(r:KT H S xs)(k:List Key):eP (dX S k) ((atKey xs k).map (·.2)):=by
 induction r with
 |nil=>exact True.intro
 |@cons p q ps qs h t W=>
  obtain⟨h1,_,h2⟩:=h
  by_cases e:p.1=k
  .have O:q.1=k:=h1.symm.trans e;have b:atKey (q::qs) k=some q.2:=by simp[atKey,qCJ,O]
   rw[zGy e,b];exact h2
  .have O:¬q.1=k:=λz=>e$ h1.trans z;have b:atKey (q::qs) k=atKey qs k:=by simp[atKey,qCJ,O]
   rw[zGz e,b];exact W
theorem KT.repl{S:List (List Key×V)}{xs:List (List Key×Addr×Value)}(r:KT H S xs)(k:List Key)(W:dy y u) :
  KT H (S.map λO=>if O.1=k then(O.1,y)else O) (xs.map$ putAt k u):=by
 induction r with
 |nil=>exact .nil
 |@cons p q ps qs h t ih=>
  rw[qAt,qAt];refine .cons ?_ ih;obtain⟨h1,h2,h3⟩:=h;unfold putAt
  by_cases e:p.1=k
  .rw [qAC e,qAC$ h1.symm.trans e];exact⟨h1,h2,W⟩
  .rw [qAB e,qAB λz=>e$ h1.trans z];exact⟨h1,h2,h3⟩
theorem KT.put{S:List (List Key×V)}{xs:List (List Key×Addr×Value)}(r:KT H S xs)(k:List Key){b:Addr}(W:H b=some (.tup$ k.map kV))(O:dy y u) :
  KT H (dZ S k y) (storedH xs k b u):=by
 have e:(S.any λkv=>decide$ kv.1=k)=(atKey xs k).isSome:=by
  rw[zG0,(r.val k).isSome_eq,Option.isSome_map]
 unfold dZ storedH;rw[e]
 by_cases q:(atKey xs k).isSome=true
 .rw [qAC q,qAC q];exact r.repl k O
 .rw [qAB q,qAB q];exact Paired.snoc r ⟨rF,W,O⟩
theorem KT.keeps{S:List (List Key×V)}{xs:List (List Key×Addr×Value)}(r:KT H S xs)(O:∀b ys,H b=some (.tup ys)->H' b=some (.tup ys)):KT H' S xs :=
 Paired.mapP r λ_ _ z=>⟨z.1,O _ _ z.2.1,z.2.2⟩
section
variable{P:Program}{w:World}{H:Hp}{h:Heap}{a:Addr}
theorem uw{u:HO}(ok:HOk P w H h)(e:Rd H a u):zBq P w H h a u:=e.ok ok
theorem gm{S:List (Key×V)}(ok:HOk P w H h)(e:Rd H a (.dK S)):S.length<=sizeLine/\(a==sysModules)=false/\∃vs,KV S vs/\h.DictOf (zB5 P w) a vs :=
 show zBq P w H h a (.dK S)from uw ok e
theorem wO{S:List (Key×V)}(ok:HOk P w H h)(e:H a=some (.dK S)):S.length<=sizeLine/\(a==sysModules)=false/\∃vs,KV S vs/\h.DictOf (zB5 P w) a vs:=gm ok$ .inl e
theorem fT{ks:List Key}(ok:HOk P w H h)(e:H a=some (.tup$ ks.map kV)):(tupleKind$ zB5 P w).is h ks a:=by
 obtain⟨_,its,r,o,h1,h2,n,h3⟩:=(show zBq P w H h a (.tup$ ks.map kV)from ok a _ e);exact⟨o,its.toArray,n,h1,h2,h3,by simpa using gD r⟩
theorem jO{S:List (List Key×V)}(ok:HOk P w H h)(e:Rd H a (.dT S)):S.length<=sizeLine/\(a==sysModules)=false /\
  ∃xs,KT H S xs/\h.DictOfH (tupleKind$ zB5 P w) a xs:=by
 obtain⟨z,y,xs,r,o,es,ep,h1,h2,h3,h4,h5⟩:=(show zBq P w H h a (.dT S)from uw ok e);refine⟨z,y,xs,r,o,es,ep,h1,h2,h3,h4,λx O=>?_,h5⟩
 have all:∀{l:List (List Key×V)} {m:List (List Key×Addr×Value)},KT H l m->∀x∈m,(tupleKind$ zB5 P w).is h x.1 x.2.1:=by
  intro l m q
  induction q with
  |nil=>intro x O;exact nomatch O
  |@cons p q ps qs W t ih=>
   intro x O;rcases qAT.mp O with e|O
   .subst e;exact fT ok (by rw[<-W.1];exact W.2.1)
   .exact ih x O
 exact all r x O
theorem wD{S:List (List Key×V)}(ok:HOk P w H h)(e:H a=some (.dT S)):S.length<=sizeLine/\(a==sysModules)=false /\
  ∃xs,KT H S xs/\h.DictOfH (tupleKind$ zB5 P w) a xs:=jO ok$ .inl e
end
def dL(H:Hp)(a:Addr)(y:V)(r:Option V):Prop :=
 (∃S k,Rd H a (.dK S)/\y=kV k/\r=dX S k)\/∃S k b,Rd H a (.dT S)/\y= .ref b/\H b=some (.tup$ k.map kV)/\r=dX S k
def fA(H:Hp)(a:Addr)(y v:V)(H':Hp):Prop :=
 (∃S k,H a=some (.dK S)/\y=kV k/\S.length<sizeLine/\H'=upd H a (.dK$ dZ S k v)) \/
 ∃S k b,H a=some (.dT S)/\y= .ref b/\H b=some (.tup$ k.map kV)/\S.length<sizeLine/\H'=upd H a (.dT$ dZ S k v)
theorem dL.k{S:List (Key×V)}{k:Key}(e:H a=some (.dK S)):dL H a (kV k) (dX S k):=.inl ⟨S,k,.inl e,rF,rF⟩
theorem fA.k{S:List (Key×V)}{k:Key}{v:V}(e:H a=some (.dK S))(O:S.length<sizeLine):fA H a (kV k) v (upd H a$ .dK$ dZ S k v):=.inl ⟨S,k,e,rF,O,rF⟩
section
variable{X:Cx}{pins:List (Addr×Obj)}{σ:St}{H:Hp}{s:Shared}{a:Addr}{y v:V}{u r:Value}{o:Option V}{A:Around}{E:Value->Shared->Prop}
theorem Inv.big(I:Inv X pins σ H s):sysModules<s.heap.objs.size:=by
 have h:mainGlobals<s.heap.objs.size:=(I.mod.glob.keeps I.bk).lt;exact qCt dD h
theorem o_{Q:Value->Shared->Prop}(hu:A.units+1<cLine)(I:Inv X pins σ H s)(g:dL H a y (some v))(ry:dy y u)(h:∀W s',Inv X pins σ H s'->dy v W->Q W s') :
  wpAny (model X.prog X.w) A (getItem (.ref a) u) Q E s:=by
 rcases g with⟨V,k,e,ey,l⟩|⟨V,k,b,e,ey,eb,l⟩
 .subst ey;obtain⟨z,hd,vs,O,dd⟩:=gm I.hok e;obtain⟨W,hw,S⟩:=eP.some_of (v:=v) (o:=valueAt vs k) (by rw[l];exact O.val k);exact wpAny_getItem_of (jq ry) dd.mapOf hw$ h W _ (I.tok _) S
 .subst ey
  cases (show u=Value.ref b from ry)
  obtain⟨z,hd,xs,O,dd⟩:=jO I.hok e;obtain⟨W,hw,S⟩:=eP.some_of (v:=v) (o:=(atKey xs k).map (·.2)) (by rw[l];exact O.val k);obtain⟨p,hp,aa⟩:=qBU.mp hw;refine wpAny_getItem_heap (qCu hu) (fT I.hok eb) dd hp ?_;rw[aa];exact h W _ (I.tok _) S
theorem xL{Q:Value->Shared->Prop}(hu:A.units+1<cLine)(I:Inv X pins σ H s)(g:dL H a y o)(W:dy y u)(h:∀s',Inv X pins σ H s'->Q (.bool o.isSome) s') :
  wpAny (model X.prog X.w) A (compareOp .In u$ .ref a) Q E s:=by
 rcases g with⟨S,k,e,V,l⟩|⟨S,k,b,e,V,eb,l⟩
 .subst V;obtain⟨z,hd,vs,O,dd⟩:=gm I.hok e;refine wpAny_in_of (jq W) hd dd.mapOf ?_;rw[<-(O.val k).isSome_eq,<-l];exact h _$ I.tok _
 .subst V
  cases (show u=Value.ref b from W)
  obtain⟨z,hd,xs,O,dd⟩:=jO I.hok e;refine wpAny_in_heap (qCu hu) (fT I.hok eb) hd dd ?_;have q:=(O.val k).isSome_eq;rw[Option.isSome_map]at q;rw[<-q,<-l];exact h _$ I.tok _
theorem tr{Q:Value->Shared->Prop}(hu:A.units+1<cLine)(I:Inv X pins σ H s)(g:dL H a y o)(W:dy y u)(h:∀s',Inv X pins σ H s'->Q (.bool$ !o.isSome) s') :
  wpAny (model X.prog X.w) A (compareOp .NotIn u$ .ref a) Q E s:=by
 rcases g with⟨S,k,e,V,l⟩|⟨S,k,b,e,V,eb,l⟩
 .subst V;obtain⟨z,hd,vs,O,dd⟩:=gm I.hok e;refine wpAny_notIn_of (jq W) hd dd.mapOf ?_;rw[<-(O.val k).isSome_eq,<-l];exact h _$ I.tok _
 .subst V
  cases (show u=Value.ref b from W)
  obtain⟨z,hd,xs,O,dd⟩:=jO I.hok e;refine wpAny_notIn_heap (qCu hu) (fT I.hok eb) hd dd ?_;have q:=(O.val k).isSome_eq;rw[Option.isSome_map]at q;rw[<-q,<-l];exact h _$ I.tok _
theorem l_{h':Heap}{t':Nat}{O:HO}(I:Inv X pins σ H s)(S:Mut (H a))(hs:Heap.SameBut a s.heap h')(V:∃q,h'.get? a=some q)(new:zBq X.prog X.w (upd H a O) h' a O) :
  Inv X pins σ (upd H a O) {s with heap:=h',toks:=t'} :=
 I.write (x:=a) (e:=a) S (.inl rF) (λb q W z=>(hs.2 b W).trans z) V new
theorem vJ{P:Program}{h':Heap}{S:List (Key×V)}{vs:List (Key×Value)}(z:S.length<=sizeLine)(hd:(a==sysModules)=false)(O:KV S vs)(dd:h'.DictOf (zB5 P w) a vs) :
  zBq P w H' h' a (.dK S):=⟨z,hd,vs,O,dd⟩
theorem oj{Q:Unit->Shared->Prop}(hu:A.units+1<cLine)(I:Inv X pins σ H s)(g:fA H a y v H')(ry:dy y u)(rv:dy v r)(h:∀s',Inv X pins σ H' s'->Q () s') :
  wpAny (model X.prog X.w) A (setItem (.ref a) u r) Q E s:=by
 rcases g with⟨S,k,e,ey,l,eH⟩|⟨S,k,b,e,ey,eb,l,eH⟩
 .subst ey eH;obtain⟨z,hd,vs,O,dd⟩:=wO I.hok e;have hz:vs.length<=sizeLine:=by rw[<-O.length];exact z
  have hl:(dZ S k v).length<=sizeLine:=by have:=zFi S k v;lia
  refine wpAny_setItem_pairs (hsz:=hz) (jq ry) dd λh' V hs=>h _ ?_;have he:∃q,h'.get? a=some q:=let⟨q,_,_,W,_⟩:=V;⟨q,W⟩;exact l_ I (by rw[e];exact True.intro) hs he$ vJ hl hd (O.put k rv) V
 .subst ey eH
  cases (show u=Value.ref b from ry)
  obtain⟨z,hd,xs,O,dd⟩:=wD I.hok e;have hz:xs.length<=sizeLine:=by rw[<-qCD O];exact z
  have hl:(dZ S k v).length<=sizeLine:=by have:=zFi S k v;lia
  refine wpAny_setItem_heap (hsz:=hz) (qCu hu) (fT I.hok eb) dd λh' V hs=>h _ ?_;obtain⟨q,es,ep,W,h2,h3,h4,_,h5⟩:=V;refine l_ I (by rw[e];exact True.intro) hs ⟨q,W⟩ ⟨hl,hd,_,(O.put k eb rv).keeps λc ys ec=>?_,q,es,ep,W,h2,h3,h4,h5⟩;rw[a_$ zCp ec e λz=>nomatch z];exact ec
end
def wH(i:Expr):Prop:=∀O V,subscripted i false O V=operate [O,V] (getItem O V)
theorem sE{prog:Program}{A:Around}{E:Value->Shared->Prop}{s:Shared}{env:Env}{value S:Expr}{pos:Pos}{T id:String}{Q:Value->Shared->Prop}
  (hl:typeLookup (.type T) "__getitem__"=pure (some$ .builtin id)) (hs:wH S)
  (h:wpAny (model prog w) A (eval value env) (λo W=>wpAny (model prog w) A (eval S env) (λi O=>O.TypeIs o T/\wpAny (model prog w) A (getItem o i) Q E O) E W) E s) :
  wpAny (model prog w) A (eval (.Subscript value S pos) env) Q E s:=by
 refine Subscript_$ qAv h (λo W ad=>qAv ad (λi O V=>?_) λ_ _ x=>x) λ_ _ x=>x;obtain⟨hT,V⟩:=V;unfold subscriptTail;refine qAA ?_;rw[getitemInPython_of_ne hT.not_modules];refine qAA$ qCv hT hl ?_
 have fin:wpAny (model prog w) A (subscripted S false o i) (λr aa=>wpAny (model prog w) A (letTemporaryGo value o r >>= λ_=>pure r) Q E aa) E O:=by
  rw[hs o i];exact wpAny_operating$ qAv V (λr aa ae=>qAA$ wpAny_letTemporaryGo$ qAE ae) λ_ _ x=>x
 first
  |exact qAE$ qAA fin
  |exact qAA$ qAE$ qAA fin
  |exact qAA fin
theorem jy{X:Cx}{pins:List (Addr×Obj)}{σ:St}{s:Shared}{o:Option V}(I:Inv X pins σ H s)(g:dL H a y o):s.TypeIs (.ref a) "dict":= by
 rcases g with⟨S,k,e,_,_⟩|⟨S,k,b,e,_,_,_⟩
 .obtain ⟨_,_,vs,_,dd⟩:=gm I.hok e;exact dd.typeIs
 .obtain ⟨_,_,xs,_,dd⟩:=jO I.hok e;exact dd.typeIs
inductive qv(Q:VK)(x:V)(y:V)(H2:Hp):Prop
 |mk:∀a v,x= .ref a->dL H2 a y (some v)->Q v H2->qv Q x y H2
def wP(td ty:TE):TE:=λσ H Q=>td σ H λx H1=>ty σ H1 λy H2=>qv Q x y H2
inductive uo(Q:VK)(y:V)(x:V)(H2:Hp):Prop
 |mk:∀a o,x= .ref a->dL H2 a y o->Q (.bl o.isSome) H2->uo Q y x H2
def xI(ty td:TE):TE:=λσ H Q=>ty σ H λy H1=>td σ H1 λx H2=>uo Q y x H2
inductive ju(Q:VK)(y:V)(x:V)(H2:Hp):Prop
 |mk:∀a o,x= .ref a->dL H2 a y o->Q (.bl$ !o.isSome) H2->ju Q y x H2
def rX(ty td:TE):TE:=λσ H Q=>ty σ H λy H1=>td σ H1 λx H2=>ju Q y x H2
inductive rE(D:eI)(σ:St)(v:V)(x:V)(y:V)(H3:Hp):Prop
 |mk:∀a H4,x= .ref a->fA H3 a y v H4->D.nx σ H4->rE D σ v x y H3
def w8(td ty tv:TE):TS:=λD σ H=>tv σ H λv H1=>td σ H1 λx H2=>ty σ H2 λy O=>rE D σ v x y O
section
variable{X:Cx}{o i e value:Expr}{pos pos' tpos:Pos}{td ty tv:TE}
theorem zB8(V:X.A.units+1<cLine)(ho:PE X o td)(hi:PE X i ty)(hs:wH i):PE X (.Subscript o i pos) (wP td ty):=by
 intro pins s σ H Q I h;refine sE PySem.F.slot_dict_getitem.lookup hs$ thn (ho pins s σ H _ I h) λu W ⟨x,H1,I1,rx,q1⟩=>thn (hi pins W σ H1 _ I1 q1) λiv s2 ⟨y,H2,S,ry,a,v,ex,g,q2⟩=>?_;subst ex;obtain rfl:u=Value.ref a:=rx;exact⟨jy S g,o_ V S g ry λw' s3 I3 O=>⟨v,H2,I3,O,q2⟩⟩
theorem zHp(O:X.A.units+1<cLine)(hi:PE X i ty)(ho:PE X o td):PC X .In i o (xI ty td):=by
 intro pins s σ H Q I h;refine thn (hi pins s σ H _ I h) λiv S ⟨y,H1,V,W,q1⟩=>thn (ho pins S σ H1 _ V q1) λu s2 ⟨x,H2,I2,rx,a,ov,ex,g,q2⟩=>?_;subst ex;obtain rfl:u=Value.ref a:=rx;exact xL O I2 g W λs3 I3=>⟨.bl ov.isSome,H2,I3,rF,q2⟩
theorem zDa(O:X.A.units+1<cLine)(hi:PE X i ty)(ho:PE X o td):PC X .NotIn i o (rX ty td):=by
 intro pins s σ H Q I h;refine thn (hi pins s σ H _ I h) λiv S ⟨y,H1,V,W,q1⟩=>thn (ho pins S σ H1 _ V q1) λu s2 ⟨x,H2,I2,rx,a,ov,ex,g,q2⟩=>?_;subst ex;obtain rfl:u=Value.ref a:=rx;exact tr O I2 g W λs3 I3=>⟨.bl$ !ov.isSome,H2,I3,rF,q2⟩
theorem zD4(O:X.A.units+1<cLine)(ho:PE X o td)(hi:PE X i ty)(V:PE X value tv)(hs:swapsWith value (some$ .Subscript o i pos') pos.line X.env=pure false) :
  PS X (.Assign [.Subscript o i pos'] value pos) (w8 td ty tv):=by
 intro pins s σ H D I h;refine wpAny_Assign_Subscript (thn (V pins s σ H _ I h) λr S ⟨v,H1,W,rv,q1⟩=>thn (ho pins S σ H1 _ W q1) λu s2 ⟨x,H2,I2,rx,q2⟩=>thn (hi pins s2 σ H2 _ I2 q2) λiv s3 ⟨y,H3,I3,ry,a,H4,ex,g,q3⟩=>?_) hs;subst ex;obtain rfl:u=Value.ref a:=rx;exact oj O I3 g ry rv λs4 I4=>⟨σ,H4,I4,q3⟩
end
theorem qG{P:Program}(h:Heap)(O:sysModules<h.objs.size):zBq P w H (h.push {cls:=.type "dict",data:=.dict #[]}) h.objs.size (.dK []) :=
 ⟨qAi _,qBG.mpr$ qAh$ qAQ O,[],.nil,Heap.DictOf.new h⟩
def zIr:TE:=λ_ H Q=>∀p,H p=none->Q (.ref p) (upd H p$ .dK [])
section
variable{X:Cx}{pos:Pos}
theorem zBv:PE X (.Dict [] [] pos) zIr:=λpins s σ H Q I h=>
 wpAny_Dict_empty ⟨.ref s.heap.objs.size,_,I.laid (a:=s.heap.objs.size) (o:=.dK []) (t':=s.toks) (λ_ _ q=>qAM _ q) (qAG _)$ qG s.heap I.big,rF,h _$ I.hok.fresh$ qAG _⟩
end
end L2
set_option maxHeartbeats 4000000
namespace L2
open PySem PySem.Spec PyProof.Rows
variable{env:Env}{scope:Scope}{x:Str}{c:Addr}{X:Cx}{elt iter tg:Expr}{ifs:List Expr}{pos:Pos}{g:TG}{tt:TT}{te:TE}{wi:TI}{n:Nat}
def dN(env:Env):List (Str×NameKind)->List (Str×Addr)->List (Str×Addr)
 |[],S=>S
 |(n,k)::r,S=>if(k==NameKind.free)=true then(match env.cells.lookup n with|some c=>dN env r ((n,c)::S)|none=>dN env r S)else dN env r S
theorem zEy{env:Env}:∀(l:List (Str×NameKind)) (S:List (Str×Addr)),(∀x∈l,x.2= .free->∃c,env.cells.lookup x.1=some c) ->
  (forIn l S (fun (x:Str×NameKind) (S:List (Str×Addr))=>match x with
   |(name,O)=>if(O==NameKind.free)=true then(do let c<-cellOf env name;pure (ForInStep.yield$ (name,c)::S))else pure (ForInStep.yield S)):Sem (List$ Str×Addr))=pure (dN env l S)
 |[],_,_=>rfl
 |(n,k)::r,S,h=>by
  rw[List.forIn_cons];have W:∀x∈r,x.2= .free->∃c,env.cells.lookup x.1=some c:=λx hx=>h x$ qAX _ hx
  by_cases hk:(k==NameKind.free)=true
  .obtain ⟨c,hc⟩:=h (n,k) qAf (by simpa using hk)
   have V:dN env ((n,k)::r) S=dN env r ((n,c)::S):=by
    show(if(k==NameKind.free)=true then _ else _)=_;rw[qAC hk];have hc:env.cells.lookup n=some c:=hc;rw[hc]
   have e2:cellOf env n=pure c:=by
    have hc:env.cells.lookup n=some c:=hc;unfold cellOf;rw[hc]
   rw[V,<-zEy r ((n,c)::S) W];show(if(k==NameKind.free)=true then(do let c<-cellOf env n;pure (ForInStep.yield$ (n,c)::S))else pure (ForInStep.yield S)) >>= _=_;rw[qAC hk,e2,pure_bind,pure_bind]
  .have V:dN env ((n,k)::r) S=dN env r S:=by
    show(if(k==NameKind.free)=true then _ else _)=_;rw[qAB hk]
   rw[V,<-zEy r S W];show(if(k==NameKind.free)=true then(do let c<-cellOf env n;pure (ForInStep.yield$ (n,c)::S))else pure (ForInStep.yield S)) >>= _=_;rw[qAB hk,pure_bind]
theorem zF4(h:∀x∈scope.names,x.2= .free->∃c,env.cells.lookup x.1=some c):closureFor scope env=pure (dN env scope.names []):=by
 unfold closureFor;have e:=zEy (env:=env) scope.names [] h
 first
  |exact e
  |(refine Eq.trans ?_ e;rfl)
  |(rw[bind_pure];exact e)
  |simpa using e
theorem zDn :∀{l:List (Str×NameKind)} {V:List (Str×Addr)},(∀y d,V.lookup y=some d->env.cells.lookup y=some d)->(dN env l V).lookup x=some c->env.cells.lookup x=some c
 |[],V,h,e=>h x c e
 |(n,k)::r,V,h,e=>by
  unfold dN at e
  by_cases hk:(k==NameKind.free)=true
  .rw [qAC hk]at e
   cases q:env.cells.lookup n with
   |none=>rw[q]at e;exact zDn h e
   |some d=>
    rw[q]at e;refine zDn (λy z S=>?_) e;rw[qBV]at S
    cases O:y==n with
    |true=>
     rw[O]at S;have:y=n:=by simpa using O
     subst this;rw[q];exact S
    |false=>rw[O]at S;exact h y z S
  .rw [qAB hk]at e;exact zDn h e
theorem zE5(O:env.cells.lookup x=some c):∀{l:List (Str×NameKind)} {S:List (Str×Addr)},S.lookup x=some c->(dN env l S).lookup x=some c
 |[],_,h=>h
 |(n,k)::r,S,h=>by
  unfold dN
  by_cases hk:(k==NameKind.free)=true
  .rw [qAC hk]
   cases q:env.cells.lookup n with
   |none=>exact zE5 O h
   |some d=>
    refine zE5 O ?_;rw[qBV]
    cases V:x==n with
    |true=>
     have:x=n:=by simpa using V
     subst this;rw[<-q,O]
    |false=>exact h
  .rw [qAB hk];exact zE5 O h
theorem zF6(O:env.cells.lookup x=some c):∀{l:List (Str×NameKind)} {S:List (Str×Addr)},(x,NameKind.free)∈l->(dN env l S).lookup x=some c
 |[],_,h=>nomatch h
 |(n,k)::r,S,h=>by
  unfold dN;rcases qAT.mp h with e|h
  .cases e
   rw[qAC (show(NameKind.free==NameKind.free)=true by decide),O];exact zE5 O (by rw[qBV];simp)
  .by_cases hk:(k==NameKind.free)=true
   .rw [qAC hk]
    cases q:env.cells.lookup n with
    |none=>exact zF6 O h
    |some d=>exact zF6 O h
   .rw [qAB hk];exact zF6 O h
theorem zEb :∀{l:List (Str×NameKind)} {n:Nat} {acc:List (Str×Addr)},(∀y∈l,y.2= .cell->y.1≠x)->(cellsFrom n l acc).lookup x=acc.lookup x
 |[],_,_,_=>rfl
 |(y,k)::r,n,acc,h=>by
  have O:∀z∈r,z.2= .cell->z.1≠x:=λz S=>h z$ qAX _ S;unfold cellsFrom;split
  .rename_i V;rw[zEb O,qBV]
   have:(x==y)=false:=by
    have:=h (y,k) qAf (by simpa using V);exact qBG.mpr λz=>this z.symm
   rw[this]
  .exact zEb O
theorem zCg :∀{l:List (Str×NameKind)} {n:Nat} {acc:List (Str×Addr)},(cellsFrom n l acc).lookup x=some c->acc.lookup x=some c\/(n<=c/\(x,NameKind.cell)∈l)
 |[],_,_,h=>.inl h
 |(y,k)::r,n,acc,h=>by
  unfold cellsFrom at h;split at h
  .rename_i hk;have O:k= .cell:=by simpa using hk
   rcases zCg h with z|⟨S,V⟩
   .rw [qBV]at z
    cases W:x==y with
    |true=>
     rw[W]at z;have e:n=c:=qAb z;have e2:x=y:=by simpa using W
     subst e2;subst O;exact .inr ⟨qCU e,qAf⟩
    |false=>rw[W]at z;exact .inl z
   .exact .inr ⟨qAW (qB6 _) S,qAX _ V⟩
  .rcases zCg h with z|⟨S,V⟩
   .exact .inl z
   .exact .inr ⟨S,qAX _ V⟩
theorem zEc:∀{l:List (Str×NameKind)} {n:Nat} {acc:List (Str×Addr)},(∀x y c,acc.lookup x=some c->acc.lookup y=some c->x=y)->(∀z d,acc.lookup z=some d->d<n)->∀x y c,(cellsFrom n l acc).lookup x=some c->(cellsFrom n l acc).lookup y=some c->x=y
 |[],_,_,p,_=>p
 |(w,k)::r,n,acc,p,lt=>by
  unfold cellsFrom;split
  .refine zEc (l:=r) (n:=n+1) (acc:=(w,n)::acc) (λx y c h1 h2=>?_) λz d h=>?_
   .rw [qBV]at h1 h2
    cases S:x==w with
    |true=>
     rw[S]at h1;have W:n=c:=qAb h1
     cases O:y==w with
     |true=>exact(by simpa using S:x=w).trans (by simpa using O:y=w).symm
     |false=>
      rw[O]at h2;have:=lt y c h2;rw[<-W]at this;exact absurd this$ qA2 _
    |false=>
     rw[S]at h1
     cases O:y==w with
     |true=>
      rw[O]at h2;have e2:n=c:=qAb h2;have:=lt x c h1;rw[<-e2]at this;exact absurd this$ qA2 _
     |false=>rw[O]at h2;exact p x y c h1 h2
   .rw [qBV]at h
    cases V:z==w with
    |true=>
     rw[V]at h;have e:n=d:=qAb h;rw[<-e];exact qCV _
    |false=>
     rw[V]at h;exact qBs$ lt z d h
  .exact zEc p lt
theorem zCx :∀{l:List (Str×NameKind)} {h:Heap} {acc:List (Str×Addr)},(∀y d,acc.lookup y=some d->∃v,h.IsCell d v)->(cellsFrom h.objs.size l acc).lookup x=some c->∃v,(pushCells h l).IsCell c v
 |[],_,_,V,e=>V x c e
 |(y,k)::r,h,acc,V,e=>by
  unfold cellsFrom at e;unfold pushCells;split at e
  .rename_i W;rw[qAC W];have hs:(h.push {cls:=.type "cell",data:=.cell none}:Heap).objs.size=h.objs.size+1:=qBR ..;rw[<-hs]at e;refine zCx (λz d O=>?_) e;rw[qBV]at O
   cases S:z==y with
   |true=>
    rw[S]at O;have e:h.objs.size=d:=qAb O;subst e;exact⟨none,_,qAk _ rF,rF⟩
   |false=>
    rw[S]at O;obtain⟨v,o,ho,hd⟩:=V z d O;exact⟨v,o,qAM _ ho,hd⟩
  .rename_i W;rw[qAB W];exact zCx V e
theorem zDf{M:Model}{A:Around}{E:Value->Shared->Prop}{s:Shared}{globals:Addr}{W:List (Str×Addr)}{qual:Str}{outer:Env}{Q:Env->Shared->Prop}
  (h:Q (newEnv scope s.heap.objs.size globals (cellsFrom (s.heap.objs.size+1) scope.names W) qual none .none (some outer) builtinsNs) {s with heap:=pushCells (s.heap.push {cls:=.type "dict",data:=.dict #[]}) scope.names}) :
  wpAny M A (newFunctionEnv scope globals W [] qual none .none$ some outer) Q E s:=by
 simp only[newFunctionEnv,Option.isSome_some,if_true];refine qAA$ wpAny_alloc ?_;refine qAA$ wpAny_layCells _ (λname O S=>by cases V:O==NameKind.cell<;>simp[V]) _ _ _ _ ?_;rw[show({s with heap:=s.heap.push {cls:=.type "dict",data:=.dict #[]}}:Shared).heap.objs.size=s.heap.objs.size+1 from qBR ..];rw[List.forIn_nil];exact qAA$ qAE$ qAE h
theorem zF5 :∀{l:List (Str×NameKind)} {S:List (Str×Addr)},(∀y∈l,y.2= .free->y.1≠x)->(dN env l S).lookup x=S.lookup x
 |[],_,_=>rfl
 |(n,k)::r,S,h=>by
  have O:∀z∈r,z.2= .free->z.1≠x:=λz V=>h z$ qAX _ V;unfold dN
  by_cases hk:(k==NameKind.free)=true
  .rw [qAC hk];have W:(x==n)=false:=qBG.mpr λz=>h (n,k) qAf (by simpa using hk) z.symm
   cases q:env.cells.lookup n with
   |none=>exact zF5 O
   |some d=>
    rw[show(dN env r$ (n,d)::S).lookup x=((n,d)::S).lookup x from zF5 O,qBV,W]
  .rw [qAB hk];exact zF5 O
def Cx.block(X:Cx)(scope:Scope)(C:Addr)(s₀:Shared)(H₀:Hp)(ex:List Addr)(N:List Str):Cx where
 prog:=X.prog
 w:=X.w
 K:=X.K
 mg:=X.mg
 base:=X.base
 A:=X.A
 N:=N
 s₀:=s₀
 H₀:=H₀
 env:=compEnvC scope (cellsFrom (C+1) scope.names$ dN X.env scope.names []) C X.env
 outer:=X.stack
 stack:=X.stack
 ex:=ex
 fn:=λx=>scope.names.lookup x==some .cell
 calm:=X.calm
 pn:=[]
 xe:=λ_ _=>False
structure fG(X:Cx)(scope:Scope):Prop where
 kind:scope.kind= .function
 apart:∀y∈scope.names,∀z∈scope.names,y.2= .cell->z.2= .free->y.1≠z.1
 owns:∀y∈scope.names,y.2= .cell->scope.names.lookup y.1=some .cell
 free:∀y∈scope.names,y.2= .free->X.env.kindOf y.1=some .cell\/X.env.kindOf y.1=some .free
 locs:∀y∈scope.names,y.2= .local->scope.names.lookup y.1=some .local
theorem zDj{scope:Scope}{k:NameKind}:∀{l:List (Str×NameKind)}, 
  (l.map λ(n,k)=>if(k==NameKind.free&&env.scope.kind== .function&&env.kindOf n==some .cell)then(n,NameKind.cell)else(n,k)).lookup x=some k ->
  k= .cell\/k= .free->∃O,(x,O)∈l/\(O= .cell\/O= .free)
 |[],h,_=>by simp at h
 |(n,j)::r,h,V=>by
  have h:List.lookup x ((if(j==NameKind.free&&env.scope.kind== .function&&env.kindOf n==some .cell)=true then(n,NameKind.cell)else(n,j))::(r.map λ(n,k)=>if(k==NameKind.free&&env.scope.kind== .function&&env.kindOf n==some .cell)then(n,NameKind.cell)else(n,k)))=some k:=h
  by_cases hc:(j==NameKind.free&&env.scope.kind== .function&&env.kindOf n==some .cell)=true
  .rw [qAC hc,qBV]at h
   have W:j= .free:=by
    simp only[qBS]at hc;simpa using hc.1.1
   cases S:x==n with
   |true=>
    have:x=n:=by simpa using S
    subst this;exact⟨j,qAf,.inr W⟩
   |false=>
    rw[S]at h;obtain⟨O,m,q⟩:=zDj (scope:=scope) h V;exact⟨O,qAX _ m,q⟩
  .rw [qAB hc,qBV]at h
   cases S:x==n with
   |true=>
    rw[S]at h;have e:j=k:=qAb h;have:x=n:=by simpa using S
    subst this;exact⟨j,qAf,by rw[e];exact V⟩
   |false=>
    rw[S]at h;obtain⟨O,m,q⟩:=zDj (scope:=scope) h V;exact⟨O,qAX _ m,q⟩
inductive du(X:Cx)(scope:Scope):List Str->List (Option Nat)->Prop
 |nil:du X scope [] []
 |own {x:Str} {N:List Str} {ix:List (Option Nat)}:du X scope N ix->du X scope (x::N) (Option.none::ix)
 |tk {x:Str} {N:List Str} {ix:List (Option Nat)} {i:Nat} (hN:X.N[i]?=some x) (hv:Vis X.env.scope x) (hk:(relabel scope X.env).names.lookup x=some .cell\/(relabel scope X.env).names.lookup x=some .free) (hf:(x,NameKind.free)∈scope.names) :
   du X scope N ix->du X scope (x::N) (some i::ix)
def zDr(σ:St)(ix:List (Option Nat)):St:=ix.map λo=>o.bind λi=>(σ[i]?).join
theorem du.len{N:List Str}{ix:List (Option Nat)}(D:du X scope N ix):ix.length=N.length:=by
 induction D with
 |nil=>rfl
 |own _ O=>simp[O]
 |tk _ _ _ _ _ O=>simp[O]
theorem du.get{N:List Str}{ix:List (Option Nat)}{σ:St}(D:du X scope N ix):∀(j:Nat)(x:Str)(v:V),N[j]?=some x->(zDr σ ix)[j]?=some (some v) ->
  ∃(i:Nat),X.N[i]?=some x/\σ[i]?=some (some v)/\Vis X.env.scope x/\((relabel scope X.env).names.lookup x=some .cell\/(relabel scope X.env).names.lookup x=some .free)/\(x,NameKind.free)∈scope.names:=by
 induction D with
 |nil=>intro j x v h;simp at h
 |own d O=>
  intro j x v h1 h2
  cases j with
  |zero=>simp[zDr]at h2
  |succ j=>exact O j x v (by simpa using h1) (by simpa[zDr]using h2)
 |@tk y N ix i S W hk hf d O=>
  intro j x v h1 h2
  cases j with
  |zero=>
   have e:y=x:=by simpa using h1
   subst e;refine⟨i,S,?_,W,hk,hf⟩;have h2:((σ[i]?).join)=some v:=by simpa[zDr]using h2
   cases q:σ[i]? with
   |none=>rw[q]at h2;cases h2
   |some o=>rw[q]at h2;exact qAl some h2
  |succ j=>exact O j x v (by simpa using h1) (by simpa[zDr]using h2)
section
variable{X:Cx}{pins:List (Addr×Obj)}{σ:St}{H:Hp}{s:Shared}{scope:Scope}{N:List Str}{ix:List (Option Nat)}{fp:List Addr}
theorem Inv.nostk(I:Inv X pins σ H s){b:Addr}(h1:b≠X.env.locals)(h2:b∉X.fs):b∉frs X.stack:=λz=>(qAT.mp$ I.stkSub b z).elim h1 h2
theorem Inv.blockStart{h':Heap}{tk:Nat}{m:Str->Option Value}(I:Inv X pins σ H s)(B:fG X scope)(D:du X scope N ix)(O:∀b∈fp,eS X pins H b)(V:∀b∈fp,∃o,s.heap.get? b=some o)
  (aa:h'.Ns s.heap.objs.size m) (hk:∀b o,s.heap.get? b=some o->h'.get? b=some o) (ad:∀x c,(cellsFrom (s.heap.objs.size+1) scope.names$ dN X.env scope.names []).lookup x=some c->∃v,h'.IsCell c v) :
  Inv (X.block scope s.heap.objs.size s H fp N) (X.pn++pins) (zDr σ ix) H {s with heap:=h',toks:=tk}:=by
 have sub:∀{x:Str}{c:Addr},(dN X.env scope.names []).lookup x=some c->X.env.cells.lookup x=some c:=λ{x c} e=>zDn (λy d z=>by simp at z) e
 have old:∀{x:Str}{c:Addr},(dN X.env scope.names []).lookup x=some c->c<s.heap.objs.size:=λ{x c} e=>by
  obtain⟨v,o,ho,_⟩:=I.cell x c$ sub e;exact qAI ho
 have two:∀{x:Str}{c:Addr},(cellsFrom (s.heap.objs.size+1) scope.names$ dN X.env scope.names []).lookup x=some c->X.env.cells.lookup x=some c\/s.heap.objs.size<c:=λ{x c} e=>by
  rcases zCg e with z|⟨z,_⟩
  .exact .inl$ sub z
  .exact .inr z
 have W:∀{x:Str},(x,NameKind.free)∈scope.names->(cellsFrom (s.heap.objs.size+1) scope.names$ dN X.env scope.names []).lookup x=(dN X.env scope.names []).lookup x:=λ{x} hx=>zEb λy hy e=>B.apart y hy _ hx e rF
 have ae:(X.block scope s.heap.objs.size s H fp N).Ok:=by
  refine⟨I.ok.mod,B.kind,I.ok.glob,I.ok.blt,qAG _,zEc (λx y c h1 h2=>I.ok.inj x y c (sub h1)$ sub h2) λz d h=>qBs$ old h,λx hx=>?_,(λx c z e=>?_),I.ok.hd,I.ok.frames,.inl rF,λb S=>⟨?_,λx c e=>?_⟩,I.bs,qAW I.ok.bsz I.sz,λb o e S=>?_,λb S=>I.nostk (O b S).2.1 (O b S).2.2.1,I.stack,I.stkFree⟩
  .have af:(relabel scope X.env).names.lookup x=some .cell\/(relabel scope X.env).names.lookup x=some .free:=hx
   have key:∃k',(x,k')∈scope.names/\(k'= .cell\/k'= .free):=by
    rcases af with e|e
    .exact zDj (scope:=scope) e$ .inl rF
    .exact zDj (scope:=scope) e$ .inr rF
   obtain⟨k',m1,q⟩:=key;rcases q with q|q
   .subst q;exact Option.isSome_iff_exists.mp$ qCo _ _ _$ .inl$ B.owns _ m1 rF
   .subst q;obtain⟨c,hc⟩:=I.ok.has x$ B.free _ m1 rF;exact⟨c,(W m1).trans$ zF6 hc m1⟩
  .rcases zCg e with q|⟨q,_⟩
   .have z:scope.names.lookup x=some .cell:=by
     have z:(scope.names.lookup x==some NameKind.cell)=true:=z;simpa using z
    have hm:=qCH z;have:(x,NameKind.free)∈scope.names\/True:=.inr trivial
    exact absurd q (by
     rw[zF5 λy hy e1 e2=>B.apart _ hm y hy rF e1 e2.symm];intro h;cases h)
   .exact qCR q
  .obtain ⟨o,e⟩:=V b S;exact qAQ$ qAI e
  .rcases two e with z|z
   .exact (O b S).2.2.2.2.1 x c z
   .obtain ⟨o,e⟩:=V b S;exact qA4$ qCt (qAI e) z
  .rcases (O b S).2.2.2.1 with z|z
   .exact I.ok.noex b o e z
   .exact absurd (qAj (qAI (I.ok.bs b o e).1) z)$ qA2 _
 refine⟨ae,rF,I.bare,Un.kept hk,⟨m,aa,λj x v h1 h2 h3=>?_⟩,λx c e=>?_,I.hok.fresh$ qAG _,λx c e=>(two e).elim (λz=>I.freeC x c z) λz=>I.hok.fresh$ qCR z,λp hp=>?_,I.hok.kept hk,?_⟩
 .obtain ⟨i,e1,e2,ag,kd,fr⟩:=D.get j x v h1 h2;obtain⟨m0,ai,hl⟩:=I.loc;obtain⟨u,r,l⟩:=hl i x v e1 e2 ag;refine⟨u,r,?_⟩;rcases l with⟨k,_⟩|⟨_,c,hc,o,ho,hd⟩
  .rcases B.free _ fr rF with z|z
   .have z:X.env.kindOf x=some .cell:=z;rw[k]at z;cases z
   .have z:X.env.kindOf x=some .free:=z;rw[k]at z;cases z
  .exact .inr ⟨kd,c,(W fr).trans$ zF6 hc fr,o,hk c o ho,hd⟩
 .exact ad x c e
 .have ah:p∈X.pn++pins:=by simpa[Cx.block]using hp
  obtain⟨e,n,ne,nf,d⟩:=I.pin p ah;exact⟨hk _ _ e,n,qAQ$ qAI e,I.nostk ne nf,d⟩
 .show (zDr σ ix).length=N.length;unfold zDr;rw[qAD];exact D.len
end
def PTs(X:Cx)(ifs:List Expr)(t:TT):Prop :=
 ∀(pins:List (Addr×Obj)) (s:Shared) (σ:St) (H:Hp) (Q:Bool->Hp->Prop),Inv X pins σ H s->t σ H Q ->
  wpAny (model X.prog X.w) X.A (forIn ifs true λc r=>if r=true then do let ok<-isTrue c X.env (eval c X.env);pure (ForInStep.yield ok)else pure (ForInStep.yield r)) (TP X pins σ Q) X.xe s
def jd:TT:=λ_ H Q=>Q true H
theorem zCm :PTs X [] jd:=λ_ _ _ H _ I h=>wpAny_tests_nil ⟨H,I,h⟩
theorem zCl{c:Expr}{t:TT}(h:PT X c t):PTs X [c] t:=λpins s σ H Q I hw=>wpAny_tests_one$ h pins s σ H Q I hw
theorem g_{prog:Program}{w:World}{A:Around}{R:Result->Shared->Prop}{s:Shared}{elt O iter:Expr}{ifs:List Expr}{scope:Scope}{pos:Pos}{it acc:Value}{env:Env}(I:Nat->Shared->Prop)
  (ai:∀n s,I n s->wpAny (model prog w) A (pyNext it) (fun r S=>match r with
   |none=>R (.ok .next) S
   |some v=>wpAny (model prog w) A (letOwnedTupleGo O it v) (λ_ V=>wpAny (model prog w) A (assign O env v) (λ_ aa =>
     wpAny (model prog w) A (forIn ifs true λc r=>if r=true then do let ok<-isTrue c env (eval c env);pure (ForInStep.yield ok)else pure (ForInStep.yield r)) (λok W =>
      if ok=true then wpAny (model prog w) A (eval elt env) (λx ad =>
       wpAny (model prog w) A (call (.builtin "list.append") [acc,x]) (λ_ ae=>∃m,m<n/\I m ae) (λ_ _=>False) ad) (λ_ _=>False) W
      else∃m,m<n/\I m W) (λ_ _=>False) aa) (λ_ _=>False) V) (λ_ _=>False) S) (λ_ _=>False) s)
  (n:Nat) (h:I n s) :
  codeAny (model prog w) A (.compLoop (.ListComp elt [⟨O,iter,ifs,0⟩] scope pos) 0 it acc env) R s:=by
 refine codeAny_loop rF I (λn s hI=>?_) n h;show wpAny _ A ((compTurn (.ListComp elt [⟨O,iter,ifs,0⟩] scope pos) 0 it acc env).onRaise λx=>do noteFrame x env;theTreesLotGoes x) _ _ s;refine wpAny_noted ?_;rw[compTurn_list];refine qAA$ qCm$ qAA$ qAv (ai n s hI) (λr S af=>?_) λ_ _ h'=>h'.elim
 cases r with
 |none=>exact qAE af
 |some v=>
  refine qAA$ qAv af (λ_ V ah=>?_) λ_ _ h'=>h'.elim;refine qAA$ qAv ah (λ_ aa aj=>qAA$ qAv aj (λok W ag=>?_) λ_ _ h'=>h'.elim) λ_ _ h'=>h'.elim
  cases ok with
  |false=>exact qAE ⟨rF,ag⟩
  |true=>
   exact qAA$ qAA$ qAv ag (λx ad ak=>qAA$ qAv ak (λ_ ae al=>qAE$ qAE ⟨rF,al⟩) λ_ _ h'=>h'.elim) λ_ _ h'=>h'.elim
def ja(wi:TI)(ix:List (Option Nat))(g:TG)(tt:TT)(te:TE):TE:=λσ H Q=>wi σ H λJ H1=>∀D,H1 D=none->∃W:Nat->Nat->List V->St->Hp->Prop,
 (∃m,W 0 m [] (zDr σ ix) (upd H1 D$ .lst []))/\∀i m ys τ H2,W i m ys τ H2 ->
  (J.stop i H2/\Q (.ref D) H2)\/(J.go i H2/\∃N:List V->St->Hp->Prop,(∀S O H',N S O H'->∃m',m'<m/\W (i+1) m' S O H')/\∀x H3,J.yld i H2 x H3->g x τ H3 λO H4=>tt O H4 λb H5=>if b=true then te O H5 λv H6=>H6 D=some (.lst ys)/\ys.length<sizeLine/\N (ys++[v]) O (upd H6 D$ .lst$ ys++[v]) else N ys O H5)
theorem kF{Y:Cx}{J:It}{fp:List Addr}{it D:Addr}{tn:Nat->Heap->Prop}{P:List (Addr×Obj)}{W:Nat->Nat->List V->St->Hp->Prop}{m0:Nat}
  {R:Result->Shared->Prop} {QD:Hp->Prop} {s4:Shared} {af:St} {H4:Hp}
  (hc:Y.calm=true) (hx:∀e s,Y.xe e s->False) (hg:PG Y tg g) (ht:PTs Y ifs tt) (he:PE Y elt te) (T:jz Y.prog Y.w Y.K tg J fp it tn)
  (ae:∀{H':Hp},(∀b∈fp,H' b=none)->∀b∈fp,eS Y P H' b)
  (ah:∀i m ys O H2,W i m ys O H2->(J.stop i H2/\QD H2)\/(J.go i H2/\∃N:List V->St->Hp->Prop,(∀aa S H',N aa S H'->∃m',m'<m/\W (i+1) m' aa S H')/\∀x H3,J.yld i H2 x H3->g x O H3 fun S H4=>tt S H4 fun b H5 =>
   if b=true then te S H5 λv H6=>H6 D=some (.lst ys)/\ys.length<sizeLine/\N (ys++[v]) S (upd H6 D$ .lst$ ys++[v])
   else N ys S H5))
  (fin:∀O H' s',Inv Y P O H' s'->QD H'->R (.ok .next) s')
  (I0:Inv Y P af H4 s4) (t0:tn 0 s4.heap) (n0:∀b∈fp,H4 b=none) (w0:W 0 m0 [] af H4) :
  codeAny (model Y.prog Y.w) Y.A (.compLoop (.ListComp elt [⟨tg,iter,ifs,0⟩] scope pos) 0 (.ref it) (.ref D) Y.env) R s4:=by
 have nx:∀{α:Type}{t:Sem α}{Q:α->Shared->Prop}{s:Shared},wpAny (model Y.prog Y.w) Y.A t Q Y.xe s->wpAny (model Y.prog Y.w) Y.A t Q (λ_ _=>False) s:=λh=>qAv h (λ_ _ q=>q) hx;refine g_ (λn s'=>∃i ys O H',Inv Y P O H' s'/\tn i s'.heap/\(∀b∈fp,H' b=none)/\W i n ys O H') ?_ m0 ⟨0,[],af,H4,I0,t0,n0,w0⟩;rintro n s5 ⟨i,ys,O,H5,I5,ai,aj,w5⟩;rcases ah i n ys O H5 w5 with⟨ak,q⟩|⟨go,N,hN,step⟩
 .refine thn (T.done Y rF rF rF hc i P s5 O H5 _ I5 (ae aj) ai ak) λr s6 ⟨hr,I6⟩=>?_;subst hr;exact fin O H5 s6 I6 q
 .refine thn (T.item Y rF rF rF hc i P s5 O H5 _ I5 (ae aj) ai go) λr s6 ⟨u,hr,h6⟩=>?_;subst hr;refine thn h6 λ_ s7 ⟨x,H7,I7,r7,y7,ag,am⟩=>?_;have an:=I7.pinned (ae am)$ T.obj _ _ ag;refine nx$ thn (hg _ s7 O H7 x u _ an r7$ step x H7 y7) λ_ s8 ⟨ad,H8,I8,q8⟩=>?_;refine nx$ thn (ht _ s8 ad H8 _ I8 q8) λok s9 ⟨H9,I9,q9⟩=>?_
  have again:∀{aa:List V}{H':Hp}{s':Shared},Inv Y (P++zIu fp s7.heap) ad H' s'->(∃m',m'<n/\W (i+1) m' aa ad H')->∃m,m<n/\∃i ys O H',Inv Y P O H' s'/\tn i s'.heap/\(∀b∈fp,H' b=none)/\W i m ys O H':=λ{aa H' s'} I' ⟨m',hm,w'⟩=>by
   refine⟨m',hm,i+1,aa,ad,H',I'.unpinned,T.keep _ _ _ ag λb hb o e=>(I'.pin (b,o)$ qAs _$ qAs _$ zC4 hb e).1,λb hb=>?_,w'⟩;obtain⟨o,e,d⟩:=T.obj _ _ ag b hb;exact(I'.pin (b,o)$ qAs _$ qAs _$ zC4 hb e).2.1
  cases ok with
  |false=>
   rw[qAB qAd]at q9 ⊢;exact again I9$ hN _ _ _ q9
  |true=>
   rw[qAC rF]at q9 ⊢;refine nx$ thn (he _ s9 ad H9 _ I9 q9) λy ao ⟨v,al,ap,aq,hD,hz,ar⟩=>?_;refine nx$ thn (zCb (X:=Y) _ ao ad al (.ref D) [v] (.ref D) [y] (λ_ H'=>H'=upd al D (.lst$ ys++[v])) ap rF (.cons aq .nil) ⟨D,ys,v,rF,rF,hD,hz,rF⟩) λ_ aw ⟨z,ax,au,_,av⟩=>?_;subst av;exact again au$ hN _ _ _ ar
theorem jP{pos p1:Pos}{N:List Str}{ix:List (Option Nat)}{pins:List (Addr×Obj)}{s:Shared}{σ:St}{H:Hp}{Q:VK}{use:Option (Value->Sem Unit)}
  {Z:Value->Shared->Prop}
  (hc:X.calm=true) (B:fG X scope) (Dr:du X scope N ix) (hi:PI X tg iter wi)
  (hg:∀C s₀ H₀ ex,PG (X.block scope C s₀ H₀ ex N) tg g) (ht:∀C s₀ H₀ ex,PTs (X.block scope C s₀ H₀ ex N) ifs tt) (he:∀C s₀ H₀ ex,PE (X.block scope C s₀ H₀ ex N) elt te)
  (hs:∀x,foldedSetIterable iter X.env x=pure x)
  (I:Inv X pins σ H s) (h:ja wi ix g tt te σ H Q)
  (fin:∀(D C:Addr) (H':Hp) (s':Shared) (m:Str->Option Value),Inv X pins σ H' s'->Q (.ref D) H'->s'.heap.Ns C m->(∀h',Heap.SameBut C s'.heap h'->Inv X pins σ H' {s' with heap:=h'})->C≠X.env.locals->(∀x c,X.env.cells.lookup x=some c->c≠C)->H' C=none ->
   (∀p∈X.pn++pins,p.1≠C)->X.s₀.heap.objs.size<=C->compPost (model X.prog X.w) X.A X.xe use Z (.ref D) C (.ok .next) s') :
  wpAny (model X.prog X.w) X.A (comprehension (.ListComp elt [⟨tg,iter,ifs,0⟩] scope pos) scope X.env p1 (newList []) false (eval iter X.env) use) Z X.xe s:=by
 have ad:∀x∈scope.names,x.2= .free->∃c,X.env.cells.lookup x.1=some c:=λx hx e=>I.ok.has _$ B.free x hx e;refine wpAny_comprehension_free (use:=use) rF hs (zF4 ad) B.kind B.locs ?_;refine thn (hi pins s σ H _ I h) λv s1 h1=>thn h1 λaw s2 h2=>?_;obtain⟨it,fp,tn,J,H2,e,I2,T,ae,f2,R⟩:=h2;subst e;have aq:H2 s2.heap.objs.size=none:=I2.hok.fresh$ qAG _;obtain⟨W,⟨m0,w0⟩,af⟩:=R _ aq;refine qBa ?_ (by show(0:Nat)<=sizeLine;exact qAi _);have V:Inv X pins σ (upd H2 s2.heap.objs.size$ .lst []) {s2 with heap:=s2.heap.push {cls:=.type "list",data:=.seq ([]:List Value).toArray}}:=I2.lnew (t':=s2.toks) (ys:=[]) (its:=[]) .nil$ qAi _;generalize hD:s2.heap.objs.size=D at *
 have ag:∀b∈fp,∃o,s2.heap.get? b=some o:=λb O=>let⟨o,q,_⟩:=T.obj _ _ ae b O;⟨o,q⟩
 have ar:∀b∈fp,b≠D:=λb O=>by
  obtain⟨o,q⟩:=ag b O;rw[<-hD];exact qAQ$ qAI q
 have f3:∀b∈fp,eS X pins (upd H2 D$ .lst []) b:=λb O=>⟨by rw[a_$ ar b O];exact(f2 b O).1,(f2 b O).2⟩;generalize au:({s2 with heap:=s2.heap.push {cls:=.type "list",data:=.seq ([]:List Value).toArray}}:Shared)=s3 at V ⊢;have ah:∀b o,s2.heap.get? b=some o->s3.heap.get? b=some o:=λb o q=>by rw[<-au];exact qAM _ q
 have S:∀b∈fp,∃o,s3.heap.get? b=some o:=λb O=>let⟨o,q⟩:=ag b O;⟨o,ah b o q⟩;have st3:tn 0 s3.heap:=T.keep _ _ _ ae λb O o q=>ah b o q;refine zDf ?_;have ai:∀b o,s3.heap.get? b=some o->(pushCells (s3.heap.push {cls:=.type "dict",data:=.dict #[]}) scope.names).get? b=some o:=λb o q=>qCw _ _ b o$ qAM _ q;have aj:(pushCells (s3.heap.push {cls:=.type "dict",data:=.dict #[]}) scope.names).Ns s3.heap.objs.size (λ_=>none):=(Heap.Ns.new s3.heap$ .type "dict").keeps$ qCw _ _
 have ak:∀x c,(cellsFrom (s3.heap.objs.size+1) scope.names$ dN X.env scope.names []).lookup x=some c->∃v,(pushCells (s3.heap.push {cls:=.type "dict",data:=.dict #[]}) scope.names).IsCell c v:=λx c e=>by
  refine zCx (h:=s3.heap.push {cls:=.type "dict",data:=.dict #[]}) (acc:=dN X.env scope.names []) (λy d hy=>?_) (by rw[qBR];exact e);obtain⟨v,o,ho,hd⟩:=V.cell y d$ zDn (λy d z=>by simp at z) hy;exact⟨v,o,qAM _ ho,hd⟩
 have IB:=V.blockStart (tk:=s3.toks) B Dr f3 S aj ai ak;generalize ax:pushCells (s3.heap.push {cls:=.type "dict",data:=.dict #[]}) scope.names=h4 at *
 generalize hC:s3.heap.objs.size=C at *
 have al:X.s₀.heap.objs.size<=C:=by rw[<-hC];exact V.sz
 have CL:C≠X.env.locals:=by rw[<-hC];exact qA4 V.lt
 have Cc:∀x c,X.env.cells.lookup x=some c->c≠C:=λx c q=>by
  obtain⟨v,o,ho,_⟩:=V.cell x c q;rw[<-hC];exact qAQ$ qAI ho
 have Cp:∀p∈X.pn++pins,p.1≠C:=λp hp=>by
  rw[<-hC];exact qAQ$ qAI (V.pin p hp).1
 have av:∀b∈fp,b≠C:=λb O=>by
  obtain⟨o,q⟩:=S b O;rw[<-hC];exact qAQ$ qAI q
 have am:∀{H':Hp},(∀b∈fp,H' b=none)->∀b∈fp,eS (X.block scope C s3 (upd H2 D$ .lst []) fp N) (X.pn++pins) H' b:=λ{H'} hn b O=>by
  obtain⟨_,q1,q2,q3,q4,q5⟩:=f2 b O;exact⟨hn b O,av b O,V.nostk q1 q2,.inl O,λx c e=>(zCg e).elim (λz=>q4 x c$ zDn (λy d z=>by simp at z) z) (λz=>by obtain⟨o,q⟩:=S b O;have:=qAI q;rw[hC]at this;exact qA4$ qAj (qBs this) z.1),λp hp=>q5 p$ by simpa[Cx.block]using hp⟩
 have an:tn 0 h4:=T.keep _ _ _ st3 λb O o q=>ai b o q;have n4:∀b∈fp,(upd H2 D$ .lst []) b=none:=λb O=>(f3 b O).1
 have aa:=kF (Y:=X.block scope C s3 (upd H2 D$ .lst []) fp N) (iter:=iter) (pos:=pos) (scope:=scope) (D:=D) (R:=compPost (model X.prog X.w) X.A X.xe use Z (.ref D) C) hc (λ_ _ z=>z) (hg C s3 _ fp) (ht C s3 _ fp) (he C s3 _ fp) T am af
  (fun τ H' s' I' q=>by
   have I5:Inv X pins σ H' s':=V.call' (ch:=fp) I'.os I'.base I'.hok I'.bare λb O=>by
    obtain⟨_,q1,q2,q3,q4,q5⟩:=f2 b O;exact⟨q3,q1,q4,q5⟩
   obtain⟨m,hn,_⟩:=I'.loc;have ao:H' C=none:=I'.free;exact fin D C H' s' m I5 q hn (λay ap=>I5.turned (t':=s'.toks) (λb o O e=>ap.extBut b o O e) ao CL (.inr al) Cc Cp) CL Cc ao Cp al) IB an n4 w0
 exact codeAny_compStart_list aa$ T.self _ 0 _ _ _ an aa
theorem zBn{N:List Str}{ix:List (Option Nat)}(hc:X.calm=true)(B:fG X scope)(S:du X scope N ix)(hi:PI X tg iter wi)
  (V:∀C s₀ H₀ ex,PG (X.block scope C s₀ H₀ ex N) tg g) (W:∀C s₀ H₀ ex,PTs (X.block scope C s₀ H₀ ex N) ifs tt) (he:∀C s₀ H₀ ex,PE (X.block scope C s₀ H₀ ex N) elt te)
  (hs:∀x,foldedSetIterable iter X.env x=pure x:=by intro _;rfl):PE X (.ListComp elt [⟨tg,iter,ifs,0⟩] scope pos) (ja wi ix g tt te):=by
 intro pins s σ H Q I h;rw[eval_ListComp];exact jP (use:=none) hc B S hi V W he hs I h λD C H' s' m I' q hn k _ _ _ _ _=>⟨m,hn,λh' O=>⟨.ref D,H',k h' O,rF,q⟩⟩
theorem zGi{S O:Pos}{N:List Str}{ix:List (Option Nat)}{i:Nat}{y:Str}(hc:X.calm=true)(B:fG X scope)(Dr:du X scope N ix)(hi:PI X tg iter wi)
  (hg:∀C s₀ H₀ ex,PG (X.block scope C s₀ H₀ ex N) tg g) (ht:∀C s₀ H₀ ex,PTs (X.block scope C s₀ H₀ ex N) ifs tt) (he:∀C s₀ H₀ ex,PE (X.block scope C s₀ H₀ ex N) elt te)
  (hN:X.N.Nodup) (hy:X.N[i]?=some y) (hl:X.env.scope.names.lookup y=some .local)
  (W:swapsWith (.ListComp elt [⟨tg,iter,ifs,0⟩] scope pos) (some$ .Name y O) S.line X.env=pure true:=by rfl)
  (hs:∀x,foldedSetIterable iter X.env x=pure x:=by intro _;rfl):PS X (.Assign [.Name y O] (.ListComp elt [⟨tg,iter,ifs,0⟩] scope pos) S) (pb (ja wi ix g tt te)$ zJy i):=by
 intro pins s σ H Dn I h;rw[exec_Assign_Name_used _ _ _ _ W];refine qAA$ qCm$ qAA ?_;show wpAny _ X.A (do let _<-comprehension (.ListComp elt [⟨tg,iter,ifs,0⟩] scope pos) scope X.env _ (newList []) false (eval iter X.env) (some$ assign (.Name y O) X.env)) _ _ s;refine qAA$ thn (jP (use:=some$ assign (.Name y O) X.env) (Z:=λ_ s'=>SP X pins Dn .next s') hc B Dr hi hg ht he hs I h λD C H' s' m I' q hn k CL Cc C0 Cp CX=>?_) λ_ s' hq=>qAE$ qAE hq;show wpAny _ _ (assign (.Name y O) X.env$ .ref D) _ _ s';refine wpAny_assign_Name$ gK I' hN hy (.inl hl) (v:=.ref D) rF (λV aa ⟨a,sb,ha⟩=>?_)$ .inr hl
 have aC:C≠a:=by
  rcases ha with z|z
  .rw [z];exact CL
  .exact (Cc _ _ z).symm
 exact⟨m,hn.sameBut sb aC,λh' ad=>⟨_,H',aa.turned (t':=V.toks) (λb o hb e=>ad.extBut b o hb e) C0 CL (.inr CX) Cc Cp,q⟩⟩
theorem r_{J:It}{ix:List (Option Nat)}{Q:VK}{σ:St}{H1:Hp}{D:Addr}(xs:List V)(Pv:Nat->List V->St->Hp->Prop)(h0:Pv 0 [] (zDr σ ix) (upd H1 D$ .lst []))
  (hJ:∀i ys S H,Pv i ys S H->(∀x,xs[i]?=some x->J.go i H/\∀y H',J.yld i H y H'->H'=H/\y=x)/\(i=xs.length->J.stop i H))
  (hs:∀i x ys S H,xs[i]?=some x->Pv i ys S H->g x S H λO H4=>tt O H4 λb H5=>if b=true then te O H5 λv H6=>H6 D=some (.lst ys)/\ys.length<sizeLine/\Pv (i+1) (ys++[v]) O (upd H6 D$ .lst$ ys++[v])else Pv (i+1) ys O H5)
  (hd:∀ys S H,Pv xs.length ys S H->Q (.ref D) H) :
  ∃W:Nat->Nat->List V->St->Hp->Prop,(∃m,W 0 m [] (zDr σ ix) (upd H1 D$ .lst []))/\∀i m ys S H2,W i m ys S H2 ->
   (J.stop i H2/\Q (.ref D) H2)\/(J.go i H2/\∃N:List V->St->Hp->Prop,(∀aa O H',N aa O H'->∃m',m'<m/\W (i+1) m' aa O H')/\∀x H3,J.yld i H2 x H3->g x S H3 λO H4=>tt O H4 λb H5=>if b=true then te O H5 λv H6=>H6 D=some (.lst ys)/\ys.length<sizeLine/\N (ys++[v]) O (upd H6 D$ .lst$ ys++[v]) else N ys O H5):=by
 refine⟨λi m ys S H=>m=xs.length-i/\i<=xs.length/\Pv i ys S H,⟨xs.length,ss,qAi _,h0⟩,?_⟩;rintro i m ys S H ⟨rfl,hi,p⟩;obtain⟨j1,j2⟩:=hJ i ys S H p
 by_cases hlt:i<xs.length
 .have hx:xs[i]?=some xs[i]:=by simp[hlt]
  obtain⟨go,yl⟩:=j1 _ hx;refine .inr ⟨go,Pv$ i+1,λaa O H' p'=>⟨xs.length-(i+1),Ll,rF,hlt,p'⟩,λy H' yd=>?_⟩;obtain⟨e1,e2⟩:=yl y H' yd;subst e1 e2;exact hs i _ ys S _ hx p
 .have e:i=xs.length:=Ll
  subst e;exact .inl ⟨j2 rF,hd ys S H p⟩
def qx(scope sc:Scope):Bool:=(scope.kind== .function)&&(scope.names.all (λy=>scope.names.all λz=>y.2 != .cell||z.2 != .free||y.1 != z.1)&&scope.names.all (λy=>y.2 != .cell||scope.names.lookup y.1==some .cell))&&scope.names.all (λy=>y.2 != .free||sc.names.lookup y.1==some .cell||sc.names.lookup y.1==some .free)&&scope.names.all (λy=>y.2 != .local||scope.names.lookup y.1==some .local)
theorem zBp{scope sc:Scope}(S:X.env.scope=sc)(h:qx scope sc=true):fG X scope:=by
 unfold qx at h;simp only[qBS,qBt,Bool.or_eq_true]at h;obtain⟨⟨⟨h1,h2,h5⟩,h3⟩,h4⟩:=h;refine⟨by simpa using h1,λy O z V W e2=>?_,λy O e=>?_,λy O e=>?_,λy O e=>?_⟩
 .rcases h2 y O z V with(q|q)|q
  .rw [W]at q;simp at q
  .rw [e2]at q;simp at q
  .simpa using q
 .rcases h5 y O with q|q
  .rw [e]at q;simp at q
  .simpa using q
 .have q:=h3 y O;show X.env.scope.names.lookup y.1=some .cell\/X.env.scope.names.lookup y.1=some .free;rw[S];rcases q with(q|q)|q
  .rw [e]at q;simp at q
  .exact .inl (by simpa using q)
  .exact .inr (by simpa using q)
 .have q:=h4 y O;rcases q with q|q
  .rw [e]at q;simp at q
  .simpa using q
def wS(scope sc:Scope):Scope:={scope with names:=scope.names.map λ(n,k)=>if(k== .free&&sc.kind== .function&&sc.names.lookup n==some .cell)then(n,.cell)else(n,k)}
theorem uU{O:Env}{outer scope sc:Scope}(S:X.env.scope=relabel outer O)(h0:O.scope=sc)(h:qx scope (wS outer sc)=true):fG X scope :=
 zBp (sc:=wS outer sc) (by rw[S];subst h0;rfl) h
def Its(z:Str):It:=⟨λi _=>i<z.cps.size,λi H x H'=>H'=H/\∃c,z.cps[i]?=some c/\x= .str ⟨#[c]⟩,λi _=>z.cps.size<=i⟩
theorem rj{P:Program}{w:World}{K:PySem.W.Frag}(O:Addr)(z:Str)(t:Tok)(ty:String)(S:ty="str_ascii_iterator"\/ty="str_iterator"):jz P w K tg (Its z) [O] O (λi h=>h.IsStrIter O ty z t i) where
 mem:=ss
 obj:=λi h st b V=>by
  have e:b=O:=by simpa using V
  subst e;obtain⟨o,e,c,d⟩:=st;exact⟨o,e,λv z=>by rw[d]at z;cases z⟩
 keep:=λi h h' st k=>by
  obtain⟨o,e,c,d⟩:=st;exact⟨o,k O ss o e,c,d⟩
 item:=by
  intro X hP hw hK hc i pins s σ H E I hf st hg;subst hP hw hK;obtain⟨f0,f1,f2,f3,f4,f5⟩:=hf O ss;have ad:i<z.cps.size:=hg;have W:z.cps[i]?=some z.cps[i]:=by simp[ad]
  have fin:∀h':Heap,h'.IsStrIter O ty z t (i+1)->Heap.SameBut O s.heap h'->∃u,some (Value.str ⟨#[z.cps[i]]⟩ s.toks)=some u /\
    wpAny (model X.prog X.w) X.A (letOwnedTupleGo tg (.ref O) u) (λ_ s2=>∃x H',Inv X pins σ H' s2/\dy x u/\(Its z).yld i H x H'/\s2.heap.IsStrIter O ty z t (i+1)/\∀b∈[O],H' b=none) E {s with heap:=h',toks:=s.toks+1}:=λh' aa sb=>by
   have I1:Inv X pins σ H {s with heap:=h',toks:=s.toks+1}:=I.turned (t':=s.toks+1) (λb o V e=>(sb.2 b V).trans e) f0 f1 f3 f4 f5;obtain⟨o,e,c,d⟩:=id aa;exact⟨_,rF,jU (s:={s with heap:=h',toks:=s.toks+1}) e c d (by rcases S with rfl|rfl<;>decide) ⟨.str ⟨#[z.cps[i]]⟩,H,I1,⟨_,rF⟩,⟨rF,_,W,rF⟩,aa,λb V=>(hf b V).1⟩⟩
  rcases S with rfl|rfl
  .exact wpAny_pyNext_ascii_item st W fin
  .exact wpAny_pyNext_wide_item st W fin
 done:=by
  intro X hP hw hK hc i pins s σ H E I hf st hg;subst hP hw hK;obtain⟨f0,f1,f2,f3,f4,f5⟩:=hf O ss;have ae:z.cps.size<=i:=hg;have W:z.cps[i]?=none:=by simp[ae]
  have fin:∀h':Heap,Heap.ExtBut O s.heap h'->(none:Option Value)=none/\Inv X pins σ H {s with heap:=h'}:=λh' eb=>⟨rF,I.turned (t':=s.toks) (λb o V e=>eb b o V e) f0 f1 f3 f4 f5⟩;rcases S with rfl|rfl
  .exact wpAny_pyNext_ascii_end (I.ok.hd hc) st W fin
  .exact wpAny_pyNext_wide_end (I.ok.hd hc) st W fin
 self:=λ_ _ _ _ _ st h=>by
  rcases S with rfl|rfl
  .exact wpAny_pyIter_striter_ascii st h
  .exact wpAny_pyIter_striter_wide st h
inductive uE(R:It->Hp->Prop)(x:V)(H1:Hp):Prop
 |mk:∀z,x= .str z->R (Its z) H1->uE R x H1
def xY(tl:TE):TI:=λσ H R=>tl σ H λx H1=>uE R x H1
theorem qq{l:Expr}{tl:TE}(hl:PE X l tl):PI X tg l (xY tl):=by
 intro pins s σ H R I h;refine thn (hl pins s σ H _ I h) λv S ⟨x,H1,O,r1,q1⟩=>?_;obtain⟨z,e,q⟩:=q1;subst e;obtain⟨t,rfl⟩:=r1
 have fin:∀(ty:String),(ty="str_ascii_iterator"\/ty="str_iterator")->PIE X pins σ tg R (.ref S.heap.objs.size) {S with heap:=S.heap.push {cls:=.type ty,data:=.fields #[.str z t,.int 0 0]}}:=λty V=>
  ⟨S.heap.objs.size,[S.heap.objs.size],_,_,H1,rF,O.kept (t':=S.toks) λb o e=>qAM _ e,rj _ z t ty V,⟨_,qAk _ rF,rF,rF⟩,λb hb=>by
   have e:b=S.heap.objs.size:=by simpa using hb
   subst e;exact O.fpOk (qAG _)$ O.hok.fresh$ qAG _,q⟩
 cases W:z.cps.all (·<128)
 .exact wpAny_pyIter_wide W$ fin _$ .inr rF
 .exact wpAny_pyIter_ascii W$ fin _$ .inl rF
theorem tF{bs:List Bool}{its:List Value}(r:dv (bs.map V.bl) its){i:Nat}{v:Value}(h:its[i]?=some v):v= .bool (bs.getD i false)/\i<bs.length:=by
 have W:=r.length;rw[qAD]at W;have hi:i<its.length:=(qAL.mp h).1;have O:i<bs.length:=Ll
 have e:(bs.map V.bl)[i]?=some (V.bl bs[i]):=by simp[O]
 obtain⟨u,S,ru⟩:=r.get e;rw[h]at S
 cases S
 refine⟨?_,O⟩;have:v= .bool bs[i]:=ru;rw[this,qBg];simp[O]
theorem ow(bs:List Bool):(List.range bs.length).all (λi=>bs.getD i false)=bs.all id:=by
 rw[qB5];simp only[qBt,qBH];constructor
 .intro h x O;obtain⟨i,hi,rfl⟩:=qBL.mp O;have:=h i hi;simpa[qBg,hi]using this
 .intro h i hi;have:=h bs[i]$ qB8 hi;simpa[qBg,hi]using this
theorem zE6(X:Cx)(hc:X.calm=true):zCz X (.builtin "all") (λxs H Q=>∃(p:Addr)(bs:List Bool),xs=[.ref p]/\SqL X.K H p (bs.map V.bl)/\Q (.bl$ bs.all id) H):=by
 intro pins s σ H xs us Q I W h;obtain⟨p,bs,rfl,hq,q⟩:=h;obtain⟨u,rfl,ru⟩:=W.one
 cases ru
 obtain⟨its,r,pl,hz⟩:=I.list hq;have S:=r.length;rw[qAD]at S;refine call_all_walk$ wpAny_pyIter_list pl.isList ?_;have hp:p<s.heap.objs.size:=by obtain⟨o,n,e,_⟩:=pl;exact qAI e
 have I1:Inv X pins σ H {s with heap:=s.heap.push {cls:=.type "list_iterator",data:=.fields #[.ref p,.int 0 0]}}:=I.kept (t':=s.toks) λb o e=>qAM _ e;refine⟨s.heap.objs.size,_,_,_,_,_,λi=>bs.getD i false,rF,Walks.list (A:=X.A.in1) (show X.A.in1.handled=none from I.ok.hd hc) s.heap.objs.size p (qAQ hp) its.toArray,⟨⟨_,qAk _ rF,rF,rF⟩,pl.isList.at λo e=>qAM _ e⟩,?_,λh' tk hk=>?_⟩
 .intro i v s' E' Q' hv O;obtain⟨rfl,_⟩:=tF r (by simpa using hv);exact qBP O
 .have e:(List.range its.toArray.size).all (λi=>bs.getD i false)=bs.all id:=by
   rw[qAS,<-S];exact ow bs
  refine⟨.bl$ bs.all id,H,?_,by rw[e];rfl,q⟩;obtain⟨f0,f1,f2,f3,f4,f5⟩:=I.fpOk (b:=s.heap.objs.size) (qAG _)$ I.hok.fresh$ qAG _;exact I1.turned (t':=tk) (λb o hb e=>hk b o (by simpa using hb) e) f0 f1 f3 f4 f5
theorem zBg :zCz X (.builtin "isinstance") (λxs H Q=>∃x n t b,xs=[x,.ty n]/\dz X.K H x t/\PySem.W.kitOne X.K t (.type n)=some b/\Q (.bl b) H):=by
 intro pins s σ H xs us Q I V h;obtain⟨x,n,t,b,rfl,ty,e,q⟩:=h;obtain⟨u,c,rfl,O,S⟩:=V.two
 cases (show c=Value.type n from S)
 exact oC I O ty e λtk=>⟨.bl b,H,I.tok tk,rF,q⟩
theorem gM :OpR X (compareOp .LtE) (λx y H Q=>∃i j,x= .str i/\y= .str j/\Q (.bl$ !(decide$ j.cps.toList<i.cps.toList)) H):=by
 intro pins s σ H x y v u Q I O S h;obtain⟨i,j,rfl,rfl,q⟩:=h;obtain⟨t,rfl⟩:=O;obtain⟨t',rfl⟩:=S;exact PySem.P.le_str ⟨.bl _,H,I,rF,q⟩
theorem zIs:∀{ts:List Str}{us:List Value},dv (ts.map V.str) us->StrsAre us ts
 |[],_,.nil=>.nil
 |t::ts,_,.cons r O=>by
  obtain⟨tk,rfl⟩:=r;exact .cons _ _$ zIs O
inductive uy(K:PySem.W.Frag)(x:V)(vs:List V)(H:Hp)(Q:VK):Prop
 |mk:∀sep p ts,x= .str sep->vs=[.ref p]->SqL K H p (ts.map V.str)->(ts.map (·.length)).sum+ts.length*sep.length<=16777216->Q (.str$ Txt.join sep ts) H->uy K x vs H Q
theorem tV :MtR X "str.join" (uy X.K):=by
 intro pins s σ H x vs v us Q I O V h;obtain⟨S,p,ts,rfl,rfl,W,hz,q⟩:=h;obtain⟨t,rfl⟩:=O;obtain⟨u,rfl,ru⟩:=V.one
 cases ru
 obtain⟨its,r,pl,_⟩:=I.list W;exact PyProof.Rows.join_list pl.isList (by simpa using zIs r) hz λt' k=>⟨.str _,H,I.tok k,⟨_,rF⟩,q⟩
inductive eX(K:PySem.W.Frag)(H:Hp):Nat->V->V->Prop
 |flat {n:Nat} {x:V} (fx:zGm x=true):eX K H n x x
 |same {n:Nat} {a:Addr}:eX K H n (.ref a) (.ref a)
 |lists {n:Nat} {a b:Addr} {xs ys:List V} (hx:SqL K H a xs) (hy:SqL K H b ys) (hl:xs.length=ys.length) (he:∀(i:Nat)(x y:V),xs[i]?=some x->ys[i]?=some y->eX K H n x y):eX K H (n+1) (.ref a) (.ref b)
 |tups {n:Nat} {a b:Addr} {xs ys:List V} (hx:SqT K H a xs) (hy:SqT K H b ys) (hl:xs.length=ys.length) (he:∀(i:Nat)(x y:V),xs[i]?=some x->ys[i]?=some y->eX K H n x y):eX K H (n+1) (.ref a) (.ref b)
theorem qQ{x:V}(h:zGm x=true):eqV x x=true:=by
 cases x<;>simp[eqV]<;>simp[zGm]at h
section
variable{X:Cx}{pins:List (Addr×Obj)}{σ:St}{H:Hp}{s:Shared}
theorem zHb(n:Nat):(List.range n).all (λ_=>true)=true:=by simp
theorem qp(I:Inv X pins σ H s){x y:V}(h:eX X.K H n x y):∀{u v:Value}{A:Around},dy x u->dy y v->A.units+n<cLine->SeqAt.EqAt A s u v true:=by
 induction h with
 |flat fx=>
  intro u v A ru rv _;have q:=qF (A:=A) (s:=s) ru rv fx fx
  rwa [qQ fx]at q
 |same=>
  intro u v A ru rv _
  cases ru
  cases rv
  exact qCr _
 |@lists n a b xs ys hx hy hl he ih=>
  intro u v A ru rv hu
  cases ru
  cases rv
  by_cases ab:a=b
  .subst ab;exact qCr _
  .obtain ⟨its,r,pl,hz⟩:=I.list hx;obtain⟨O,r2,aa,af⟩:=I.list hy;have e1:=r.length;have e2:=r2.length
   have q:=SeqAt.RcAt.lists (A:=A) (s:=s) (e:=λ_=>true) pl.isList aa.isList (by rw[qAS,qAS];lia) Ll (λj h1 h2=>by
    rw[qAS]at h1 h2;have S:xs[j]?=some (xs[j]' Ll):=ss
    have W:ys[j]?=some (ys[j]' Ll):=ss
    obtain⟨u1,q1,ad⟩:=r.get S;obtain⟨v1,q2,ae⟩:=r2.get W
    have e3:its.toArray[j]=u1:=by
     have:its[j]?=some its[j]:=ss
     rw[this]at q1;simpa using q1
    have e4:O.toArray[j]=v1:=by
     have:O[j]?=some O[j]:=ss
     rw[this]at q2;simpa using q2
    rw[e3,e4];exact ih j _ _ S W ad ae$ by show A.units+1+n<cLine;lia)
   rw[zHb]at q;exact SeqAt.EqAt.of_refs ab q
 |@tups n a b xs ys hx hy hl he ih=>
  intro u v A ru rv hu
  cases ru
  cases rv
  by_cases ab:a=b
  .subst ab;exact qCr _
  .obtain ⟨its,r,pl,hz⟩:=I.tuple hx;obtain⟨O,r2,aa,af⟩:=I.tuple hy;have e1:=r.length;have e2:=r2.length
   have q:=SeqAt.RcAt.tuples (A:=A) (s:=s) (e:=λ_=>true) (show s.heap.IsTuple a its.toArray from pl) (show s.heap.IsTuple b O.toArray from aa) Ll (λj h1 h2=>by
    rw[qAS]at h1 h2;have S:xs[j]?=some (xs[j]' Ll):=ss
    have W:ys[j]?=some (ys[j]' Ll):=ss
    obtain⟨u1,q1,ad⟩:=r.get S;obtain⟨v1,q2,ae⟩:=r2.get W
    have e3:its.toArray[j]=u1:=by
     have:its[j]?=some its[j]:=ss
     rw[this]at q1;simpa using q1
    have e4:O.toArray[j]=v1:=by
     have:O[j]?=some O[j]:=ss
     rw[this]at q2;simpa using q2
    rw[e3,e4];exact ih j _ _ S W ad ae$ by show A.units+1+n<cLine;lia)
   rw[zHb,Bool.true_and,qAS,qAS,<-e1,<-e2,hl,beq_self_eq_true]at q;exact SeqAt.EqAt.of_refs ab q
theorem zId(I:Inv X pins σ H s){xs ys:List V}{its O:List Value}{A:Around}(r:dv xs its)(r2:dv ys O)(he:∀(i:Nat)(x y:V),xs[i]?=some x->ys[i]?=some y->eX X.K H n x y)(hu:A.units+n<cLine) :
  ∀j (h1:j<its.toArray.size) (h2:j<O.toArray.size),SeqAt.EqAt A s its.toArray[j] O.toArray[j] true:=λj h1 h2=>by
 have e1:=r.length;have e2:=r2.length;rw[qAS]at h1 h2;have S:xs[j]?=some (xs[j]' Ll):=ss
 have W:ys[j]?=some (ys[j]' Ll):=ss
 obtain⟨u1,q1,aa⟩:=r.get S;obtain⟨v1,q2,ad⟩:=r2.get W
 have e3:its.toArray[j]=u1:=by
  have:its[j]?=some its[j]:=ss
  rw[this]at q1;simpa using q1
 have e4:O.toArray[j]=v1:=by
  have:O[j]?=some O[j]:=ss
  rw[this]at q2;simpa using q2
 rw[e3,e4];exact qp I (he j _ _ S W) aa ad hu
end
inductive dU(K:PySem.W.Frag)(n:Nat)(b:Bool)(x:V)(y:V)(H:Hp)(Q:VK):Prop
 |mk:∀a c xs ys,x= .ref a->y= .ref c->SqL K H a xs->SqL K H c ys->xs.length=ys.length->(∀(i:Nat)(x y:V),xs[i]?=some x->ys[i]?=some y->eX K H n x y)->Q (.bl b) H->dU K n b x y H Q
inductive dR(K:PySem.W.Frag)(b:Bool)(x:V)(y:V)(H:Hp)(Q:VK):Prop
 |mk:∀a c xs ys,x= .ref a->y= .ref c->SqL K H a xs->SqL K H c ys->xs.length≠ys.length->Q (.bl b) H->dR K b x y H Q
section
variable{X:Cx}
theorem u5(hu:X.A.units+1+n<cLine):OpR X (compareOp .Eq) (dU X.K n true):=by
 intro pins s σ H x y v u Q I V W h;obtain⟨a,c,xs,ys,rfl,rfl,hx,hy,hl,he,q⟩:=h
 cases V
 cases W
 obtain⟨its,r,pl,hz⟩:=I.list hx;obtain⟨S,r2,O,aa⟩:=I.list hy;have e1:=r.length;have e2:=r2.length;refine SeqAt.eq_listAt (e:=λ_=>true) pl.isList O.isList (by rw[qAS,qAS];lia) Ll (zId I r r2 he$ by show X.A.units+1+n<cLine;lia) ?_;rw[zHb];exact⟨.bl true,H,I,rF,q⟩
theorem vT(hu:X.A.units+1+n<cLine):OpR X (compareOp .NotEq) (dU X.K n false):=by
 intro pins s σ H x y v u Q I V W h;obtain⟨a,c,xs,ys,rfl,rfl,hx,hy,hl,he,q⟩:=h
 cases V
 cases W
 obtain⟨its,r,pl,hz⟩:=I.list hx;obtain⟨S,r2,O,aa⟩:=I.list hy;have e1:=r.length;have e2:=r2.length;refine SeqAt.RcNeAt.lists (e:=λ_=>true) pl.isList O.isList (by rw[qAS,qAS];lia) Ll (zId I r r2 he$ by show X.A.units+1+n<cLine;lia) X.prog X.w X.xe _ ?_;rw[zHb];exact⟨.bl false,H,I,rF,q⟩
theorem wk(V:X.A.units<cLine):OpR X (compareOp .Eq) (dR X.K false):=by
 intro pins s σ H x y v u Q I W ry h;obtain⟨a,c,xs,ys,rfl,rfl,hx,hy,hl,q⟩:=h
 cases W
 cases ry
 obtain⟨its,r,pl,hz⟩:=I.list hx;obtain⟨S,r2,O,aa⟩:=I.list hy;have e1:=r.length;have e2:=r2.length;exact SeqAt.eq_list_lengthsAt pl.isList O.isList (by rw[qAS,qAS];simp;lia) V ⟨.bl false,H,I,rF,q⟩
theorem OpR.either{f:Value->Value->Sem Value}{r O:R2}(h:OpR X f r)(h':OpR X f O):OpR X f (λx y H Q=>r x y H Q\/O x y H Q):=by
 intro pins s σ H x y v u Q I S V q;rcases q with q|q
 .exact h pins s σ H x y v u Q I S V q
 .exact h' pins s σ H x y v u Q I S V q
end
end L2
namespace SM
open PySem PySem.StrLaws PySem.Builtin PySem.Builtin.Str
end SM
namespace L2
open PySem PySem.Spec PyProof.Rows
variable{M:List Addr}{H H1 H':Hp}{a D:Addr}{σ:St}{g:TG}{te:TE}
structure Cal(P:Program)(w:World)(K:PySem.W.Frag)(mg:Str->Option Value)(base:Heap)(x:Str)(k:Nat)(ps:List Str)(sp:Sp):Prop where
 to:∃(f:Addr)(fd:FuncData),mg x=some (.ref f)/\PySem.W.keepIn K (.ref f)=true/\zDe K fd ps []/\dw P w K mg base CX0 k f fd ps sp
theorem zAh{X:Cx}{x:Str}{k:Nat}{ps:List Str}{sp:Sp}{e:Expr}{es:List Expr}{p pos:Pos}{t:TA}(C:Cal X.prog X.w X.K X.mg X.base x k ps sp)(V:dF k X.A)(W:Gl X x)(ha:PA X (e::es) t)
  (O:(x==("__debug__": Str))=false:=by decide) (he:starEach (e::es) X.env=(false,eval e X.env)::starEach es X.env:=by rfl) (S:(backTo pos$ starEach es X.env).any (·.1)=false:=by rfl) :
  PE X (.Call (.Name x p) (e::es) [] pos) (pI sp [] E0 t):=by
 obtain⟨f,fd,h1,h2,h3,h4⟩:=C.to;exact tO h4 V W h1 h2 h3 .nil lW ha O he S
theorem vS:bootBuiltins "max"=some (.builtin "max"):=by decide +kernel
theorem zI3:bootBuiltins "all"=some (.builtin "all"):=by decide +kernel
theorem zAl:bootBuiltins "isinstance"=some (.builtin "isinstance"):=by decide +kernel
theorem nG:bootBuiltins "sorted"=some (.builtin "sorted"):=by decide +kernel
theorem pR:bootBuiltins "abs"=some (.builtin "abs"):=by decide +kernel
theorem iN:bootBuiltins "sum"=some (.builtin "sum"):=by decide +kernel
theorem zBy:bootBuiltins "len"=some (.builtin "len"):=by decide +kernel
theorem zIb:bootBuiltins "int"=some (.type "int"):=by decide +kernel
theorem iZ:bootBuiltins "str"=some (.type "str"):=by decide +kernel
theorem zCe:bootBuiltins "list"=some (.type "list"):=by decide +kernel
theorem zGa:bootBuiltins "tuple"=some (.type "tuple"):=by decide +kernel
theorem vH:bootBuiltins "set"=some (.type "set"):=by decide +kernel
theorem mj:bootBuiltins "bool"=some (.type "bool"):=by decide +kernel
def Fre(H:Hp)(l:Addr):Prop:=H l=none
def Kp(M:List Addr)(H H':Hp):Prop:=∀b o,H b=some o->b∉M->H' b=some o
theorem Kp.refl :Kp M H H:=λ_ _ h _=>h
theorem Kp.trans{H2:Hp}(a:Kp M H H1)(b:Kp M H1 H2):Kp M H H2:=λc o h n=>b c o (a c o h n) n
theorem Kp.weak{O:List Addr}(k:Kp M H H')(s:∀b,b∈M->b∈O):Kp O H H':=λb o h n=>k b o h λz=>n$ s b z
theorem Kp.of0(k:Kp [] H H'):Kp M H H':=λb o h _=>k b o h ss
theorem Kp.new{M:List Addr}{l:Addr}{o:HO}(k:Kp M H H')(f:Fre H l):Kp M H (upd H' l o):=λb u h n=>by
 rw[a_$ zAm h f];exact k b u h n
theorem Kp.put{l:Addr}{o:HO}(k:Kp M H H')(f:l∈M):Kp M H (upd H' l o):=λb u h n=>by
 rw[a_$ by intro e;subst e;exact n f];exact k b u h n
theorem Kp.fre{l:Addr}(k:Kp M H H')(f:Fre H' l)(n:l∉M):Fre H l:=by
 unfold Fre
 cases q:H l with
 |none=>rfl
 |some o=>
  have:=k l o q n;unfold Fre at f;rw[f]at this;cases this
theorem Kp.at0(k:Kp [] H H'):uN H H':=λb o h=>k b o h ss
theorem Kp.seq{K:PySem.W.Frag}{xs:List V}(e:Kp [] H H')(h:SqL K H a xs):SqL K H' a xs:=e.at0.seq h
theorem b_{b:Addr}{o:HO}(f:Fre H b)(h:H a=some o):a≠b:=zAm h f
theorem nm1{b:Addr}(h:a≠b):a∉[b]:=by simpa using h
theorem nm2{b c:Addr}(h:a≠b)(h':a≠c):a∉[b,c]:=by simp;exact⟨h,h'⟩
theorem zEj{α:Type}{xs:List α}{i:Int}{v:α}(h0:0<=i)(h:xs[i.toNat]?=some v):atI xs i=some v:=by
 have O:i.toNat<xs.length:=(qAL.mp h).1;unfold atI ixN;rw[qAC h0,qAC Ll];exact h
theorem jG{α:Type}{xs:List α}{n:Nat}{v:α}(h:xs[n]?=some v):atI xs (n:Int)=some v:=zEj Ll (by simpa using h)
theorem hu2{A:Around}{k n:Nat}(O:dF k A)(h:n<=60:=by decide):A.units+1+n<cLine:=by
 have:=O.units;lia
theorem hu0{A:Around}{k:Nat}(O:dF k A):A.units<cLine:=by
 have:=O.units;lia
theorem ir{X:Cx}{k:Nat}(O:dF k X.A):OpR X (compareOp .Eq) (λx y H Q=>dU X.K 8 true x y H Q\/dR X.K false x y H Q):=(u5$ hu2 O).either$ wk$ hu0 O
theorem zA1{K:PySem.W.Frag}{t:Value}(h:(t==t)=true:=by rfl):PySem.W.kitOne K t t=some true:=by
 unfold PySem.W.kitOne;rw[qAC h]
theorem sT{t u:TS}{D:eI}(O:St->Hp->Prop)(h1:∀N:St->Hp->Prop,(∀σ H,O σ H->N σ H)->t {D with nx:=N} σ H)(h2:∀σ H,O σ H->u D σ H):dA t u D σ H:=h1 (u D) h2
theorem km{tb:TS}{D:eI}{b:Bool}(O:St->Hp->Prop)(h1:∀N:St->Hp->Prop,(∀σ H,O σ H->N σ H)->if b=true then tb {D with nx:=N} σ H else N σ H)(h2:∀σ H,O σ H->D.nx σ H) :
  if b=true then tb D σ H else ma D σ H:=h1 D.nx h2
theorem zBt{K:PySem.W.Frag}{ix:List (Option Nat)}{tt:TT}{QD:Hp->Prop}(xs:List V)(Pv:Nat->List V->St->Hp->Prop)(h0:Pv 0 [] (zDr σ ix) (upd H1 D$ .lst []))
  (hl:∀i ys S H,Pv i ys S H->SqL K H a xs)
  (hs:∀i x ys S H,xs[i]?=some x->Pv i ys S H->g x S H λO H4=>tt O H4 λb H5=>if b=true then te O H5 λv H6=>H6 D=some (.lst ys)/\ys.length<sizeLine/\Pv (i+1) (ys++[v]) O (upd H6 D$ .lst$ ys++[v])else Pv (i+1) ys O H5)
  (hd:∀ys S H,Pv xs.length ys S H->QD H) :
  ∃W:Nat->Nat->List V->St->Hp->Prop,(∃m,W 0 m [] (zDr σ ix) (upd H1 D$ .lst []))/\∀i m ys S H2,W i m ys S H2 ->
   ((Itl K a).stop i H2/\QD H2)\/((Itl K a).go i H2/\∃N:List V->St->Hp->Prop,(∀aa O H',N aa O H'->∃m',m'<m/\W (i+1) m' aa O H')/\∀x H3,(Itl K a).yld i H2 x H3->g x S H3 λO H4=>tt O H4 λb H5=>if b=true then te O H5 λv H6=>H6 D=some (.lst ys)/\ys.length<sizeLine/\N (ys++[v]) O (upd H6 D$ .lst$ ys++[v]) else N ys O H5):=by
 refine r_ (Q:=λ_ H=>QD H) xs Pv h0 (λi ys S H p=>⟨λx hx=>⟨⟨xs,x,hl i ys S H p,hx⟩,λy H' yl=>?_⟩,λe=>⟨xs,hl i ys S H p,Ll⟩⟩) hs hd;obtain⟨e,z⟩:=yl;subst e;have:=z xs$ hl i ys S _ p;rw[hx]at this;exact⟨rF,(qAb this).symm⟩
theorem j6{z:Str}{ix:List (Option Nat)}{tt:TT}{QD:Hp->Prop}(Pv:Nat->List V->St->Hp->Prop)(h0:Pv 0 [] (zDr σ ix) (upd H1 D$ .lst []))
  (hs:∀i c ys S H,z.cps.toList[i]?=some c->Pv i ys S H->g (.str ⟨#[c]⟩) S H λO H4=>tt O H4 λb H5=>if b=true then te O H5 λv H6=>H6 D=some (.lst ys)/\ys.length<sizeLine/\Pv (i+1) (ys++[v]) O (upd H6 D$ .lst$ ys++[v])else Pv (i+1) ys O H5)
  (hd:∀ys S H,Pv z.length ys S H->QD H) :
  ∃W:Nat->Nat->List V->St->Hp->Prop,(∃m,W 0 m [] (zDr σ ix) (upd H1 D$ .lst []))/\∀i m ys S H2,W i m ys S H2 ->
   ((Its z).stop i H2/\QD H2)\/((Its z).go i H2/\∃N:List V->St->Hp->Prop,(∀aa O H',N aa O H'->∃m',m'<m/\W (i+1) m' aa O H')/\∀x H3,(Its z).yld i H2 x H3->g x S H3 λO H4=>tt O H4 λb H5=>if b=true then te O H5 λv H6=>H6 D=some (.lst ys)/\ys.length<sizeLine/\N (ys++[v]) O (upd H6 D$ .lst$ ys++[v]) else N ys O H5):=by
 refine⟨λi m ys S H=>m=z.length-i/\i<=z.length/\Pv i ys S H,⟨z.length,ss,qAi _,h0⟩,?_⟩;rintro i m ys S H ⟨rfl,hi,p⟩
 by_cases hlt:i<z.length
 .refine .inr ⟨hlt,Pv$ i+1,λaa O H' p'=>⟨z.length-(i+1),Ll,rF,hlt,p'⟩,λy H' yd=>?_⟩;obtain⟨e1,c,e2,e3⟩:=yd;subst e1 e3;exact hs i c ys S _ (by simpa using e2) p
 .have e:i=z.length:=Ll
  subst e;exact .inl ⟨qAG _,hd ys S H p⟩
theorem zBc{K:PySem.W.Frag}{ix:List (Option Nat)}{QD:Hp->Prop}(xs:List V)(Pv:Nat->List V->St->Hp->Prop)(h0:Pv 0 [] (zDr σ ix) (upd H1 D$ .lst []))
  (hl:∀i ys S H,Pv i ys S H->SqL K H a xs)
  (hs:∀i x ys S H,xs[i]?=some x->Pv i ys S H->g x S H λO H4=>te O H4 λv H6=>H6 D=some (.lst ys)/\ys.length<sizeLine/\Pv (i+1) (ys++[v]) O (upd H6 D$ .lst$ ys++[v]))
  (hd:∀ys S H,Pv xs.length ys S H->QD H) :
  ∃W:Nat->Nat->List V->St->Hp->Prop,(∃m,W 0 m [] (zDr σ ix) (upd H1 D$ .lst []))/\∀i m ys S H2,W i m ys S H2 ->
   ((Itl K a).stop i H2/\QD H2)\/((Itl K a).go i H2/\∃N:List V->St->Hp->Prop,(∀aa O H',N aa O H'->∃m',m'<m/\W (i+1) m' aa O H')/\∀x H3,(Itl K a).yld i H2 x H3->g x S H3 λO H4=>jd O H4 λb H5=>if b=true then te O H5 λv H6=>H6 D=some (.lst ys)/\ys.length<sizeLine/\N (ys++[v]) O (upd H6 D$ .lst$ ys++[v]) else N ys O H5):=zBt (tt:=jd) xs Pv h0 hl hs hd
theorem ou{z:Str}{ix:List (Option Nat)}{QD:Hp->Prop}(Pv:Nat->List V->St->Hp->Prop)(h0:Pv 0 [] (zDr σ ix) (upd H1 D$ .lst []))
  (hs:∀i c ys S H,z.cps.toList[i]?=some c->Pv i ys S H->g (.str ⟨#[c]⟩) S H λO H4=>te O H4 λv H6=>H6 D=some (.lst ys)/\ys.length<sizeLine/\Pv (i+1) (ys++[v]) O (upd H6 D$ .lst$ ys++[v]))
  (hd:∀ys S H,Pv z.length ys S H->QD H) :
  ∃W:Nat->Nat->List V->St->Hp->Prop,(∃m,W 0 m [] (zDr σ ix) (upd H1 D$ .lst []))/\∀i m ys S H2,W i m ys S H2 ->
   ((Its z).stop i H2/\QD H2)\/((Its z).go i H2/\∃N:List V->St->Hp->Prop,(∀aa O H',N aa O H'->∃m',m'<m/\W (i+1) m' aa O H')/\∀x H3,(Its z).yld i H2 x H3->g x S H3 λO H4=>jd O H4 λb H5=>if b=true then te O H5 λv H6=>H6 D=some (.lst ys)/\ys.length<sizeLine/\N (ys++[v]) O (upd H6 D$ .lst$ ys++[v]) else N ys O H5):=j6 (tt:=jd) Pv h0 hs hd
section
variable{X:Cx}{K:PySem.W.Frag}
theorem nM(O:X.K=K:=by rfl):zCz X (.builtin "isinstance") (λxs H Q=>∃x n t b,xs=[x,.ty n]/\dz K H x t/\PySem.W.kitOne K t (.type n)=some b/\Q (.bl b) H):=by subst O;exact zBg
theorem zG8(O:X.K=K:=by rfl):IxR X (t9 K):=by subst O;exact zA0
theorem zJ3(O:X.K=K:=by rfl):zCz X (.type "list") (λxs H Q=>∃p ys,xs=[.ref p]/\(SqL K H p ys\/SqT K H p ys)/\∀l,H l=none->Q (.ref l) (upd H l$ .lst ys)):=by subst O;exact zBu
theorem zC3(O:X.K=K:=by rfl):zCz X (.builtin "len") (λxs H Q=>∃p ys,xs=[.ref p]/\(SqL K H p ys\/SqT K H p ys)/\Q (.int ys.length) H):=by subst O;exact zAp
theorem zD7(O:X.K=K:=by rfl):OpR X (compareOp .NotIn) (rIn K true):=by subst O;exact zGr
theorem rN{k:Nat}(O:dF k X.A)(S:X.K=K:=by rfl):OpR X (compareOp .Eq) (λx y H Q=>dU K 8 true x y H Q\/dR K false x y H Q):=by subst S;exact ir O
end
theorem Kp.drop{H2:Hp}{p:Addr}(k1:Kp [] H H1)(f:Fre H p)(k2:Kp [p] H1 H2):Kp [] H H2:=λb o h _=>k2 b o (k1 b o h ss)$ nm1$ b_ f h
end L2
namespace Tim
open PySem PyProof.Rows
variable{i:Nat}{st:SortSt}
def gal:Bool->Keyed->Array Keyed->Nat->Nat->Nat->StateT SortSt Sem (Option Nat):=sortPriv% PySem.Builtin.gallop
def mLo:Array Keyed->Array Keyed->StateT SortSt Sem (Array Keyed):=sortPriv% PySem.Builtin.mergeLo
def mHi:Array Keyed->Array Keyed->StateT SortSt Sem (Array Keyed):=sortPriv% PySem.Builtin.mergeHi
def kk(κ:KeyKind)(p:Keyed):κ.α:=(κ.keyOf p.1).getD κ.dflt
def Has(κ:KeyKind)(p:Keyed):Prop:=∃a,κ.keyOf p.1=some a
theorem Has.key{κ:KeyKind}{p:Keyed}(h:Has κ p):κ.keyOf p.1=some (kk κ p):=by
 obtain⟨a,e⟩:=h;unfold kk;rw[e];rfl
theorem qU{κ:KeyKind}{xs:Array Keyed}{p:Keyed}(h:xs[i]?=some p):KK κ xs i=kk κ p:=by
 unfold KK kk;rw[h]
def CmpOk(prog:Program)(w:World)(A:Around)(s:Shared)(kd:SortKind)(κ:KeyKind):Prop :=
 ∀(E:Value->Shared->Prop)(x y:Value)(a b:κ.α)(Q:Bool->Shared->Prop),κ.keyOf x=some a->κ.keyOf y=some b->Q (κ.blt a b) s->wpAny (model prog w) A (keyLt' kd x y) Q E s
section
variable{prog:Program}{w:World}{A:Around}{E:Value->Shared->Prop}{s:Shared}{kd:SortKind}{κ:KeyKind}
theorem w_lt{x y:Keyed}{Q:Option Bool->SortSt->Prop}(C:CmpOk prog w A s kd κ)(O:kindOf st=kd)(S:Has κ x)(V:Has κ y)(h:Q (some$ κ.blt (kk κ x)$ kk κ y) st):wpS (model prog w) A E s (lt' x y) Q st:=by
 rw[lt'_eq];refine qAF$ qBW ?_;rw[O];exact qAF$ qBu$ qB9$ C _ x.1 y.1 _ _ _ S.key V.key ⟨rF,qAH h⟩
theorem zB2{O:Array Keyed}{p:Keyed}{Q:Keyed->SortSt->Prop}(e:O[i]?=some p)(h:Q p st):wpS (model prog w) A E s (elem' O i) Q st:=by
 rw[elem'_eq,e];exact qAH h
theorem uY{j:Nat}{Q:Option Bool->SortSt->Prop}(C:CmpOk prog w A s kd κ)(V:kindOf st=kd)(hi:∃p,(arrOf st)[i]?=some p/\Has κ p)(W:∃p,(arrOf st)[j]?=some p/\Has κ p)
  (h:Q (some$ κ.blt (KK κ (arrOf st) i)$ KK κ (arrOf st) j) st):wpS (model prog w) A E s (ltAt' i j) Q st:=by
 obtain⟨p,O,h1⟩:=hi;obtain⟨q,S,h2⟩:=W;rw[qU O,qU S]at h;rw[ltAt'_eq];exact qAF$ qBW$ qAF$ zB2 O$ qAF$ zB2 S$ w_lt C V h1 h2 h
def byd(O:Bool)(key:Keyed)(arr:Array Keyed)(base i:Nat):StateT SortSt Sem (Option Bool):=do
 let x<-elem' arr (base+i)
 if O=true then lt' x key else(do let r<-lt' key x;pure (r.map λb=>!b))
theorem xm{O:Bool}{key:Keyed}{S:Array Keyed}{base:Nat}{Q:Option Bool->SortSt->Prop}(C:CmpOk prog w A s kd κ)(W:kindOf st=kd)(V:Has κ key)(hi:∃p,S[base+i]?=some p/\Has κ p)
  (h:Q (some$ if O=true then κ.blt (KK κ S$ base+i) (kk κ key)else !κ.blt (kk κ key) (KK κ S$ base+i)) st):wpS (model prog w) A E s (byd O key S base i) Q st:=by
 obtain⟨p,e,hp⟩:=hi;rw[qU e]at h;refine qAF$ zB2 e ?_
 cases O with
 |true=>exact w_lt C W hp V h
 |false=>exact qAF$ w_lt C W V hp$ qAH h
end
end Tim
namespace ST
open PySem PySem.SetTable
variable{xs:Array Nat}{i j mask N:Nat}{α:Type}{hs:List Int}
abbrev gr(l:List Nat):Prop:=l.Pairwise (·<·)
theorem zE3(V:gr xs.toList){k:Nat}{x y:Nat}(O:i<k)(ex:xs[i]?=some x)(S:xs[k]?=some y):x<y:=by
 rw[<-qAo]at ex S;obtain⟨hi,rfl⟩:=qAL.mp ex;obtain⟨W,rfl⟩:=qAL.mp S;exact List.pairwise_iff_getElem.mp V i k hi W O
structure Bel(xs:Array Nat)(j r:Nat):Prop where
 le:r<=xs.size
 lo:∀i x,i<r->xs[i]?=some x->x<j
 hi:∀i x,r<=i->xs[i]?=some x->j<=x
theorem zJ4(S:gr xs.toList) :∀(O lo hi:Nat),hi-lo<=O->lo<=hi->hi<=xs.size->(∀i x,i<lo->xs[i]?=some x->x<j)->(∀i x,hi<=i->xs[i]?=some x->j<=x)->Bel xs j (below.go xs j O lo hi)
 |0,lo,hi,h1,h2,h3,h4,h5=>by
  have e:lo=hi:=Ll
  subst e;exact⟨h3,h4,h5⟩
 |O+1,lo,hi,h1,h2,h3,h4,h5=>by
  unfold below.go
  by_cases c:lo<hi
  .rw [qAC c];have hm:(lo+hi) / 2<xs.size:=Ll
   have V:xs[(lo+hi) / 2]?=some xs[(lo+hi) / 2]:=ss
   have eD:xs.getD ((lo+hi) / 2) j=xs[(lo+hi) / 2]:=by simp[Array.getD,hm]
   show Bel xs j (if xs.getD ((lo+hi) / 2) j<j then _ else _);rw[eD]
   by_cases d:xs[(lo+hi) / 2]<j
   .rw [qAC d];refine zJ4 S O _ hi Ll Ll h3 (λi x W ex=>?_) h5
    by_cases q:i=(lo+hi) / 2
    .subst q;rw[V]at ex;cases ex;exact d
    .have:=zE3 S (show i<(lo+hi) / 2 by lia) ex V;lia
   .rw [qAB d];refine zJ4 S O lo _ Ll Ll Ll h4 λi x W ex=>?_
    by_cases q:i=(lo+hi) / 2
    .subst q;rw[V]at ex;cases ex;lia
    .have:=zE3 S (show(lo+hi) / 2<i by lia) V ex;lia
  .rw [qAB c];have e:lo=hi:=Ll
   subst e;exact⟨h3,h4,h5⟩
theorem zE7(O:gr xs.toList)(j:Nat):Bel xs j (below xs j) :=
 zJ4 O xs.size 0 xs.size Ll Ll (qAG _) (λi x h=>Ll) (λi x h e=>by
  have:=(qBM.mp e).1;lia)
theorem Bel.at(S:gr xs.toList){r:Nat}(B:Bel xs j r)(e:xs[i]?=some j):r=i:=by
 rcases Nat.lt_trichotomy r i with z|z|z
 .have hi:i<xs.size:=(qBM.mp e).1;have O:xs[r]?=some (xs[r]' Ll):=ss
  have h1:=B.hi r _ (qAG _) O;have h2:=zE3 S z O e;lia
 .exact z
 .have:=B.lo i j z e;lia
def Tb(mask:Nat):SetTable:={mask:=mask,place:=#[],dummies:=#[],finger:=0,led:=false,moves:=0,plain:=false}
def pr(mask:Nat)(h:Int):Nat->Probe
 |0=>(Tb mask).probeStart h
 |n+1=>(Tb mask).advance (pr mask h n)
def rs(mask:Nat)(h:Int):Nat->Nat×Nat
 |0=>(bits h % (mask+1),bits h)
 |r+1=>leap mask (rs mask h r).1 (rs mask h r).2
def stt(mask:Nat)(h:Int):Nat->Nat
 |0=>0
 |r+1=>stt mask h r+(runEnd mask (rs mask h r).1-(rs mask h r).1+1)
theorem m7(mask:Nat)(h:Int):∀r,(rs mask h r).1<=mask
 |0=>Nat.le_of_lt_succ (Nat.mod_lt _$ Nat.succ_pos _)
 |r+1=>Nat.le_of_lt_succ (Nat.mod_lt _$ Nat.succ_pos _)
theorem lC(mask i:Nat)(hi:i<=mask):i<=runEnd mask i/\runEnd mask i<=mask/\runEnd mask i-i<=9:=by
 unfold runEnd;split<;>lia
theorem rK(mask:Nat)(h:Int):∀r,stt mask h r<=10*r
 |0=>qAG _
 |r+1=>by
  have h1:=rK mask h r;have h2:=(lC mask _$ m7 mask h r).2.2;show stt mask h r+(runEnd mask (rs mask h r).1-(rs mask h r).1+1)<=_;lia
theorem rC(mask:Nat)(p:Probe)(h:p.more>0):(Tb mask).advance p={p with j:=p.j+1,more:=p.more-1}:=by
 unfold advance;rw[qAC h]
theorem qV(mask:Nat)(p:Probe)(h:p.more=0):(Tb mask).advance p={p with j:=(leap mask p.i p.perturb).1,more:=runEnd mask (leap mask p.i p.perturb).1-(leap mask p.i p.perturb).1,i:=(leap mask p.i p.perturb).1,perturb:=(leap mask p.i p.perturb).2}:=by
 unfold advance;rw[qAB Ll];rfl
theorem zFs(mask:Nat)(h:Int):∀(r k:Nat),k<=runEnd mask (rs mask h r).1-(rs mask h r).1 ->
  pr mask h (stt mask h r+k)={j:=(rs mask h r).1+k,more:=runEnd mask (rs mask h r).1-(rs mask h r).1-k,i:=(rs mask h r).1,perturb:=(rs mask h r).2,dummy:=none}
 |0,0,_=>rfl
 |r+1,0,_=>by
  have O:=zFs mask h r (runEnd mask (rs mask h r).1-(rs mask h r).1)$ qAG _;show pr mask h (stt mask h r+(runEnd mask (rs mask h r).1-(rs mask h r).1)+1)=_;show(Tb mask).advance (pr mask h$ stt mask h r+(runEnd mask (rs mask h r).1-(rs mask h r).1))=_;rw[O,qV _ _ ss];rfl
 |r,k+1,S=>by
  have O:=zFs mask h r k Ll;show(Tb mask).advance (pr mask h$ stt mask h r+k)=_;rw[O,rC _ _$ by show _-k>0;lia];simp only[Probe.mk.injEq];exact⟨Ll,Ll,trivial,trivial,trivial⟩
theorem uC(mask:Nat)(h:Int)(n:Nat):∃r k,n=stt mask h r+k/\k<=runEnd mask (rs mask h r).1-(rs mask h r).1:=by
 induction n with
 |zero=>exact⟨0,0,rF,qAi _⟩
 |succ n O=>
  obtain⟨r,k,e,S⟩:=O
  by_cases c:k<runEnd mask (rs mask h r).1-(rs mask h r).1
  .exact ⟨r,k+1,Ll,c⟩
  .refine ⟨r+1,0,?_,qAi _⟩;show n+1=stt mask h r+(runEnd mask (rs mask h r).1-(rs mask h r).1+1)+0;lia
theorem uH(mask:Nat)(h:Int)(n:Nat):(pr mask h n).j<=mask:=by
 obtain⟨r,k,e,O⟩:=uC mask h n;rw[e,zFs mask h r k O];have:=lC mask _$ m7 mask h r;show(rs mask h r).1+k<=mask;lia
theorem qw(mask:Nat)(h:Int)(n:Nat):(pr mask h n).dummy=none:=by
 obtain⟨r,k,e,O⟩:=uC mask h n;rw[e,zFs mask h r k O]
theorem sH(h:Int):bits h<2^64:=by
 unfold bits;have h1:=qAw h (show(2^64:Int)≠0 by decide);have h2:=qA0 h (show(0:Int)<2^64 by decide);lia
theorem lQ(mask:Nat)(h:Int):∀r,(rs mask h r).2=bits h / 32^r
 |0=>by simp[rs]
 |r+1=>by
  show(rs mask h r).2 / 32=_;rw[lQ mask h r,Nat.div_div_eq_div_mul,Nat.pow_succ]
theorem q_(mask:Nat)(h:Int)(r:Nat)(O:13<=r):(rs mask h r).2=0:=by
 rw[lQ];have h1:=sH h;have h2:32^13<=32^r:=Nat.pow_le_pow_right dD O;have h3:(2:Nat)^64<32^13:=dD
 exact Nat.div_eq_of_lt Ll
def f5(mask i:Nat):Nat:=(i*5+1) % (mask+1)
def it5(mask:Nat):Nat->Nat->Nat
 |0,i=>i
 |n+1,i=>it5 mask n (f5 mask i)
theorem zH2(mask:Nat):∀(a b i:Nat),it5 mask (a+b) i=it5 mask b (it5 mask a i)
 |0,b,i=>by rw[Nat.zero_add];rfl
 |a+1,b,i=>by
  rw[show a+1+b=(a+b)+1 by lia];show it5 mask (a+b) (f5 mask i)=it5 mask b (it5 mask a$ f5 mask i);exact zH2 mask a b _
theorem we(mask:Nat)(h:Int)(n:Nat):(rs mask h$ 13+n).1=it5 mask n (rs mask h 13).1:=by
 induction n with
 |zero=>rfl
 |succ n O=>
  show(leap mask (rs mask h$ 13+n).1 (rs mask h$ 13+n).2).1=_;rw[q_ mask h (13+n) Ll,O,show n+1=n+1 from rfl,zH2 mask n 1];show((it5 mask n _)*5+1+0 / 32) % (mask+1)=f5 mask (it5 mask n _);unfold f5;simp
def Msk(mask:Nat):Prop:=mask=7\/mask=31\/mask=127\/mask=511
def orb(mask:Nat):Nat->Nat->List Nat
 |0,_=>[]
 |n+1,i=>i::orb mask n (f5 mask i)
theorem mG(mask:Nat):∀(n i s:Nat),s∈orb mask n i->∃a,a<n/\it5 mask a i=s
 |0,i,s,h=>by simp[orb]at h
 |n+1,i,s,h=>by
  rcases qAT.mp h with z|z
  .exact ⟨0,Ll,z.symm⟩
  .obtain ⟨a,O,e⟩:=mG mask n (f5 mask i) s z;exact⟨a+1,Ll,e⟩
theorem sJ(hm:Msk mask):(List.range$ mask+1).all (λs=>(orb mask (mask+1) 0).contains s)=true/\it5 mask (mask+1) 0=0:=by
 rcases hm with rfl|rfl|rfl|rfl
 .exact ⟨kK,kK⟩
 .exact ⟨kK,kK⟩
 .exact ⟨kK,kK⟩
 .exact ⟨kK,kK⟩
theorem cyc(hm:Msk mask)(i s:Nat)(hi:i<=mask)(hs:s<=mask):∃r,r<=mask/\it5 mask r i=s:=by
 obtain⟨h1,h2⟩:=sJ hm
 have get:∀x,x<=mask->∃a,a<mask+1/\it5 mask a 0=x:=λx V=>by
  have:=qBt.mp h1 x$ qBH.mpr Ll;exact mG mask (mask+1) 0 x (by simpa using this)
 obtain⟨a,W,O⟩:=get i hi;obtain⟨b,hb,S⟩:=get s hs
 by_cases c:a<=b
 .refine ⟨b-a,Ll,?_⟩;rw[<-O,<-zH2,show a+(b-a)=b by lia,S]
 .refine ⟨mask+1-a+b,Ll,?_⟩;rw[<-O,<-zH2,show a+(mask+1-a+b)=mask+1+b by lia,zH2,h2,S]
theorem qa(hm:Msk mask)(h:Int)(s:Nat)(hs:s<=mask):∃r,r<=13+mask/\(rs mask h r).1=s:=by
 obtain⟨r,O,e⟩:=cyc hm (rs mask h 13).1 s (m7 mask h 13) hs;exact⟨13+r,Ll,by rw[we,e]⟩
theorem gQ{L:List Nat}(O:L.length<=mask):∃s,s<=mask/\s∉L:=by
 apply qBh;intro h
 have sub:∀s,s∈List.range (mask+1)->s∈L:=λs hs=>by
  apply qBh;intro q;exact h ⟨s,by have:=qBH.mp hs;lia,q⟩
 have:=(List.nodup_range (n:=mask+1)).length_le_of_subset sub;rw[List.length_range]at this;lia
theorem si(hm:Msk mask)(h:Int){L:List Nat}(O:L.length<=mask):∃n,n<10*turns mask/\(pr mask h n).j∉L:=by
 obtain⟨s,hs,q⟩:=gQ O;obtain⟨r,S,e⟩:=qa hm h s hs;refine⟨stt mask h r,?_,?_⟩
 .have:=rK mask h r;unfold turns;lia
 .have:=zFs mask h r 0$ qAi _;rw[qCx]at this;rw[this];show(rs mask h r).1+0∉L;rw[qCx,e];exact q
theorem zI1(hm:Msk mask)(h:Int){L:List Nat}(V:L.length<=mask):∃n,n<10*turns mask/\(pr mask h n).j∉L/\∀m,m<n->(pr mask h m).j∈L:=by
 obtain⟨n,W,q⟩:=si hm h V
 induction n using Nat.strongRecOn with
 |_ n ih=>
  by_cases c:∃m,m<n/\(pr mask h m).j∉L
  .obtain ⟨m,O,qm⟩:=c;exact ih m O Ll qm
  .refine ⟨n,W,q,λm S=>?_⟩;apply qBh;intro z;exact c ⟨m,S,z⟩
structure TOk(t:SetTable)(hs:List Int):Prop where
 m:Msk t.mask
 d:t.dummies=#[]
 r:gr t.place.toList
 l:∀j∈t.place.toList,j<=t.mask
 n:t.place.size=hs.length
 f:t.place.size<=t.mask
 reach:∀(i j:Nat)(h:Int),t.place[i]?=some j->hs[i]?=some h->∃n,(pr t.mask h n).j=j/\∀m,m<n->(pr t.mask h m).j∈t.place.toList
theorem pk(O S:Nat)(led:Bool):TOk (SetTable.fresh O S led) [] :=
 ⟨.inl rF,rF,List.Pairwise.nil,(λj h=>absurd (show j∈([]:List Nat)from h) ss),rF,qAi _,(λi j h _ e=>by simp at e)⟩
theorem mH(j:Nat):has #[] j=false:=by
 unfold SetTable.has;simp
section
variable{t:SetTable}{hs:List Int}
theorem gA(T:TOk t hs)(e:t.place[i]?=some j):t.slot j= .live i:=by
 have b:=(zE7 T.r j).at T.r e;unfold slot;rw[b];show(if(t.place[i]?==some j)=true then _ else _)=_;rw[e];simp
theorem li(T:TOk t hs)(h:j∉t.place.toList):t.slot j= .empty:=by
 unfold slot
 have e:(t.place[below t.place j]?==some j)=false:=by
  rw[qBG];intro z;exact h (qAJ (i:=below t.place j)$ by rw[qAo];exact z)
 simp only[e,T.d,mH];simp
theorem vK(h:j∈xs.toList):∃i:Nat,xs[i]?=some j:=by
 obtain⟨i,hi,e⟩:=qBL.mp h;exact⟨i,by rw[<-qAo];exact qAL.mpr ⟨hi,e⟩⟩
def Oth(t:SetTable)(hashAt:Nat->Int)(h:Int)(m:Nat):Prop:=∃i:Nat,t.place[i]?=some (pr t.mask h m).j/\hashAt i≠h
theorem re(t:SetTable)(h:Int)(n:Nat):t.advance (pr t.mask h n)=pr t.mask h (n+1):=rfl
theorem uv(T:TOk t hs)(hashAt:Nat->Int)(h:Int)(hN:(pr t.mask h N).j∉t.place.toList)(hb:∀m,m<N->(pr t.mask h m).j∈t.place.toList):∀(d n O:Nat),N=n+d->d<O ->
  (probe.go t hashAt h O (pr t.mask h n)=some (.empty (pr t.mask h N).j none)/\∀m,n<=m->m<N->Oth t hashAt h m) \/
  ∃m i,n<=m/\m<N/\t.place[i]?=some (pr t.mask h m).j/\hashAt i=h/\probe.go t hashAt h O (pr t.mask h n)=some (.candidate (pr t.mask h m).j i$ pr t.mask h$ m+1)/\∀S,n<=S->S<m->Oth t hashAt h S
 |0,n,O+1,e,_=>by
  have e:N=n:=Ll
  subst e;left;refine⟨?_,λm h1 h2=>Ll⟩;unfold probe.go;rw[li T hN];show some (Met.empty _ (pr t.mask h N).dummy)=_;rw[qw]
 |d+1,n,O+1,e,hf=>by
  obtain⟨i,V⟩:=vK$ hb n Ll;unfold probe.go;rw[gA T V]
  by_cases c:hashAt i=h
  .right;refine⟨n,i,qAG _,Ll,V,c,?_,λS h1 h2=>Ll⟩;show(if(hashAt i==h)=true then _ else _)=_;rw[qAC (by simpa using c),re]
  .have q:(if(hashAt i==h)=true then some (Met.candidate (pr t.mask h n).j i$ t.advance$ pr t.mask h n)else probe.go t hashAt h O (t.advance$ pr t.mask h n))=probe.go t hashAt h O (pr t.mask h$ n+1):=by
    rw[qAB (by simpa using c),re]
   rcases uv T hashAt h hN hb d (n+1) O Ll Ll with⟨z1,W⟩|⟨m,i',z1,W,z3,z4,z5,z6⟩
   .left;refine⟨q.trans z1,λm h1 h2=>?_⟩
    by_cases cm:m=n
    .subst cm;exact⟨i,V,c⟩
    .exact W m Ll h2
   .right;refine⟨m,i',Ll,W,z3,z4,q.trans z5,λS h1 h2=>?_⟩
    by_cases cm:S=n
    .subst cm;exact⟨i,V,c⟩
    .exact z6 S Ll h2
 |_,_,0,_,h=>Ll
theorem zJt(xs:Array α)(p:Nat)(x:α)(O:p<=xs.size):(insertAt xs p x).toList=xs.toList.take p++x::xs.toList.drop p:=by
 unfold insertAt;rw[qCY,qCK,qBi,qBi,List.extract_eq_drop_take,List.extract_eq_drop_take];rw[qBN (l:=xs.toList.drop p) ss];simp
theorem rJ(S:gr xs.toList)(W:j∉xs.toList):gr (insertAt xs (below xs j) j).toList:=by
 have B:=zE7 S j;rw[zJt _ _ _ B.le];refine List.pairwise_append.mpr ⟨S.sublist$ List.take_sublist _ _,List.pairwise_cons.mpr ⟨λy O=>?_,S.sublist$ List.drop_sublist _ _⟩,λx hx y O=>?_⟩
 .obtain ⟨i,hi,rfl⟩:=qBL.mp O;rw[qAz]at hi
  have e:xs[below xs j+i]?=some (xs.toList.drop$ below xs j)[i]:=by
   rw[<-qAo,<-qCL];simp
  have h1:=B.hi _ _ (qCy _ i) e;have h2:(xs.toList.drop$ below xs j)[i]≠j:=λz=>W$ z▸qCz O;lia
 .have V:x<j:=by
   obtain⟨i,hi,rfl⟩:=qBL.mp hx;rw[qAU]at hi
   have e:xs[i]?=some (xs.toList.take$ below xs j)[i]:=by
    rw[<-qAo,<-qDD$ show i<below xs j by lia];exact qAq _
   exact B.lo i _ Ll e
  rcases qAT.mp O with z|z
  .rw [z];exact V
  .obtain ⟨i,hi,rfl⟩:=qBL.mp z;rw[qAz]at hi
   have e:xs[below xs j+i]?=some (xs.toList.drop$ below xs j)[i]:=by
    rw[<-qAo,<-qCL];simp
   have h1:=B.hi _ _ (qCy _ i) e;lia
theorem zGl{O:Type}{L:List α}{M:List O}(hl:L.length=M.length){p:Nat}(hp:p<=L.length){x:α}{y:O}{u:α}{v:O}(h1:(L.take p++x::L.drop p)[i]?=some u)(h2:(M.take p++y::M.drop p)[i]?=some v) :
  (u=x/\v=y)\/∃S:Nat,L[S]?=some u/\M[S]?=some v:=by
 have V:(L.take p).length=p:=by rw[qAU];lia
 have W:(M.take p).length=p:=by rw[qAU];lia
 by_cases c:i<p
 .rw [qA5 Ll,qDD c]at h1 h2;exact .inr ⟨i,h1,h2⟩
 .rw [qBJ Ll]at h1 h2;rw[V]at h1;rw[W]at h2
  cases e:i-p with
  |zero=>
   rw[e]at h1 h2;exact .inl ⟨(by simpa using h1.symm),(by simpa using h2.symm)⟩
  |succ k=>
   rw[e]at h1 h2;rw[qCZ,qCL]at h1 h2;exact .inr ⟨p+k,h1,h2⟩
theorem vI(T:TOk t hs)(h:Int)(hN:(pr t.mask h N).j∉t.place.toList)(hb:∀m,m<N->(pr t.mask h m).j∈t.place.toList)(hf:t.place.size+1<=t.mask) :
  TOk (t.put (pr t.mask h N).j).1 (hs.take (t.put (pr t.mask h N).j).2++h::hs.drop (t.put (pr t.mask h N).j).2):=by
 have B:=zE7 T.r (pr t.mask h N).j;have ep:(t.put (pr t.mask h N).j).2=below t.place (pr t.mask h N).j:=rfl;have O:(t.put (pr t.mask h N).j).1.place=insertAt t.place (below t.place (pr t.mask h N).j) (pr t.mask h N).j:=rfl;have em:(t.put (pr t.mask h N).j).1.mask=t.mask:=rfl;have tl:=zJt t.place (below t.place (pr t.mask h N).j) (pr t.mask h N).j B.le
 have S:∀j,j∈t.place.toList->j∈(insertAt t.place (below t.place (pr t.mask h N).j) (pr t.mask h N).j).toList:=λj V=>by
  rw[tl];have:j∈t.place.toList.take (below t.place (pr t.mask h N).j)++t.place.toList.drop (below t.place (pr t.mask h N).j):=by rw[qBb];exact V
  rcases qAR.mp this with z|z
  .exact qAp _ z
  .exact qAs _$ qAX _ z
 have sz:(insertAt t.place (below t.place (pr t.mask h N).j) (pr t.mask h N).j).size=t.place.size+1:=by
  have:=qAl List.length tl;simp only[qB2,qAN,qAa,qAU,qAz]at this;have:=B.le;lia
 refine⟨T.m,?_,rJ T.r hN,λj V=>?_,?_,?_,λi j h' e1 e2=>?_⟩
 .show (if has t.dummies (pr t.mask h N).j then _ else t.dummies)=#[];rw[T.d,mH];rfl
 .rw [em];rw[O,tl]at V;rcases qAR.mp V with z|z
  .exact T.l j$ qBj z
  .rcases qAT.mp z with z|z
   .rw [z];exact uH _ _ _
   .exact T.l j$ qCz z
 .rw [O,sz,ep,qAN,qAa,qAU,qAz];have:=B.le;have:=T.n;lia
 .rw [O,sz];exact hf
 .rw [em];rw[O,<-qAo,tl]at e1;rw[ep]at e2;rw[O];rcases zGl (L:=t.place.toList) (M:=hs) (by simpa using T.n) (by simpa using B.le) e1 e2 with⟨W,z2⟩|⟨i',W,z2⟩
  .subst W z2;exact⟨N,rF,λm hm=>S _$ hb m hm⟩
  .obtain ⟨n,q1,q2⟩:=T.reach i' j h' (by rw[<-qAo];exact W) z2;exact⟨n,q1,λm hm=>S _$ q2 m hm⟩
end
structure Ow(mask:Nat)(hs:List Int)(owner:Array (Option Nat))(sl:List Nat):Prop where
 z:owner.size=mask+1
 n:sl.length=hs.length
 nd:sl.Nodup
 l:∀j∈sl,j<=mask
 a:∀(k j:Nat),sl[k]?=some j->owner[j]?=some (some k)
 e:∀j,j<=mask->j∉sl->owner[j]?=some none
 reach:∀(k j:Nat)(h:Int),sl[k]?=some j->hs[k]?=some h->∃n,(pr mask h n).j=j/\∀m,m<n->(pr mask h m).j∈sl
theorem zJm{owner:Array (Option Nat)}{sl:List Nat}(O:Ow mask hs owner sl)(V:j<=mask):((owner.getD j$ some 0).isNone=true)↔j∉sl:=by
 have S:j<owner.size:=by rw[O.z];lia
 have W:owner.getD j (some 0)=owner[j]:=by simp[Array.getD,S]
 rw[W];constructor
 .intro h q;obtain⟨k,hk,e⟩:=qBL.mp q;have:=O.a k j$ qAL.mpr ⟨hk,e⟩;rw[Array.getElem?_eq_getElem S]at this;rw[qAb this]at h;simp at h
 .intro q;have:=O.e j V q;rw[Array.getElem?_eq_getElem S]at this;rw[qAb this];rfl
theorem nq{owner:Array (Option Nat)}{sl:List Nat}(hm:Msk mask)(O:Ow mask hs owner sl)(hl:sl.length<=mask)(h:Int)(hN:(pr mask h N).j∉sl)(hb:∀m,m<N->(pr mask h m).j∈sl){R:Nat}(hR:(rs mask h R).1∉sl) :
  ∀(S r:Nat),stt mask h r<=N->R<r+S->layClean.free mask owner S (rs mask h r).1 (rs mask h r).2=some (pr mask h N).j
 |0,r,h1,h2=>by
  exfalso
  have key:∀d,stt mask h R<=stt mask h (R+d)/\(0<d->stt mask h R<stt mask h (R+d)):=by
   intro d
   induction d with
   |zero=>exact⟨qAG _,λz=>Ll⟩
   |succ d ih=>
    have e:stt mask h (R+(d+1))=stt mask h (R+d)+(runEnd mask (rs mask h$ R+d).1-(rs mask h$ R+d).1+1):=rfl;exact⟨Ll,λ_=>Ll⟩
  obtain⟨d,rfl⟩:∃d,r=R+d:=⟨r-R,Ll⟩;have hd:0<d:=Ll
  have:=(key d).2 hd;have q:=hb (stt mask h R) Ll;have e:=zFs mask h R 0$ qAi _;rw[qCx]at e;rw[e]at q;exact hR (by simpa using q)
 |S+1,r,h1,h2=>by
  have rl:=lC mask _$ m7 mask h r;unfold layClean.free
  cases q:(List.range$ runEnd mask (rs mask h r).1+1-(rs mask h r).1).find? λk=>(owner.getD ((rs mask h r).1+k)$ some 0).isNone with
  |some k=>
   have W:=List.find?_some q;have q2:=qDE q;rw[qBH]at q2;have W:((owner.getD ((rs mask h r).1+k)$ some 0).isNone)=true:=W;rw[zJm O Ll]at W;have e:=zFs mask h r k Ll;have hk:(pr mask h$ stt mask h r+k).j=(rs mask h r).1+k:=by rw[e]
   have c1:¬stt mask h r+k<N:=λz=>W$ hk▸hb _ z
   have c2:¬N<stt mask h r+k:=λz=>by
    obtain⟨d,hd⟩:∃d,N=stt mask h r+d:=⟨N-stt mask h r,Ll⟩;have ae:d<k:=Ll
    rw[List.find?_eq_some_iff_append]at q;obtain⟨_,as,bs,e1,e2⟩:=q
    have la:as.length=k:=by
     have:=qAl (λl=>l[as.length]?) e1;simp at this
     by_cases cc:as.length<runEnd mask (rs mask h r).1+1-(rs mask h r).1
     .rw [List.getElem?_range cc]at this;exact qAb this
     .rw [qC0$ by simp;lia]at this
      cases this
    have ad:d∈as:=by
     have aa:(List.range$ runEnd mask (rs mask h r).1+1-(rs mask h r).1)[d]?=some d:=List.getElem?_range Ll;rw[e1,qA5 Ll]at aa;exact qAJ aa
    have z1:=e2 d ad;have ed:=zFs mask h r d Ll;have V:(pr mask h N).j=(rs mask h r).1+d:=by rw[hd,ed]
    have z2:((owner.getD ((rs mask h r).1+d)$ some 0).isNone)=true:=(zJm O Ll).mpr$ V▸hN;rw[z2]at z1;simp at z1
   have eN:N=stt mask h r+k:=Ll
   show some ((rs mask h r).1+k)=_;rw[eN,hk]
  |none=>
   have W:=List.find?_eq_none.mp q;refine nq hm O hl h hN hb hR S (r+1) ?_ Ll;show stt mask h r+(runEnd mask (rs mask h r).1-(rs mask h r).1+1)<=N;apply qBh;intro c;obtain⟨d,hd⟩:∃d,N=stt mask h r+d:=⟨N-stt mask h r,Ll⟩;have ed:=zFs mask h r d Ll;have V:(pr mask h N).j=(rs mask h r).1+d:=by rw[hd,ed]
   have z1:=W d$ qBH.mpr Ll;have z2:((owner.getD ((rs mask h r).1+d)$ some 0).isNone)=true:=(zJm O Ll).mpr$ V▸hN;exact z1 z2
theorem ud{owner:Array (Option Nat)}{sl:List Nat}(hm:Msk mask)(O:Ow mask hs owner sl)(S:sl.length<=mask)(h:Int) :
  ∃N,(pr mask h N).j∉sl/\(∀m,m<N->(pr mask h m).j∈sl)/\layClean.free mask owner (turns mask) (bits h % (mask+1)) (bits h)=some (pr mask h N).j:=by
 obtain⟨N,_,W,hb⟩:=zI1 hm h S;obtain⟨s,V,q⟩:=gQ S;obtain⟨R,hR,e⟩:=qa hm h s V;exact⟨N,W,hb,nq hm O S h W hb (R:=R) (by rw[e];exact q) (turns mask) 0 (qAi _)$ by unfold turns;lia⟩
theorem Ow.more{owner:Array (Option Nat)}{sl:List Nat}(O:Ow mask hs owner sl)(h:Int)(hN:(pr mask h N).j∉sl)(hb:∀m,m<N->(pr mask h m).j∈sl) :
  Ow mask (hs++[h]) (owner.setIfInBounds (pr mask h N).j$ some hs.length) (sl++[(pr mask h N).j]):=by
 have hj:=uH mask h N;have hz:(pr mask h N).j<owner.size:=by rw[O.z];lia
 have one:∀{k j:Nat},(sl++[(pr mask h N).j])[k]?=some j->(k<sl.length/\sl[k]?=some j)\/(k=sl.length/\j=(pr mask h N).j):=λ{k j} e=>by
  by_cases c:k<sl.length
  .rw [qA5 c]at e;exact .inl ⟨c,e⟩
  .rw [qBJ Ll]at e
   have hk:k=sl.length:=by
    have:=(qAL.mp e).1;simp at this;lia
   subst hk;exact .inr ⟨rF,by simpa using e.symm⟩
 refine⟨by rw[qDF];exact O.z,by simp[O.n],?_,λj W=>?_,λk j e=>?_,λj aa S=>?_,λk j h' e1 V=>?_⟩
 .refine qBX.mpr ⟨O.nd,qBI.mpr ⟨ss,qBC⟩,λa ha b ad=>?_⟩;have:b=(pr mask h N).j:=by simpa using ad
  subst this;intro z;subst z;exact hN ha
 .rcases qAR.mp W with z|z
  .exact O.l j z
  .have:j=(pr mask h N).j:=by simpa using z
   rw[this];exact hj
 .rcases one e with⟨_,z⟩|⟨z1,z2⟩
  .have ae:j≠(pr mask h N).j:=λq=>hN$ q▸qAJ z;rw[qDG$ qAh ae];exact O.a k j z
  .subst z1 z2;rw[qDH hz,O.n]
 .have h1:j∉sl:=λq=>S$ qAp _ q;have h2:j≠(pr mask h N).j:=λq=>S (qAs _$ by simp[q]);rw[qDG$ qAh h2];exact O.e j aa h1
 .rcases one e1 with⟨c,z⟩|⟨z1,z2⟩
  .rw [qA5$ by rw[<-O.n];exact c]at V;obtain⟨n,q1,q2⟩:=O.reach k j h' z V;exact⟨n,q1,λm hm=>qAp _$ q2 m hm⟩
  .subst z1 z2;rw[qBJ (by rw[O.n];exact qAG _),O.n]at V;have:h'=h:=by simpa using V.symm
   subst this;exact⟨N,rF,λm hm=>qAp _$ hb m hm⟩
theorem vo(hm:Msk mask)(hs:List Int)(W:hs.length<=mask):∃owner sl,Ow mask hs owner sl/\layClean mask hs.toArray=some owner:=by
 have key:∀(rest S:List Int) (owner:Array (Option Nat)) (sl:List Nat),Ow mask S owner sl->S.length+rest.length<=mask ->
   ∃V aa,Ow mask (S++rest) V aa/\rest.foldl (λ(acc:Option (Array (Option Nat)×Nat)) h=>do
    let(owner,k)<-acc
    let j<-layClean.free mask owner (turns mask) (bits h % (mask+1)) (bits h)
    pure (owner.setIfInBounds j (some k),k+1)) (some (owner,S.length))=some (V,(S++rest).length):=by
  intro rest
  induction rest with
  |nil=>intro S owner sl O _;exact⟨owner,sl,by rw[qAm];exact O,by rw[qAm];rfl⟩
  |cons h rest ih=>
   intro S owner sl O W;rw[qAa]at W;obtain⟨N,hN,hb,ef⟩:=ud hm O (by rw[O.n];lia) h;have O2:=O.more h hN hb;obtain⟨o',s',O3,e3⟩:=ih (S++[h]) _ _ O2 (by rw[qAN];simp;lia);refine⟨o',s',by simpa using O3,?_⟩;rw[qBr]
   have e4:(do
    let(owner,k)<-(some (owner,S.length):Option (Array (Option Nat)×Nat))
    let j<-layClean.free mask owner (turns mask) (bits h % (mask+1)) (bits h)
    pure (owner.setIfInBounds j (some k),k+1))=some (owner.setIfInBounds (pr mask h N).j (some S.length),(S++[h]).length):=by
    show(do
     let j<-layClean.free mask owner (turns mask) (bits h % (mask+1)) (bits h)
     pure (owner.setIfInBounds j (some S.length),S.length+1))=_
    rw[ef];simp
   rw[e4,e3];simp
 have O0:Ow mask [] (Array.replicate (mask+1) none) []:=⟨Array.size_replicate,rF,qBC,(λj h=>absurd h qCa),(λk j e=>by rw[List.getElem?_nil]at e;cases e),(λj hj _=>by rw[Array.getElem?_replicate,qAC Ll]),(λk j h e=>by rw[List.getElem?_nil]at e;cases e)⟩;obtain⟨o,sl,O,e⟩:=key hs [] _ _ O0 (by simpa using W);refine⟨o,sl,by simpa using O,?_⟩;unfold layClean;rw[List.foldl_toArray];have e':=e;simp only[List.nil_append,qBB]at e';show Option.map _ (hs.foldl _$ some (Array.replicate (mask+1) none,0))=_;rw[e'];rfl
theorem tE(hm:Msk mask)(hs:List Int)(hl:hs.length<=mask)(fi mo:Nat)(led plain:Bool):∃t V,laid mask fi mo led plain hs.toArray=some (t,V)/\t.mask=mask/\t.led=led/\t.plain=plain/\V.toList.Perm (List.range hs.length) /\
  TOk t (V.toList.map λk=>hs.getD k 0):=by
 obtain⟨owner,sl,O,e⟩:=vo hm hs hl
 have hg:∀j,j<=mask->owner.getD j none=(owner[j]?).getD none:=λj hj=>by
  have hz:j<owner.size:=by rw[O.z];lia
  simp[Array.getD,hz]
 have el:∀j,j<=mask->((owner.getD j none).map (j,·)=none↔j∉sl):=λj hj=>by
  rw[hg j hj];constructor
  .intro q z;obtain⟨k,hk,ek⟩:=qBL.mp z;rw[O.a k j$ qAL.mpr ⟨hk,ek⟩]at q
   cases q
  .intro q;rw[O.e j hj q];rfl
 have es:∀j k,j<=mask->((owner.getD j none).map (j,·)=some (j,k)↔sl[k]?=some j):=λj k hj=>by
  rw[hg j hj];constructor
  .intro q
   by_cases c:j∈sl
   .obtain ⟨k',hk,ek⟩:=qBL.mp c;have ag:=qAL.mpr ⟨hk,ek⟩;rw[O.a k' j ag]at q;have q:some (j,k')=some (j,k):=q;injection q with q;injection q with _ q;rw[<-q];exact ag
   .rw [O.e j hj c]at q;cases q
  .intro q;rw[O.a k j q];rfl
 generalize W:(List.range$ mask+1).filterMap (λj=>(owner.getD j none).map (j,·))=S
 have aa:∀p,p∈S↔sl[p.2]?=some p.1:=λp=>by
  rw[<-W,List.mem_filterMap];constructor
  .rintro ⟨j,hj,q⟩;have ah:j<=mask:=by have:=qBH.mp hj;lia
   have:p.1=j:=by
    cases h:owner.getD j none with
    |none=>rw[h]at q;cases q
    |some k=>rw[h]at q;have q:some (j,k)=some p:=q;injection q with q;rw[<-q]
   subst this;exact(es p.1 p.2 ah).mp q
  .intro q;have hj:p.1<=mask:=O.l _$ qAJ q;exact⟨p.1,qBH.mpr Ll,(es p.1 p.2 hj).mpr q⟩
 have ad:gr (S.map (·.1)):=by
  have h1:(List.range$ mask+1).Pairwise (·<·):=List.pairwise_lt_range;rw[<-W,List.map_filterMap];refine List.Pairwise.filterMap _ (λa b ai x hx y hy=>?_) h1
  cases ha:owner.getD a none with
  |none=>rw[ha]at hx;cases hx
  |some k=>
   rw[ha]at hx;have hx:some a=some x:=hx
   cases hb:owner.getD b none with
   |none=>rw[hb]at hy;cases hy
   |some k'=>
    rw[hb]at hy;have hy:some b=some y:=hy;injection hx with hx;injection hy with hy;lia
 have aj:(S.map (·.2)).Nodup:=by
  have hr:S.Pairwise (λa b=>a.1<b.1):=List.pairwise_map.mp ad;refine List.pairwise_map.mpr$ hr.imp_of_mem λ{a b} ha hb ai q=>?_;have h1:=(aa a).mp ha;have h2:=(aa b).mp hb;rw[q]at h1;rw[h1]at h2;have:=qAb h2;lia
 have perm:(S.map (·.2)).Perm (List.range hs.length):=by
  refine(List.perm_ext_iff_of_nodup aj List.nodup_range).mpr λk=>?_;rw[qBH,qAe];constructor
  .rintro ⟨p,hp,rfl⟩;have:=(qAL.mp$ (aa p).mp hp).1;rw[O.n]at this;exact this
  .intro hk;have ak:k<sl.length:=by rw[O.n];exact hk
   exact⟨(sl[k],k),(aa _).mpr ss,rF⟩
 have ae:∀j,j∈S.map (·.1)↔j∈sl:=λj=>by
  rw[qAe];constructor
  .rintro ⟨p,hp,rfl⟩;exact qAJ$ (aa p).mp hp
  .intro q;obtain⟨k,hk,ek⟩:=qBL.mp q;exact⟨(j,k),(aa _).mpr$ qAL.mpr ⟨hk,ek⟩,rF⟩
 have af:S.length=hs.length:=by
  have:=perm.length_eq;simpa using this
 refine⟨{mask,place:=(S.map (·.1)).toArray,dummies:=#[],finger:=fi,led,moves:=mo,plain},(S.map (·.2)).toArray,?_,rF,rF,rF,by simpa using perm,?_⟩
 .unfold laid;rw[e];show some (_,_)=some (_,_);rw[W]
 .refine ⟨hm,rF,by simpa using ad,λj hj=>?_,by simp[af],by simp[af];exact hl,λi j h e1 e2=>?_⟩
  .exact O.l j ((ae j).mp$ by simpa using hj)
  .have e1:(S.map (·.1))[i]?=some j:=by simpa using e1
   have e2:((S.map (·.2)).map λk=>hs.getD k 0)[i]?=some h:=by simpa using e2
   cases q:S[i]? with
   |none=>rw[qAY,q]at e1;cases e1
   |some p=>
    rw[qAY,q]at e1;rw[qAY,qAY,q]at e2;have e1:p.1=j:=by simpa using e1
    have e2:hs.getD p.2 0=h:=by simpa using e2
    have hp:=(aa p).mp$ qAJ q;rw[e1]at hp;have hk:p.2<hs.length:=by rw[<-O.n];exact(qAL.mp hp).1
    have hh:hs[p.2]?=some h:=by
     rw[<-e2,qBg];simp[hk]
    obtain⟨n,q1,q2⟩:=O.reach p.2 j h hp hh
    exact⟨n,q1,λm hm=>by
     have:=(ae _).mpr$ q2 m hm;simpa using this⟩
section
variable{prog:Program}{w:World}{K:Type}[DecidableEq K]{knd:KeyKind prog w K}{A:Around}{E:Value->Shared->Prop}{s:Shared}
theorem gX{v:Value}(h:carriedByValue v=true):∀a,v≠.ref a:=by
 intro a e;subst e;simp[carriedByValue]at h
theorem sw(n:Nat){v:Value}(h:carriedByValue v=true):ofAClassStatement n v=pure false:=by
 cases v with
 |ref a=>exact absurd rF$ gX h a
 |_=>cases n<;>(unfold ofAClassStatement;rfl)
theorem ut{k:List K}{b:Addr}{Q:Bool->Shared->Prop}(hk:IsTupleKey knd s.heap k b)(h:Q false s):wpAny (model prog w) A (ofAClassStatement 8$ .ref b) Q E s:=by
 have hT:=hk.typeIs;obtain⟨o,S,n,ho,_,hd,hi⟩:=hk;unfold ofAClassStatement;refine qAA$ wpAny_typeOf hT ?_;show wpAny _ _ (if("tuple"=="tuple")=true then _ else _) _ _ _;rw[qAC dD];refine qAA$ qAE ?_;show wpAny _ _ (if(!true)=true then _ else _) _ _ _;rw[qAB dD];show wpAny _ _ (seqItems? (.ref b) >>= _) _ _ _;refine qAA ?_;show wpAny _ _ (load b >>= _) _ _ _;refine qAA$ qB4 ho ?_;rw[hd];refine qAE ?_;dsimp only;refine qAA ?_;show wpAny _ _ (forIn S _ _) _ _ s;rw[<-Array.forIn_toList];refine wpAny_forIn_list _ (λrest r s'=>r.1=none/\s'=s/\∀v∈rest,carriedByValue v=true) _ ?_ ?_ _ _ ⟨rF,rF,hi.byValue⟩
 .rintro v rest r s' ⟨V,rfl,O⟩;refine qAA$ qCM (sw _$ O v qAf) ?_;rw[qAB dD];exact qAE ⟨rF,rF,λu W=>O u$ qAX _ W⟩
 .rintro ⟨r1,r2⟩ s' ⟨V,rfl,_⟩;have V:r1=none:=V;subst V;exact qAE h
theorem u9{k:List K}{b:Addr}{stored:List Value}{Q:Bool->Shared->Prop}(hk:IsTupleKey knd s.heap k b)(hs:∀v∈stored,∃W O,v= .ref O/\IsTupleKey knd s.heap W O)(h:Q false s):wpAny (model prog w) A (searchCouldBeSeen (.ref b) stored) Q E s:=by
 unfold searchCouldBeSeen;refine qAA ?_;refine wpAny_forIn_list _ (λrest r s'=>r.1=none/\s'=s/\∀v∈rest,∃W O,v= .ref O/\IsTupleKey knd s.heap W O) _ ?_ ?_ _ _ ⟨rF,rF,hs⟩
 .rintro v rest r s' ⟨hr,rfl,V⟩;obtain⟨W,O,rfl,aa⟩:=V v qAf;have S:∀u∈rest,∃W O,u= .ref O/\IsTupleKey knd s'.heap W O:=λu ad=>V u$ qAX _ ad;dsimp only
  by_cases c:((b==O)||(carriedByValue (.ref b)&&carriedByValue (.ref O)))=true
  .rw [qAC c];exact qAE ⟨rF,rF,S⟩
  .rw [qAB c];refine qAA$ wpAny_eqIsQuiet_tuple hk ?_;rw[qAB dD];refine qAA$ wpAny_eqIsQuiet_tuple aa ?_;rw[qAB dD];refine qAA$ ut hk ?_;rw[qAB dD];refine qAA$ ut aa ?_;rw[qAB dD];exact qAE ⟨rF,rF,S⟩
 .rintro ⟨r1,r2⟩ s' ⟨hr,rfl,_⟩;have hr:r1=none:=hr;subst hr;exact qAE h
theorem rW(n:Nat){v:Value}(h:carriedByValue v=true):∃c,hashByValue n v=pure c:=by
 cases v with
 |ref a=>exact absurd rF$ gX h a
 |_=>cases n<;>(unfold hashByValue;exact⟨_,rF⟩)
theorem wC{k:List K}{b:Addr}{Q:Bool->Shared->Prop}(W:IsTupleKey knd s.heap k b)(h:∀c,Q c s):wpAny (model prog w) A (hashByValue 8$ .ref b) Q E s:=by
 have hT:=W.typeIs;obtain⟨o,S,n,ho,_,hd,hi⟩:=W;unfold hashByValue;refine qAA$ qCv hT F.slot_tuple_hash.lookup ?_;show wpAny _ _ (seqItems? (.ref b) >>= _) _ _ _;refine qAA ?_;show wpAny _ _ (load b >>= _) _ _ _;refine qAA$ qB4 ho ?_;rw[hd];refine qAE ?_;dsimp only;refine qAA ?_;show wpAny _ _ (forIn S _ _) _ _ s;rw[<-Array.forIn_toList];refine wpAny_forIn_list _ (λrest r s'=>s'=s/\∀v∈rest,carriedByValue v=true) _ ?_ ?_ _ _ ⟨rF,hi.byValue⟩
 .rintro v rest r s' ⟨rfl,O⟩;obtain⟨c,ec⟩:=rW 7$ O v qAf;rw[ec];refine qAA$ qAE ?_;split
  .exact qAE$ qAE$ h _
  .exact qAE ⟨rF,λu V=>O u$ qAX _ V⟩
 .rintro ⟨r1,r2⟩ s' ⟨rfl,_⟩
  cases r1 with
  |none=>exact qAE$ h _
  |some c=>exact qAE$ h _
end
section
variable{prog:Program}{w:World}{K:Type}[DecidableEq K]{knd:KeyKind prog w K}{A:Around}{E:Value->Shared->Prop}{s:Shared}
def en(knd:KeyKind prog w K)(p:List K×Addr):Int×Value:=(tupleKeyHash knd p.1,.ref p.2)
def byt(w:World):Bool:=w.params.followText "set-order"
structure SetX(knd:KeyKind prog w K)(h:Heap)(a:Addr)(xs:List (List K×Addr))(o:Obj)(es:Array (Int×Value))(ep:Nat)(t:SetTable):Prop where
 ho:h.get? a=some o
 ex:o.ExactSet
 hd:o.data= .set es ep t
 el:es.toList=xs.map (en knd)
 ok:TOk t (xs.map λp=>tupleKeyHash knd p.1)
 room:xs.length*5<t.mask*3
 nd:(xs.map (·.1)).Nodup
 ky:∀p∈xs,IsTupleKey knd h p.1 p.2
 ld:t.led= !byt w
section
variable{a:Addr}{xs:List (List K×Addr)}{o:Obj}{es:Array (Int×Value)}{ep:Nat}{t:SetTable}
theorem SetX.at(X:SetX knd s.heap a xs o es ep t)(i:Nat):es[i]?=(xs[i]?).map (en knd):=by
 rw[<-qAo,X.el,qAY]
theorem SetX.size(X:SetX knd s.heap a xs o es ep t):es.size=xs.length:=by
 have:=qAl List.length X.el;simpa using this
theorem SetX.fits(X:SetX knd s.heap a xs o es ep t):t.fits es.size=true:=by
 unfold SetTable.fits;have h1:t.place.size=es.size:=by rw[X.ok.n,X.size];simp
 have h2:t.fill<=t.mask:=by
  unfold fill;rw[X.ok.d];exact X.ok.f
 rw[h1];simp[h2]
theorem SetX.state(X:SetX knd s.heap a xs o es ep t){Q:(Array (Int×Value)×Nat×SetTable)->Shared->Prop}(h:Q (es,ep,t) s):wpAny (model prog w) A (setState a) Q E s:=wpAny_setState_of X.ho X.hd X.fits h
theorem tY{m:Nat}(h:Msk m):(m % 2==0)=false:=by
 rcases h with rfl|rfl|rfl|rfl<;>decide
theorem SetX.has(X:SetX knd s.heap a xs o es ep t)(e:t.place[i]?=some j):∃p,xs[i]?=some p:=by
 have h1:i<t.place.size:=(qBM.mp e).1;have h2:=X.ok.n;rw[qAD]at h2;exact⟨xs[i]' Ll,ss⟩
theorem lu{c:Bool}{m:Sem Bool}{u:String}{O:Unit->Sem α}{Q:α->Shared->Prop}(hm:∀f:Bool->Sem α,wpAny (model prog w) A (f false) Q E s->wpAny (model prog w) A (m >>= f) Q E s)(h:wpAny (model prog w) A (O ()) Q E s) :
  wpAny (model prog w) A (if c=true then(m >>= λl=>if l=true then(unsupported u >>= O)else O ())else O ()) Q E s:=by
 by_cases z:c=true
 .rw [qAC z];exact hm _ h
 .rw [qAB z];exact h
theorem p8(hu:A.units<cLine)(X:SetX knd s.heap a xs o es ep t){k:List K}{b:Addr}(hk:IsTupleKey knd s.heap k b)(hN:(pr t.mask (tupleKeyHash knd k) N).j∉t.place.toList)(hb:∀m,m<N->(pr t.mask (tupleKeyHash knd k) m).j∈t.place.toList)(ak:N<10*turns t.mask)
  {Q:SetFound->Shared->Prop} (h1:k∈xs.map (·.1)->Q (.there none) s) (h2:k∉xs.map (·.1)->Q (.free (pr t.mask (tupleKeyHash knd k) N).j false) s) :
  ∀(d n O:Nat)(S:Option Probe),N=n+d->d<O->S.getD (t.probeStart$ tupleKeyHash knd k)=pr t.mask (tupleKeyHash knd k) n ->
   (∀m,m<n->∃(i:Nat)(p:List K×Addr),t.place[i]?=some (pr t.mask (tupleKeyHash knd k) m).j/\xs[i]?=some p/\p.1≠k)->wpAny (model prog w) A (setSearchFrom a (.ref b) (tupleKeyHash knd k) true O S) Q E s:=by
 intro d
 induction d using Nat.strongRecOn with
 |_ d ih=>
  intro n O S e hf ag W;obtain⟨O,rfl⟩:∃f,O=f+1:=⟨O-1,Ll⟩;unfold setSearchFrom;refine qAA$ X.state ?_;show wpAny _ _ (if(t.mask % 2==0)=true then _ else _) _ _ _;rw[tY X.ok.m,qAB dD]
  have ad:∀m,Oth t (λi=>(es[i]?.map (·.1)).getD 0) (tupleKeyHash knd k) m->∃(i:Nat)(p:List K×Addr),t.place[i]?=some (pr t.mask (tupleKeyHash knd k) m).j/\xs[i]?=some p/\p.1≠k:=λm ⟨i,ei,hi⟩=>by
   obtain⟨p,ae⟩:=X.has ei;refine⟨i,p,ei,ae,λz=>hi ?_⟩;show(es[i]?.map (·.1)).getD 0=_;rw[X.at i,ae,<-z];rfl
  rw[ag];rcases uv X.ok (λi=>(es[i]?.map (·.1)).getD 0) (tupleKeyHash knd k) hN hb d n (10*turns t.mask) e Ll with⟨z1,z2⟩|⟨m,i,z1,z2,z3,z4,z5,z6⟩
  .have z1:t.probe (λi=>(es[i]?.map (·.1)).getD 0) (tupleKeyHash knd k) (pr t.mask (tupleKeyHash knd k) n)=some (.empty (pr t.mask (tupleKeyHash knd k) N).j none):=z1
   erw [z1]
   refine qAE$ h2 λhm=>?_;obtain⟨p,hp,rfl⟩:=qAe.mp hm;obtain⟨i,hi,ei⟩:=qBL.mp hp;have V:xs[i]?=some p:=qAL.mpr ⟨hi,ei⟩;have al:i<t.place.size:=by rw[X.ok.n,qAD];exact hi
   have aa:t.place[i]?=some t.place[i]:=ss
   obtain⟨q,q1,q2⟩:=X.ok.reach i t.place[i] (tupleKeyHash knd p.1) aa (by rw[qAY,V];rfl)
   have ah:q<N:=by
    apply qBh;intro c
    by_cases cq:q=N
    .subst cq;exact hN (by rw[q1];exact qAJ (i:=i)$ by rw[qAo];exact aa)
    .exact hN$ q2 N Ll
   have:∃(i':Nat)(p':List K×Addr),t.place[i']?=some (pr t.mask (tupleKeyHash knd p.1) q).j/\xs[i']?=some p'/\p'.1≠p.1:=by
    by_cases c:q<n
    .exact W q c
    .exact ad q$ z2 q Ll ah
   obtain⟨i',p',w1,w2,w3⟩:=this;rw[q1]at w1
   have:i'=i:=by
    rcases Nat.lt_trichotomy i' i with z|z|z
    .have:=zE3 X.ok.r z w1 aa;lia
    .exact z
    .have:=zE3 X.ok.r z aa w1;lia
   subst this;rw[V]at w2
   cases w2
   exact w3 rF
  .have z5:t.probe (λi=>(es[i]?.map (·.1)).getD 0) (tupleKeyHash knd k) (pr t.mask (tupleKeyHash knd k) n)=some (.candidate (pr t.mask (tupleKeyHash knd k) m).j i$ pr t.mask (tupleKeyHash knd k)$ m+1):=z5
   erw [z5]
   obtain⟨p,V⟩:=X.has z3;have hp:=X.ky p$ qAJ V;have af:es[i]?=some (tupleKeyHash knd p.1,.ref p.2):=by rw[X.at i,V];rfl
   refine lu (λf hf=>qAA$ u9 hk ?_ hf) ?_
   .intro v hv;obtain⟨q,hq,rfl⟩:=qAe.mp hv
    have hq:q∈es.toList:=by
     have:=(Array.mem_filter.mp$ qDC.mp hq).1;exact qDC.mpr this
    rw[X.el]at hq;obtain⟨p',ai,rfl⟩:=qAe.mp hq;exact⟨p'.1,p'.2,rF,X.ky p' ai⟩
   dsimp only;rw[af];dsimp only;refine qAA$ qAy$ wpAny_eqBool_tuple hu hp hk ?_;refine qAA$ X.state ?_;dsimp only
   by_cases c:p.1=k
   .rw [qAC$ by simp[c]];exact qAE$ h1$ qAe.mpr ⟨p,qAJ V,c⟩
   .rw [qAB$ by simp[c]];have aj:t.sameMemory t.moves t.mask=some true:=by unfold SetTable.sameMemory;simp
    rw[aj];dsimp only;rw[qAC rF,gA X.ok z3];dsimp only;rw[af];dsimp only;refine qAA$ wpAny_isSame_ref_self ?_;rw[qAC rF];refine qAA$ qAE ?_;dsimp only;rw[qAB$ by simp[c]];refine ih (N-(m+1)) Ll (m+1) O (some _) Ll Ll rF ?_;intro q hq
    by_cases cq:q<n
    .exact W q cq
    by_cases cm:q=m
    .subst cm;exact⟨i,p,z3,V,c⟩
    .exact ad q$ z6 q Ll Ll
end
end
section
variable{prog:Program}{w:World}{K:Type}[DecidableEq K]{knd:KeyKind prog w K}{A:Around}{E:Value->Shared->Prop}{s:Shared}
variable{a:Addr}{xs:List (List K×Addr)}{o:Obj}{es:Array (Int×Value)}{ep:Nat}{t:SetTable}
theorem mu{h h':Heap}{k:List K}{b:Addr}(x:IsTupleKey knd h k b)(ho:h.get? a=some o)(hd:o.data= .set es ep t)(hs:Heap.SameBut a h h'):IsTupleKey knd h' k b:=by
 obtain⟨S,its,n,O,p2,p3,V⟩:=x;refine⟨S,its,n,(hs.2 b λz=>?_).trans O,p2,p3,V⟩;subst z;have:=qAb$ O.symm.trans ho;subst this;rw[hd]at p3;exact nomatch p3
theorem lO{h:Heap}(ho:h.get? a=some o)(hd:o.data= .set es ep t)(O:Array (Int×Value))(t':SetTable):(h.update a$ Obj.putSet O t').get? a=some {o with data:=.set O (ep+1) t'}:=by
 have:=qA9 (Obj.putSet O t') ho (by rw[putSet_of O t' hd];rfl)
 rwa [putSet_of O t' hd]at this
theorem uF{h:Heap}(ho:h.get? a=some o)(ex:o.ExactSet)(hd:o.data= .set es ep t){O:Array (Int×Value)}{t':SetTable}{ys:List (List K×Addr)}(S:O.toList=ys.map (en knd))(V:TOk t' (ys.map λp=>tupleKeyHash knd p.1))(W:ys.length*5<t'.mask*3)(e4:(ys.map (·.1)).Nodup)(e5:∀p∈ys,IsTupleKey knd h p.1 p.2)(e6:t'.led= !byt w) :
  SetX knd (h.update a$ Obj.putSet O t') a ys {o with data:=.set O (ep+1) t'} O (ep+1) t' :=
 ⟨lO ho hd O t',ex,rF,S,V,W,e4,λp hp=>mu (e5 p hp) ho hd$ qAr h a _,e6⟩
theorem qk(b:Addr)(es:Array (Int×Value)):byScan (.ref b) es=false:=by
 unfold byScan;rfl
theorem oz{m n:Nat}(hm:Msk m)(h0:n*5<m*3)(h1:m*3<=(n+1)*5)(hc:n+1<=306):Msk (sizeAbove (grown$ n+1)-1)/\n+1<=sizeAbove (grown$ n+1)-1/\(n+1)*5<(sizeAbove (grown$ n+1)-1)*3/\sizeAbove (grown$ n+1)<=512:=by
 rcases hm with rfl|rfl|rfl|rfl
 .obtain rfl:n=4:=Ll
  refine⟨by unfold Msk;decide +kernel,kK,kK,kK⟩
 .obtain rfl:n=18:=Ll
  refine⟨by unfold Msk;decide +kernel,kK,kK,kK⟩
 .obtain rfl:n=76:=Ll
  refine⟨by unfold Msk;decide +kernel,kK,kK,kK⟩
 .lia
theorem nV(ys:List (List K×Addr))(O:List Nat)(W:O.Perm (List.range ys.length)):(O.filterMap (ys[·]?)).map (λp=>tupleKeyHash knd p.1)=O.map (λk=>(ys.map λp=>tupleKeyHash knd p.1).getD k 0):=by
 have S:∀k∈O,k<ys.length:=λk V=>qBH.mp$ W.mem_iff.mp V;clear W
 induction O with
 |nil=>rfl
 |cons k ks ih=>
  have V:=S k qAf;have e:ys[k]?=some ys[k]:=by simp[V]
  rw[qBo,e];show tupleKeyHash knd ys[k].1::_=_::_;rw[ih λq hq=>S q$ qAX _ hq];congr 1;show _=(List.map (λp=>tupleKeyHash knd p.fst) ys).getD k 0;rw[qBg,qAY,e];rfl
theorem gL(ys:List α):(List.range ys.length).filterMap (ys[·]?)=ys:=by
 induction ys with
 |nil=>rfl
 |cons y ys O=>
  rw[qAa,List.range_succ_eq_map,qBo];show y::_=_;rw[List.filterMap_map];congr 1
theorem rm(ys:List α){O:List Nat}(S:O.Perm (List.range ys.length)):(O.filterMap (ys[·]?)).Perm ys:=by
 have:=S.filterMap (ys[·]?)
 rwa [gL]at this
theorem sS{s:Shared}{m n:Nat}(ho:s.heap.get? a=some o)(ex:o.ExactSet)(hd:o.data= .set es ep t)(e1:es.toList=xs.map (en knd))(e2:TOk t (xs.map λp=>tupleKeyHash knd p.1))(hn:xs.length=n+1)(h0:n*5<t.mask*3)(h1:t.mask*3<=(n+1)*5)(hc:n+1<=306)
  (e4:(xs.map (·.1)).Nodup) (e5:∀p∈xs,IsTupleKey knd s.heap p.1 p.2) (e6:t.led= !byt w) {Q:Unit->Shared->Prop} (h:∀h' ys o' ad ae t',Heap.SameBut a s.heap h'->ys.Perm xs->SetX knd h' a ys o' ad ae t'->Q () {s with heap:=h'}) :
  wpAny (model prog w) A (setRelay a$ grown$ n+1) Q E s:=by
 obtain⟨g1,g2,g3,g4⟩:=oz e2.m h0 h1 hc;have ez:es.size=xs.length:=by have:=qAl List.length e1;simpa using this
 have S:t.fits es.size=true:=by
  unfold SetTable.fits;have z1:t.place.size=es.size:=by rw[e2.n,ez];simp
  have z2:t.fill<=t.mask:=by unfold fill;rw[e2.d];exact e2.f
  rw[z1];simp[z2]
 unfold setRelay;refine qAA$ wpAny_setState_of ho hd S ?_;dsimp only;have af:sizeAbove (grown$ n+1)<=sizeLine:=qAW g4 kK;rw[qAB$ qCN.mpr af];obtain⟨t',O,l1,l2,l3,l4,l5,l6⟩:=tE g1 (xs.map λp=>tupleKeyHash knd p.1) (by rw[qAD];lia) t.finger (t.movedTo$ sizeAbove (grown$ n+1)-1) t.led t.plain
 have lr:t.relaid (es.map (·.1)) (grown$ n+1)=some (t',O):=by
  unfold relaid
  have:es.map (·.1)=(xs.map λp=>tupleKeyHash knd p.1).toArray:=by
   apply Array.ext';rw[Array.toList_map,e1,qBO];rfl
  rw[this];exact l1
 rw[lr];rw[qAD]at l5;have V:=rm xs l5
 have W:(O.filterMap (es[·]?)).toList=(O.toList.filterMap (xs[·]?)).map (en knd):=by
  rw[Array.toList_filterMap,List.map_filterMap];congr 1;funext k;rw[<-qAo,e1,qAY]
 have aa:(O.filterMap (es[·]?)).size=es.size:=by
  rw[<-qB2,W,qAD,V.length_eq,ez]
 refine qAA ?_;show wpAny _ _ (if((O.filterMap (es[·]?)).size != es.size)=true then _ else _) _ _ _;rw[qAB$ by rw[aa];simp];refine qAE ?_;dsimp only;refine wpAny_storeSet_of ho hd ?_ (by rw[aa,ez,hn];exact qAW hc kK);refine h _ _ _ _ _ _ (qAr _ a _) V$ uF ho ex hd W ?_ ?_ ?_ (λp hp=>e5 p$ V.mem_iff.mp hp)$ l3.trans e6
 .rw [nV xs O.toList l5];exact l6
 .rw [V.length_eq,hn,l2];exact g3
 .exact (V.map (·.1)).nodup_iff.mpr e4
theorem ins_perm(L:List α)(p:Nat)(x:α):(L.take p++x::L.drop p).Perm (x::L):=by
 have h1:(L.take p++x::L.drop p).Perm (x::(L.take p++L.drop p)):=List.perm_middle
 rwa [qBb]at h1
theorem pd{t:SetTable}(T:TOk t hs)(c:Bool):TOk (if c=true then t else {t with plain:=false}) hs/\(if c=true then t else {t with plain:=false}).mask=t.mask/\(if c=true then t else {t with plain:=false}).tooFull=t.tooFull/\(if c=true then t else {t with plain:=false}).led=t.led:=by
 cases c
 .exact ⟨⟨T.m,T.d,T.r,T.l,T.n,T.f,T.reach⟩,rF,rF,rF⟩
 .exact ⟨T,rF,rF,rF⟩
theorem xw(hu:A.units<cLine)(X:SetX knd s.heap a xs o es ep t){k:List K}{b:Addr}(hk:IsTupleKey knd s.heap k b)(hc:xs.length+1<=306){Q:Bool->Shared->Prop}(h1:k∈xs.map (·.1)->Q false s)
  (h2:k∉xs.map (·.1)->∀h' ys o' O S t',Heap.SameBut a s.heap h'->ys.Perm ((k,b)::xs)->SetX knd h' a ys o' O S t'->Q true {s with heap:=h'}) :
  wpAny (model prog w) A (setAddHashed a (.ref b)$ tupleKeyHash knd k) Q E s:=by
 unfold setAddHashed setAddHashedIn;refine qAy$ qAA$ X.state ?_;dsimp only;rw[qk,qAB dD]
 have V:t.place.toList.length=xs.length:=by
  have:=X.ok.n;rw[qAD]at this;simpa using this
 have W:=X.room;obtain⟨N,ad,hN,hb⟩:=zI1 X.ok.m (tupleKeyHash knd k) (L:=t.place.toList) (by rw[V];lia)
 have hT:10*turns t.mask<100000:=by
  rcases X.ok.m with z|z|z|z<;>rw[z]<;>decide +kernel
 unfold setSearch;refine qAA$ p8 hu X hk hN hb ad ?_ ?_ N 0 100000 none Ll Ll rF λm hm=>absurd hm$ Nat.not_lt_zero m
 .intro z;exact qAE$ h1 z
 .intro z;dsimp only;refine qAA$ X.state ?_;dsimp only
  have ae:t.place.size+1<=t.mask:=by
   have:t.place.size=xs.length:=by simpa using V
   rcases X.ok.m with z|z|z|z<;>lia
  have T1:=vI X.ok (tupleKeyHash knd k) hN hb ae;have em:(t.put (pr t.mask (tupleKeyHash knd k) N).j).1.mask=t.mask:=rfl;have ed:(t.put (pr t.mask (tupleKeyHash knd k) N).j).1.led=t.led:=rfl;have B:=(zE7 X.ok.r (pr t.mask (tupleKeyHash knd k) N).j).le;have af:(t.put (pr t.mask (tupleKeyHash knd k) N).j).2=below t.place (pr t.mask (tupleKeyHash knd k) N).j:=rfl
  have fin:∀c:Bool,wpAny (model prog w) A (do
    storeSet a (SetTable.insertAt es (t.put (pr t.mask (tupleKeyHash knd k) N).j).2 (tupleKeyHash knd k,.ref b)) (if c=true then(t.put (pr t.mask (tupleKeyHash knd k) N).j).1 else {(t.put (pr t.mask (tupleKeyHash knd k) N).j).1 with plain:=false})
    if(!false&&(if c=true then(t.put (pr t.mask (tupleKeyHash knd k) N).j).1 else {(t.put (pr t.mask (tupleKeyHash knd k) N).j).1 with plain:=false}).tooFull)=true then do
     setRelay a (SetTable.grown$ es.size+1)
     pure true
    else pure true) Q E s:=by
   intro c;generalize hp:(t.put (pr t.mask (tupleKeyHash knd k) N).j).2=p at *
   generalize ht:(t.put (pr t.mask (tupleKeyHash knd k) N).j).1=t1 at *
   have aa:p<=es.size:=by
    rw[X.size,af];have:t.place.size=xs.length:=by simpa using V
    lia
   obtain⟨T2,m2,f2,d2⟩:=pd T1 c;generalize ag:(if c=true then t1 else {t1 with plain:=false})=t2 at *
   have el:(SetTable.insertAt es p (tupleKeyHash knd k,Value.ref b)).toList=(xs.take p++(k,b)::xs.drop p).map (en knd):=by
    rw[zJt es p _ aa,X.el,qAP,qAt,qBk,qBl];rfl
   have ip:=ins_perm xs p (k,b)
   have eT:(xs.map λp=>tupleKeyHash knd p.1).take p++tupleKeyHash knd k::(xs.map λp=>tupleKeyHash knd p.1).drop p=(xs.take p++(k,b)::xs.drop p).map λp=>tupleKeyHash knd p.1:=by
    rw[qAP,qAt,qBk,qBl]
   rw[eT]at T2;have len:(xs.take p++(k,b)::xs.drop p).length=xs.length+1:=by rw[ip.length_eq];rfl
   have nd:((xs.take p++(k,b)::xs.drop p).map (·.1)).Nodup:=by
    refine(ip.map (·.1)).nodup_iff.mpr ?_;exact qBI.mpr ⟨z,X.nd⟩
   have ky:∀q∈xs.take p++(k,b)::xs.drop p,IsTupleKey knd s.heap q.1 q.2:=λq hq=>by
    rcases qAT.mp (ip.mem_iff.mp hq)with y|y
    .subst y;exact hk
    .exact X.ky q y
   have sz:(SetTable.insertAt es p (tupleKeyHash knd k,Value.ref b)).size=xs.length+1:=by
    have:=qAl List.length el;rw[qAD,len]at this;simpa using this
   refine qAA (wpAny_storeSet_of X.ho X.hd ?_$ by rw[sz];exact qAW hc kK)
   have fl:t2.tooFull=decide (t.mask*3<=(xs.length+1)*5):=by
    unfold tooFull fill;rw[T2.d,T2.n,qAD,len,m2,em];rfl
   by_cases cf:t.mask*3<=(xs.length+1)*5
   .rw [qAC$ by rw[fl];simp[cf]];rw[X.size];refine qAA ?_;refine sS (m:=0) (o:={o with data:=.set (insertAt es p (tupleKeyHash knd k,Value.ref b)) (ep+1) t2}) (lO X.ho X.hd _ _) X.ex rF el T2 len ?_ ?_ hc nd ?_ (d2.trans$ ed.trans X.ld) ?_
    .rw [m2,em];exact W
    .rw [m2,em];exact cf
    .intro q hq;exact mu (ky q hq) X.ho X.hd$ qAr _ a _
    .intro h' ys o' O S t' q1 q2 q3;exact qAE$ h2 z h' ys o' O S t' ((qAr _ a _).trans q1) (q2.trans ip) q3
   .rw [qAB$ by rw[fl];simp[cf]];refine qAE$ h2 z _ _ _ _ _ _ (qAr _ a _) ip$ uF X.ho X.ex X.hd el T2 ?_ nd ky$ d2.trans$ ed.trans X.ld;rw[len,m2,em];lia
  by_cases cp:(t.put (pr t.mask (tupleKeyHash knd k) N).j).1.plain=true
  .rw [qAC cp];exact qAA$ wC hk fin
  .rw [qAB cp];exact qAA$ qAE$ fin true
end
end ST
namespace ST
open PySem PySem.SetTable PyProof.Rows
variable{h:Heap}{α:Type}
section
variable{prog:Program}{w:World}{K:Type}[DecidableEq K]{knd:KeyKind prog w K}{A:Around}{E:Value->Shared->Prop}{s:Shared}
variable{a:Addr}{xs:List (List K×Addr)}{o:Obj}{es:Array (Int×Value)}{ep:Nat}{t:SetTable}
theorem key_kept{h':Heap}{k:List K}{b:Addr}(x:IsTupleKey knd h k b)(e:∀o,h.get? b=some o->h'.get? b=some o):IsTupleKey knd h' k b :=
 let⟨o,its,n,O,r⟩:=x;⟨o,its,n,e o O,r⟩
theorem SetX.kept{h h':Heap}(X:SetX knd h a xs o es ep t)(e:∀b o,(b=a\/∃p∈xs,p.2=b)->h.get? b=some o->h'.get? b=some o):SetX knd h' a xs o es ep t :=
 ⟨e a o (.inl rF) X.ho,X.ex,X.hd,X.el,X.ok,X.room,X.nd,λp O=>key_kept (X.ky p O) λo q=>e _ o (.inr ⟨p,O,rF⟩) q,X.ld⟩
def Got(knd:KeyKind prog w K)(h:Heap)(a:Addr)(ks:List (List K×Addr)):Prop :=
 ∃xs o es ep t,SetX knd h a xs o es ep t/\(∀p∈xs,p∈ks)/\(∀p∈ks,p.1∈xs.map (·.1))/\xs.length<=ks.length
theorem Got.kept{h h':Heap}{ks:List (List K×Addr)}(g:Got knd h a ks)(e:∀b o,(b=a\/∃p∈ks,p.2=b)->h.get? b=some o->h'.get? b=some o):Got knd h' a ks:=by
 obtain⟨xs,o,es,ep,t,X,O,S,V⟩:=g;exact⟨xs,o,es,ep,t,X.kept λb o W=>e b o$ W.imp id λ⟨p,hp,q⟩=>⟨p,O p hp,q⟩,O,S,V⟩
theorem Got.fresh{a:Addr}(ho:h.get? a=some {cls:=.type "set",dict:=none,data:=.set #[] 0 (.fresh 0 0$ !byt w)}):Got knd h a [] :=
 ⟨[],_,_,_,_,⟨ho,⟨rF,rF,rF⟩,rF,rF,pk 0 0 _,(show 0*5<7*3 by decide),qBC,(λp O=>nomatch O),rF⟩,(λp O=>nomatch O),(λp O=>nomatch O),qAG _⟩
theorem vW{ks:List (List K×Addr)}{k:List K}{b:Addr}(hu:A.units<cLine)(g:Got knd s.heap a ks)(hk:IsTupleKey knd s.heap k b)(hc:ks.length+1<=306){Q:Bool->Shared->Prop}
  (h:∀c h',Heap.SameBut a s.heap h'->Got knd h' a (ks++[(k,b)])->Q c {s with heap:=h',toks:=s.toks+(k.length+1)}):wpAny (model prog w) A (setAdd a$ .ref b) Q E s:=by
 obtain⟨xs,o,es,ep,t,X,g1,g2,g3⟩:=g;unfold setAdd;refine qAy$ qAA$ wpAny_pyHash_tuple hu hk ?_;refine xw (s:={s with toks:=s.toks+(k.length+1)}) hu X hk Ll (λz=>?_) λz h' ys o' S V t' q1 W q3=>?_
 .refine h false s.heap (Heap.SameBut.refl a s.heap) ⟨xs,o,es,ep,t,X,λp O=>qAp _$ g1 p O,λp O=>?_,by rw[qAN];exact Nat.le_succ_of_le g3⟩;rcases qAR.mp O with y|y
  .exact g2 p y
  .rw [qAO.mp y];exact z
 .refine h true h' q1 ⟨ys,o',S,V,t',q3,λp O=>?_,λp O=>?_,?_⟩
  .rcases qAT.mp (W.mem_iff.mp O)with y|y
   .rw [y];exact qAs _$ qAO.mpr rF
   .exact qAp _$ g1 p y
  .have m:=(W.map (·.1)).mem_iff (a:=p.1);refine m.mpr ?_;rcases qAR.mp O with y|y
   .exact qAX _$ g2 p y
   .rw [qAO.mp y];exact qAf
  .rw [W.length_eq,qAN];exact Nat.succ_le_succ g3
end
section
variable{prog:Program}{w:World}{K:Type}[DecidableEq K]{knd:KeyKind prog w K}{A:Around}{R:Result->Shared->Prop}{I:Addr}{fp wr:List Addr}{G:Array GenState->Array GenState->Prop}{P:Nat->Value->Prop}{St:Nat->Shared->Prop}
theorem v_{ks:List (List K×Addr)}(hu:A.in1.units<cLine)(W:WalksS prog w A.in1 I fp wr G ks.length P St)(a:Addr)(aa:a∉fp)(hP:∀i v,P i v->∃p,ks[i]?=some p/\v= .ref p.2)(V:∀p∈ks,p.2≠a/\p.2∉wr)(hc:ks.length<=306) :
  ∀(k i:Nat)(s:Shared),ks.length=i+k->St i s->Got knd s.heap a (ks.take i)->(∀p∈ks,IsTupleKey knd s.heap p.1 p.2) ->
   (∀s',Moved (a::wr) G s s'->Got knd s'.heap a ks->R (.ok$ .ret .none) s')->codeAny (model prog w) A (.builtin "set.update.loop" ⟨[.ref a,.ref I],[]⟩) R s:=by
 have ad:a∉wr:=λz=>aa$ W.sub a z;intro k
 induction k with
 |zero=>
  intro i s e st g ky hR;have e:i=ks.length:=Ll
  subst e;rw[qAg]at g;refine qBv PyProof.Rows.F.entry_set_update_loop ?_;rw[qCb qDI _];change wpAny _ A.in1 (pyNext (Value.ref I) >>= _) _ _ s;refine qAA$ W.done s _ _ st λS mv=>?_;refine qAE$ hR S (mv.mono λb O=>qAX a O)$ g.kept λb o O q=>mv.heap b o ?_ q;rcases O with rfl|⟨p,hp,rfl⟩
  .exact ad
  .exact (V p hp).2
 |succ k ih=>
  intro i s e st g ky hR;have hi:i<ks.length:=Ll
  refine qBv PyProof.Rows.F.entry_set_update_loop ?_;rw[qCb qDI _];change wpAny _ A.in1 (pyNext (Value.ref I) >>= _) _ _ s;refine qAA$ W.item i s _ _ hi st λv S pv af mv=>?_;obtain⟨p,ep,rfl⟩:=hP i v pv;have pm:p∈ks:=qAJ ep
  have up:∀b o,(b=a\/∃q∈ks,q.2=b)->s.heap.get? b=some o->S.heap.get? b=some o:=λb o O q=>mv.heap b o (by
   rcases O with rfl|⟨p,hp,rfl⟩
   .exact ad
   .exact (V p hp).2) q
  have g1:=g.kept (h':=S.heap) λb o O=>up b o$ O.imp id λ⟨q,hq,z⟩=>⟨q,qBj hq,z⟩;have ae:∀q∈ks,IsTupleKey knd S.heap q.1 q.2:=λq hq=>key_kept (ky q hq) λo=>up _ o$ .inr ⟨q,hq,rF⟩;change wpAny _ A.in1 (holding [Value.ref p.2] (setAdd a$ .ref p.2) >>= _) _ _ S;refine qAA$ qAy$ vW (knd:=knd) hu g1 (ae p pm) (by rw[qAU];lia) λc h' sb g2=>?_
  have et:ks.take i++[(p.1,p.2)]=ks.take (i+1):=by
   rw[qC1,ep];rfl
  rw[et]at g2
  have ag:=W.frame (i+1) S h' (S.toks+(p.1.length+1)) af (qCy _ _) λb O o q=>by
   rw[sb.2 b λz=>aa$ z▸O];exact q
  refine qAE ⟨qC2 qDI _,ih (i+1) _ Ll ag g2 (λq hq=>key_kept (ae q hq) λo z=>(sb.2 _ (V q hq).1).trans z) λs2 ah g3=>hR s2 ?_ g3⟩;refine Moved.trans W.gtrans ((mv.mono λb O=>qAX a O).then_heap (qCy _ _) λb o O z=>?_) ah;exact(sb.2 b λy=>O$ y▸qAf).trans z
end
section
variable{prog:Program}{w:World}{K:Type}[DecidableEq K]{knd:KeyKind prog w K}{A:Around}{E:Value->Shared->Prop}{s:Shared}
def gs(w:World):Obj:={cls:=.type "set",dict:=none,data:=.set #[] 0 (.fresh 0 0$ !byt w)}
theorem wZ(v:Value){Q:Value->Shared->Prop}(h:Q (.ref s.heap.objs.size) {s with heap:=s.heap.push (gs w)}):codeAny (model prog w) A (.call (.builtin "set.__new__") ⟨[.type "set",v],[]⟩) (wants Q E) s:=by
 refine codeAny_of_tree ?_;change wpAny _ A.in1 (checkBuiltinCall "set.__new__" ⟨[.type "set",v],[]⟩ >>= λ_=>again$ .builtin "set.__new__" ⟨[.type "set",v],[]⟩) _ _ s;refine qAA$ qCM (F.newCall_set_1 v)$ qAE ⟨qC2 F.plain_set_new _,qBv F.entry_set_new ?_⟩;rw[qCb F.plain_set_new _];unfold Builtin.«set.__new__» Builtin.Frozenset.newClass;have q:=sub_set_self;obtain⟨O,g,d,tk,os⟩:=s;dsimp only
 wp_walk
 refine qBc$ qAE ?_;dsimp only;simp only[newObj];refine qAA$ wpAny_alloc$ qAE$ qAE ?_;exact h
theorem rZ{l:Addr}{its:Array Value}{Z:Heap->Prop}{Q:Value->Shared->Prop}(hh:A.handled=none)(hl:s.heap.IsList l its)
  (fill:∀(A1:Around) (R:Result->Shared->Prop) (s3:Shared) (fp:List Addr) (G:Array GenState->Array GenState->Prop) (St:Nat->Shared->Prop),A1.in1.units<=A.units+3->WalksS prog w A1.in1 (s.heap.objs.size+1) fp [s.heap.objs.size+1] G its.size (fun i v=>its[i]?=some v) St->s.heap.objs.size∉fp ->
   s3.heap.get? s.heap.objs.size=some (gs w)->(∀b o,s.heap.get? b=some o->s3.heap.get? b=some o)->St 0 s3->(∀s',Moved [s.heap.objs.size,s.heap.objs.size+1] G s3 s'->Z s'.heap->R (.ok$ .ret .none) s') ->
   codeAny (model prog w) A1 (.builtin "set.update.loop" ⟨[.ref s.heap.objs.size,.ref (s.heap.objs.size+1)],[]⟩) R s3)
  (h:∀(h':Heap)(tk:Nat),s.toks<=tk->Z h'->(∀b o,s.heap.get? b=some o->h'.get? b=some o)->Q (.ref s.heap.objs.size) {s with heap:=h',toks:=tk}) :
  wpAny (model prog w) A (call (.type "set") [.ref l]) Q E s:=by
 obtain⟨c,tl,ak⟩:=qBw.mro;have k1:=qBw.made;have k2:=qBw.sub;refine qCF$ codeAny_of_tree ?_;change wpAny _ _ (callAny (.type "set") _) _ _ _;refine qAE ⟨Code.quiet_builtin _ kK,qBv F.entry_type_call ?_⟩;rw[Around.under_plain (weight_type_call_type "set" [.ref l] []) rF];have k3:=qBw.notType;have k4:=qBw.canCreate;have k5:=F.typeCall_set_1$ .ref l
 repeat (any_goals (first|assumption|wp_step))
 have al:∀b o,s.heap.get? b=some o->b≠s.heap.objs.size:=λb o q=>qAQ$ qAI q;refine qBf (wZ (w:=w) (.ref l) (E:=E) (Q:=λob s1=>ob= .ref s.heap.objs.size/\s1={s with heap:=s.heap.push (gs w)}) ⟨rF,rF⟩) λr s1 hr=>?_
 cases r with
 |error e=>exact hr
 |ok fl=>
  cases fl with
  |ret ob=>
   obtain⟨rfl,rfl⟩:=hr;have hS:(s.heap.push$ gs w).get? s.heap.objs.size=some (gs w):=qAk _ rF;have hT:Shared.TypeIs {s with heap:=s.heap.push (gs w)} (.ref s.heap.objs.size) "set":= ⟨_,hS,rF⟩;have k6:=qBw.init.lookup;have k7:=qBw.init.bind$ .ref s.heap.objs.size
   repeat (any_goals (first|assumption|wp_step))
   refine qBf (qDJ (R:=wants (λr s2=>r= .none/\∃h' tk,s2={s with heap:=h',toks:=tk}/\s.toks<=tk/\Z h'/\(∀b o,s.heap.get? b=some o->h'.get? b=some o)) E) qBw.init.plain F.entry_set_init$ check_set_init_1 hT ?_) λr2 s2 S=>?_
   .obtain ⟨ol,V,aa,nl,ad⟩:=hl;obtain⟨o1,o2,o3,o4⟩:=ol;simp only at aa ad;subst aa ad;have ae:(s.heap.push$ gs w).get? l=some {cls:=.type "list",dict:=o2,data:=.seq its nl,slots:=o4}:=qAM _ V;have k8:=F.sub_list_set;have k9:=F.sub_list_frozenset;have am:(Value.type "list"== Value.type "dict")=false:=dD
    have af:(s.heap.push$ gs w).IsList l its:=⟨_,ae,rF,nl,rF⟩;unfold Builtin.«set.__init__» noKeywords Builtin.Frozenset.updateFrom;generalize ah:pyIter=PI
    wp_walk
    subst ah;refine wpAny_pyIter_list af ?_;refine qAA$ wpAny_runValue ?_;have O:(s.heap.push$ gs w).objs.size=s.heap.objs.size+1:=qBR _ _;have ag:l<s.heap.objs.size:=qAI V;have W:=(Walks.list (prog:=prog) (w:=w) (A:=A.in1.in1.in1) (by simpa using hh) (s.heap.push$ gs w).objs.size l (by rw[O];exact qAQ$ qBs ag) its).toS;rw[O]at W;rw[O];refine fill A.in1.in1 _ _ _ _ _ (by show A.units+1+1+1<=A.units+3;lia) W ?_ (qAM _ hS) (λb o q=>qAM _$ qAM _ q) ⟨⟨_,by rw[<-O];exact qAk _ rF,rF,rF⟩,af.push _⟩ ?_
    .simp only[qAT,qCa,or_false,not_or];exact⟨qAQ$ qCV _,qA4 ag⟩
    .intro s1 mv g;obtain⟨h1,g1,d1,ai,aj⟩:=s1;have e1:g1=s.gens:=mv.gens;have e2:d1=s.drawn:=mv.drawn;have e3:aj=s.os:=mv.os;subst e1 e2 e3;show wpAny _ _ _ _ _ _;refine qAE$ qAE ⟨rF,h1,ai,rF,mv.toks,g,λb o q=>?_⟩;have:=qAI q
     exact mv.heap b o (by
      simp only[qAT,qCa,or_false,not_or];exact⟨qAQ this,qAQ$ qBs this⟩)$ qAM _$ qAM _ q
   .cases r2 with
    |error e=>exact S
    |ok f2=>
     cases f2 with
     |ret r=>
      obtain⟨rfl,h',tk,rfl,q1,q2,q3⟩:=S
      repeat (any_goals (first|assumption|wp_step))
      exact h _ _ q1 q2 q3
     |_=>exact S.elim
  |_=>exact hr.elim
theorem w_mkset{l:Addr}{its:Array Value}{ks:List (List K×Addr)}{Q:Value->Shared->Prop}(hh:A.handled=none)(hu:A.units+8<cLine)(hl:s.heap.IsList l its)(S:its.toList=ks.map λp=>.ref p.2)(V:∀p∈ks,IsTupleKey knd s.heap p.1 p.2)(hc:ks.length<=306)
  (h:∀(h':Heap)(tk:Nat),s.toks<=tk->Got knd h' s.heap.objs.size ks->(∀b o,s.heap.get? b=some o->h'.get? b=some o)->Q (.ref s.heap.objs.size) {s with heap:=h',toks:=tk}) :
  wpAny (model prog w) A (call (.type "set") [.ref l]) Q E s:=by
 refine rZ hh hl (λA1 R s3 fp G St hv W hf hS kp st hR=>?_) h
 have ez:its.size=ks.length:=by
  have:=qAl List.length S;simpa using this
 rw[ez]at W;refine v_ (knd:=knd) Ll W s.heap.objs.size hf (λi v hv=>?_) (λp O=>?_) hc ks.length 0 _ Ll st (Got.fresh hS) (λp O=>key_kept (V p O) λo q=>kp _ o q) hR
 .have:its.toList[i]?=some v:=by rw[qAo];exact hv
  rw[S,qAY]at this
  cases hk:ks[i]? with
  |none=>rw[hk]at this;exact nomatch this
  |some p=>rw[hk]at this;exact⟨p,rF,(qAb this).symm⟩
 .obtain ⟨o,_,_,ho,_⟩:=V p O;have:=qAI ho;simp only[qAT,qCa,or_false];exact⟨qAQ this,qAQ$ qBs this⟩
end
theorem zFc:Slot "set_iterator" "__next__" "set_iterator.__next__":=
 .of (owner:="set_iterator") (n:="__next__") (by rw[typeLookup_type,qDK];kernel_rfl) kK kK kK (by first|exact .inl kK|exact .inr kK) (by rw[isSubtype_type];kernel_rfl)
theorem md:Slot "set_iterator" "__iter__" "set_iterator.__iter__":=
 .of (owner:="set_iterator") (n:="__iter__") (by rw[typeLookup_type,qDK];kernel_rfl) kK kK kK (by first|exact .inl kK|exact .inr kK) (by rw[isSubtype_type];kernel_rfl)
theorem mM:entryFor table "set_iterator.__next__"=some Builtin.«set_iterator.__next__»:=entryFor_of_fast (by kernel_rfl)
theorem tP:entryFor table "set_iterator.__iter__"=some Builtin.«dict_keyiterator.__iter__»:=entryFor_alias (id':="dict_keyiterator.__iter__") (by kernel_rfl) rF kK (by kernel_rfl)
theorem rT:entryFor table "set.__iter__"=some Builtin.«frozenset.__iter__»:=entryFor_alias (id':="frozenset.__iter__") (by kernel_rfl) rF kK (by kernel_rfl)
theorem lN(a:Value):argsOk "set_iterator.__next__" ⟨[a],[]⟩:=by unfold argsOk;kernel_rfl
theorem sP(a:Value):argsOk "set_iterator.__iter__" ⟨[a],[]⟩:=by unfold argsOk;kernel_rfl
theorem zDm{M:Model}{A:Around}{E:Value->Shared->Prop}{s:Shared}{c:Prop}[Decidable c]{x y:Sem α}{Q:α->Shared->Prop}(hc:¬c)(h:wpAny M A y Q E s):wpAny M A (if c then x else y) Q E s:=by rw[qAB hc];exact h
theorem zFl{M:Model}{A:Around}{E:Value->Shared->Prop}{s:Shared}{c:Prop}[Decidable c]{x y:Sem α}{Q:α->Shared->Prop}(hc:c)(h:wpAny M A x Q E s):wpAny M A (if c then x else y) Q E s:=by rw[qAC hc];exact h
theorem zGn :∀{L:List α}{i:Nat}{x:α},L[i]?=some x->(x::L.eraseIdx i).Perm L
 |[],i,x,h=>by simp at h
 |y::r,0,x,h=>by
  have:y=x:=qAb h;subst this;exact List.Perm.refl _
 |y::r,i+1,x,h=>by
  rw[qCZ]at h;exact(List.Perm.swap y x _).trans$ List.Perm.cons y$ zGn h
theorem lP(next:Nat->Nat):∀(S k:Nat)(O:List α)(out:Array α),O.length<=S->(pickOrder.go next S k O out).toList.Perm (out.toList++O)
 |0,k,O,out,h=>by
  have:O=[]:=qBx.mp$ Nat.le_zero.mp h;subst this;unfold pickOrder.go;rw[qAm]
 |S+1,k,O,out,h=>by
  unfold pickOrder.go
  cases e:O[next k % O.length]? with
  |none=>
   have:O=[]:=by
    cases O with
    |nil=>rfl
    |cons x r=>
     have:=qDL.mp e;have h2:=Nat.mod_lt (next k)$ show 0<(x::r).length from Nat.succ_pos _;exact absurd h2$ qCN.mpr this
   subst this;dsimp only;rw[qAm]
  |some x=>
   dsimp only;have p:=zGn e;have V:=p.length_eq;rw[qAa]at V;refine(lP next S (k+1) _ _ Ll).trans ?_;rw[qCK,qBK];exact List.Perm.append_left _ p
theorem nR(next:Nat->Nat)(xs:Array α):(pickOrder next xs).toList.Perm xs.toList:=by
 have:=lP next xs.size 0 xs.toList #[] ss;show(pickOrder.go next xs.size 0 xs.toList #[]).toList.Perm _;simpa using this
section
variable{prog:Program}{w:World}{K:Type}[DecidableEq K]{knd:KeyKind prog w K}{A:Around}{E:Value->Shared->Prop}
theorem p7{s:Shared}{S:Source}{n:Nat}(O:n≠0){Q:Nat->Shared->Prop}(h:∀i d,i<n->Q i {s with drawn:=d}):wpAny (model prog w) A (choose S n) Q E s:=λ_ _ _=>⟨O,h _ _$ Nat.mod_lt _$ Nat.pos_of_ne_zero O⟩
theorem pA :∀(n:Nat)(L:List α)(s:Shared)(Q:List α->Shared->Prop),L.length=n->(∀M d,M.Perm L->Q M {s with drawn:=d})->wpAny (model prog w) A (drawOrder n L) Q E s
 |0,L,s,Q,O,h=>by
  have:L=[]:=qBx.mp O;subst this;unfold drawOrder;exact qAE$ h [] s.drawn$ List.Perm.refl _
 |n+1,[],s,Q,O,h=>nomatch O
 |n+1,x::r,s,Q,O,h=>by
  unfold drawOrder;refine qAA$ p7 (by rw[O];exact Nat.succ_ne_zero n) λi d hi=>?_;obtain⟨y,V⟩:∃y,(x::r)[i]?=some y:=⟨(x::r)[i],qAq hi⟩;rw[V];dsimp only;have p:=zGn V;have S:=p.length_eq;rw[qAa]at S;refine qAA$ pA n _ _ _ Ll λM d' W=>qAE ?_;exact h (y::M) d'$ (List.Perm.cons y W).trans p
end
def dr(es:Array (Int×Value))(t:SetTable):Bool:=!t.plain&&decide (es.size>1)
def ItM(w:World)(h:Heap)(a:Addr)(es:Array (Int×Value))(ep:Nat)(t:SetTable)(ord:List Value)(i:Nat)(first:Value):Prop :=
 (byt w=true/\(∃j:Nat,first= .int j 0)/\ord=(pickOrder (w.params.setOrder a ep) es).toList.map (·.2)) \/
 (byt w=false/\∃(T:Addr)(O:Obj)(c:Nat)(pl:List Nat),first= .ref T/\h.get? T=some O/\O.data= .seq (pl.map λ(p:Nat)=>Value.int p 0).toArray c/\pl.Perm (List.range es.size)/\ord=pl.filterMap λp=>(es[p]?).map (·.2)) \/
 (byt w=false/\dr es t=false/\∃slot:Nat,first= .int slot 0/\below t.place slot=i/\ord=es.toList.map (·.2))
structure ItS(w:World)(h:Heap)(I a:Addr)(es:Array (Int×Value))(ep:Nat)(t:SetTable)(ord:List Value)(i:Nat)(o:Obj)(first:Value):Prop where
 ho:h.get? I=some o
 hc:o.cls= .type "set_iterator"
 hd:o.data= .fields #[first,.int i 0,.ref a,.int es.size 0,.int ep 0]
 hm:ItM w h a es ep t ord i first
section
variable{prog:Program}{w:World}{K:Type}[DecidableEq K]{knd:KeyKind prog w K}{A:Around}{E:Value->Shared->Prop}{s:Shared}
variable{a I:Addr}{xs:List (List K×Addr)}{o oI:Obj}{es:Array (Int×Value)}{ep i:Nat}{t:SetTable}{ord:List Value}{first:Value}
theorem lz(O:gr t.place.toList):below t.place 0=0:=by
 have B:=zE7 O 0;rcases Nat.eq_zero_or_pos (below t.place 0)with z|z
 .exact z
 .have hs:0<t.place.size:=qAj z B.le;have e:t.place[0]?=some t.place[0]:=by simp[hs]
  exact absurd (B.lo 0 _ z e)$ Nat.not_lt_zero _
theorem kX(O:gr t.place.toList){i j:Nat}(e:t.place[i]?=some j):below t.place (j+1)=i+1:=by
 have B:=zE7 O$ j+1;have hi:i<t.place.size:=(qBM.mp e).1;have h1:i<below t.place (j+1):=Nat.lt_of_not_le λz=>by have:=B.hi i j z e;lia
 rcases Nat.lt_or_ge (i+1) (below t.place$ j+1)with z|z
 .have hs:i+1<t.place.size:=qAj z B.le;have S:t.place[i+1]?=some t.place[i+1]:=by simp[hs]
  have V:=B.lo (i+1) _ z S;have W:=zE3 O (qCV i) e S;lia
 .lia
theorem ItM.perm(m:ItM w h a es ep t ord i first):ord.Perm (es.toList.map (·.2)):=by
 rcases m with⟨_,_,rfl⟩|⟨_,T,S,c,pl,_,_,_,O,rfl⟩|⟨_,_,slot,_,_,rfl⟩
 .exact (nR _ es).map _
 .have:=O.filterMap λp=>(es[p]?).map (·.2);refine this.trans$ List.Perm.of_eq ?_;rw[<-List.map_filterMap];congr 1;have:=gL es.toList;rw[qB2]at this;simpa using this
 .exact List.Perm.refl _
theorem ItM.len(m:ItM w h a es ep t ord i first):ord.length=es.size:=by
 rw[m.perm.length_eq];simp
theorem ItS.typeIs(O:ItS w s.heap I a es ep t ord i oI first):s.TypeIs (.ref I) "set_iterator":= ⟨_,O.ho,O.hc⟩
theorem wN{pl:List Nat}(W:pl.Perm (List.range es.size))(i:Nat):(pl.filterMap λp=>(es[p]?).map (·.2))[i]?=(pl[i]?).bind λp=>(es[p]?).map (·.2):=by
 have O:∀k∈pl,k<es.size:=λk S=>qBH.mp$ W.mem_iff.mp S;clear W
 induction pl generalizing i with
 |nil=>simp
 |cons k ks ih=>
  have S:=O k qAf;have e:es[k]?=some es[k]:=by simp[S]
  have V:=λi=>ih i λq hq=>O q$ qAX _ hq;rw[qBo,e]
  cases i with
  |zero=>simp[e]
  |succ i=>
   show(_::_)[i+1]?=_;rw[qCZ,V i,qCZ]
theorem vz(X:SetX knd s.heap a xs o es ep t)(O:ItS w s.heap I a es ep t ord i oI first)(ae:I≠a){v:Value}(V:ord[i]?=some v){Q:Option Value->Shared->Prop}
  (h:∀h' o' f',Heap.SameBut I s.heap h'->ItS w h' I a es ep t ord (i+1) o' f'->(∀T,f'= .ref T->first= .ref T)->Q (some v) {s with heap:=h'}):wpAny (model prog w) A (pyNext$ .ref I) Q E s:=by
 unfold pyNext;refine qAA$ qB9$ qCc (name:=Str.ofString "__next__") O.typeIs zFc$ qBy zFc O.typeIs mM ?_$ lN _;unfold Builtin.«set_iterator.__next__»;refine qAA (m:=slotArgs "__next__" 0 _)$ qAE ?_;refine qAA$ wpAny_fieldsOf O.ho O.hd ?_;dsimp only;refine qAA$ wpAny_setEntries_of X.ho X.hd X.fits ?_;refine zDm ss ?_;rcases O.hm with⟨S,⟨j,rfl⟩,W⟩|⟨S,T,oT,c,pl,rfl,W,m4,m5,m6⟩|⟨S,m2,slot,rfl,m4,m5⟩
 .dsimp only;refine qAA ?_;unfold setNext;refine qAA$ X.state ?_;dsimp only;refine qAA$ qAA$ qBc$ qAE ?_;refine zFl S ?_;refine zDm ss ?_;refine qAA ?_;unfold setWalk;refine qAA$ X.state ?_;dsimp only;refine qAA$ qAA$ qBc$ qAE ?_;refine zFl S ?_;refine qAA$ qBc$ qAE$ qAE ?_
  have e1:(pickOrder (w.params.setOrder a ep) es)[i]?.map (·.2)=some v:=by
   rw[W,qAY]at V;rw[<-qAo];exact V
  obtain⟨q,q1,q2⟩:=qBU.mp e1;subst q2;have e2:(pickOrder ((model prog w).w.params.setOrder a ep) es)[(i:Int).toNat]?=some q:=q1
  erw [e2]
  show wpAny _ _ (setField (.ref I) 0 (rawInt _) >>= _) _ _ _;refine qAA$ qA6 O.ho O.hd ss ?_;have g1:=qA9 (Obj.mapFields (·.setIfInBounds 0$ rawInt (j:Int).toNat)) O.ho$ qBd$ qAu O.hd _;refine qAA$ qA6 g1 (qAu O.hd _) ss ?_;refine qAE ⟨_,rF,qAE$ h _ _ _ ((qAr ..).trans$ qAr ..) ⟨qA9 _ g1$ qBd$ qAu (qAu O.hd _) _,?_,?_,.inl ⟨S,⟨j,rF⟩,W⟩⟩ λT z=>nomatch z⟩
  .rw [qCA,qCA];exact O.hc
  .rw [qAu$ qAu O.hd _];simp[rawInt]
 .dsimp only
  have aa:T≠I:=λz=>by
   subst z;have:=qAb$ W.symm.trans O.ho;subst this;rw[O.hd]at m4;exact nomatch m4
  refine qAA (m:=seqItems?$ .ref T)$ qCO W m4 ?_;dsimp only;rw[m6,wN m5]at V;obtain⟨p,p1,p2⟩:=Option.bind_eq_some_iff.mp V;obtain⟨q,q1,q2⟩:=qBU.mp p2;subst q2
  have e1:(pl.map λ(p:Nat)=>Value.int p 0).toArray[(i:Int).toNat]?=some (.int p 0):=by
   simp[p1]
  rw[e1];dsimp only;refine qAA ?_;unfold setNextDrawn;refine qAA$ X.state ?_;dsimp only;refine zDm ss ?_;have e2:es[(p:Int).toNat]?=some q:=q1;rw[e2];refine qAE ?_;refine qAA$ qA6 O.ho O.hd ss ?_;refine qAE ⟨_,rF,qAE$ h _ _ _ (qAr ..) ⟨qA9 _ O.ho$ qBd$ qAu O.hd _,(qCA ..).trans O.hc,?_,.inr$ .inl ⟨S,T,oT,c,pl,rF,?_,m4,m5,m6⟩⟩ λT z=>z⟩
  .rw [qAu O.hd];simp[rawInt]
  .exact ((qAr s.heap I _).2 T aa).trans W
 .dsimp only;refine qAA ?_;unfold setNext;refine qAA$ X.state ?_;dsimp only;refine qAA$ qAA$ qBc$ qAE ?_;refine zDm (by show¬(byt w=true);rw[S];decide) ?_;refine zDm (show¬(dr es t=true) by rw[m2];decide) ?_;refine qAA$ zDm (show¬((!t.led&& !es.isEmpty)=true) by rw[X.ld,S];simp)$ qAE ?_
  have hl:i<es.size:=by
   rw[<-O.hm.len];exact(qAL.mp V).1
  have ad:i<t.place.size:=by
   rw[X.ok.n,qAD,<-X.size];exact hl
  have e1:es[i]?=some es[i]:=by simp[hl]
  have e2:t.place[i]?=some t.place[i]:=by simp[ad]
  have e3:es[i].2=v:=by
   rw[m5,qAY,qAo,e1]at V;exact qAb V
  have e4:below t.place (slot:Int).toNat=i:=m4;rw[e4,e1,e2];refine qAE ?_;show wpAny _ _ (setField (.ref I) 0 (rawInt _) >>= _) _ _ _;refine qAA$ qA6 O.ho O.hd ss ?_;have g1:=qA9 (Obj.mapFields (·.setIfInBounds 0$ rawInt ((t.place[i]+1:Nat):Int))) O.ho$ qBd$ qAu O.hd _;refine qAA$ qA6 g1 (qAu O.hd _) ss ?_;subst e3;refine qAE ⟨_,rF,qAE$ h _ _ _ ((qAr ..).trans$ qAr ..) ⟨qA9 _ g1$ qBd$ qAu (qAu O.hd _) _,?_,?_,.inr$ .inr ⟨S,m2,t.place[i]+1,rF,kX X.ok.r e2,m5⟩⟩ λT z=>nomatch z⟩
  .rw [qCA,qCA];exact O.hc
  .rw [qAu$ qAu O.hd _];simp[rawInt]
theorem kO{s:Shared}{Q:Option Value->Shared->Prop}(O:A.handled=none)(h:∀h',(∀b o,s.heap.get? b=some o->h'.get? b=some o)->Q none {s with heap:=h'}) :
  wpAny (model prog w) A.in1 (newExc (.type "StopIteration") [] >>= λe=>(raiseNew e:Sem Fin)) (λfin s'=>∃r,fin= .done (.ret r)/\wpAny (model prog w) A (pure$ some r) Q E s')
   (λe s'=>wpAny (model prog w) A (isInstance e (.type "StopIteration") >>= λb=>if b=true then pure none else throw e) Q E s') s:=by
 refine qAA ?_;simp only[newExc,newTuple];refine qAA (qBa ?_$ by size_fits);refine qAA (m:=firstArgMember _ _)$ qCM (a:=Value.none) (by first|rfl|(simp only[firstArgMember];rfl)) ?_;refine qBa ?_ (by size_fits);simp only[raiseNew];refine qAA$ wpAny_handled ?_;rw[show A.in1.handled=none from O];refine qAA$ qAE$ wpAny_throw ?_;refine qAA$ qCP (T:="StopIteration") (b:=true) ⟨_,qAk _ rF,rF⟩ isSubtype_stop ?_;exact qAE$ h _ λb o q=>qAM _$ qAM _ q
theorem vt(hh:A.handled=none)(X:SetX knd s.heap a xs o es ep t)(O:ItS w s.heap I a es ep t ord i oI first)(V:ord[i]?=none){Q:Option Value->Shared->Prop}
  (h:∀h',(∀b o,b≠I->s.heap.get? b=some o->h'.get? b=some o)->Q none {s with heap:=h'}):wpAny (model prog w) A (pyNext$ .ref I) Q E s:=by
 unfold pyNext;refine qAA$ qB9$ qCc (name:=Str.ofString "__next__") O.typeIs zFc$ qBy zFc O.typeIs mM ?_$ lN _;unfold Builtin.«set_iterator.__next__»;refine qAA (m:=slotArgs "__next__" 0 _)$ qAE ?_;refine qAA$ wpAny_fieldsOf O.ho O.hd ?_;dsimp only;refine qAA$ wpAny_setEntries_of X.ho X.hd X.fits ?_;refine zDm ss ?_;have up:∀h1,Heap.SameBut I s.heap h1->∀h',(∀b o,h1.get? b=some o->h'.get? b=some o)->Q none {s with heap:=h'}:=λh1 sb h' q=>h h' λb o hb z=>q b o$ (sb.2 b hb).trans z;rcases O.hm with⟨S,⟨j,rfl⟩,m3⟩|⟨S,T,oT,c,pl,rfl,m3,m4,m5,m6⟩|⟨S,m2,slot,rfl,m4,m5⟩
 .dsimp only;refine qAA ?_;unfold setNext;refine qAA$ X.state ?_;dsimp only;refine qAA$ qAA$ qBc$ qAE ?_;refine zFl S ?_;refine zDm ss ?_;refine qAA ?_;unfold setWalk;refine qAA$ X.state ?_;dsimp only;refine qAA$ qAA$ qBc$ qAE ?_;refine zFl S ?_;refine qAA$ qBc$ qAE$ qAE ?_
  have W:(pickOrder (w.params.setOrder a ep) es)[i]?.map (·.2)=none:=by
   rw[m3,qAY]at V;rw[<-qAo];exact V
  have e2:(pickOrder ((model prog w).w.params.setOrder a ep) es)[(i:Int).toNat]?=none:=qDM.mp W
  erw [e2]
  show wpAny _ _ (setField (.ref I) 2 Value.none >>= _) _ _ _;refine qAA$ qA6 O.ho O.hd ss ?_;refine kO hh ?_;exact up _$ qAr ..
 .dsimp only;refine qAA (m:=seqItems?$ .ref T)$ qCO m3 m4 ?_;dsimp only
  have W:(pl.map λ(p:Nat)=>Value.int p 0).toArray[(i:Int).toNat]?=none:=by
   have h1:ord.length<=i:=qDL.mp V;rw[O.hm.len]at h1;have h2:=m5.length_eq;rw[List.length_range]at h2;simp only[qCp,List.getElem?_toArray,qAY,qDM,qDL];lia
  rw[W];dsimp only;refine qAA$ qA6 O.ho O.hd ss ?_;have g1:=qA9 (Obj.mapFields (·.setIfInBounds 0$ rawInt 0)) O.ho$ qBd$ qAu O.hd _;refine qAA$ qA6 g1 (qAu O.hd _) ss ?_;refine kO hh ?_;exact up _$ (qAr ..).trans$ qAr ..
 .dsimp only;refine qAA ?_;unfold setNext;refine qAA$ X.state ?_;dsimp only;refine qAA$ qAA$ qBc$ qAE ?_;refine zDm (by show¬(byt w=true);rw[S];decide) ?_;refine zDm (show¬(dr es t=true) by rw[m2];decide) ?_;refine qAA$ zDm (show¬((!t.led&& !es.isEmpty)=true) by rw[X.ld,S];simp)$ qAE ?_
  have W:es[i]?=none:=by
   rw[m5,qAY,qAo]at V;exact qDM.mp V
  have e4:below t.place (slot:Int).toNat=i:=m4;rw[e4,W];refine qAE ?_;show wpAny _ _ (setField (.ref I) 2 Value.none >>= _) _ _ _;refine qAA$ qA6 O.ho O.hd ss ?_;refine kO hh ?_;exact up _$ qAr ..
theorem vc(O:ItS w s.heap I a es ep t ord i oI first){Q:Value->Shared->Prop}(h:Q (.ref I) s):wpAny (model prog w) A (pyIter$ .ref I) Q E s:=by
 refine wpAny_pyIter_slot O.typeIs md$ qBy md O.typeIs tP ?_$ sP _;show wpAny _ _ (ret$ .ref I) _ _ s;exact qAE ⟨_,rF,"set_iterator",_,O.typeIs,zFc.lookup,h⟩
theorem SetX.typeIs(X:SetX knd s.heap a xs o es ep t):s.TypeIs (.ref a) "set":= ⟨_,X.ho,X.ex.1⟩
theorem u7(X:SetX knd s.heap a xs o es ep t)(V:xs.length<=306){Q:Value->Shared->Prop}
  (h:∀I h' d ord oI first,(∀b o,s.heap.get? b=some o->h'.get? b=some o)->s.heap.objs.size<=I->ItS w h' I a es ep t ord 0 oI first->(∀T,first= .ref T->s.heap.objs.size<=T)->Q (.ref I) {s with heap:=h',drawn:=d}):wpAny (model prog w) A (pyIter$ .ref a) Q E s:=by
 refine wpAny_pyIter_slot X.typeIs F.slot_set_iter$ qBy F.slot_set_iter X.typeIs rT ?_$ F.args_set_iter_1 _;unfold Builtin.«frozenset.__iter__» Builtin.Frozenset.slot0;refine qAA$ qAA (m:=slotArgs "__iter__" 0 _)$ qAE$ qAE ?_;dsimp only;unfold Builtin.Frozenset.sizeOf;refine qAA$ qAA$ wpAny_setEntries_of X.ho X.hd X.fits$ qAE ?_;unfold setDrawn;refine qAA$ qAA$ X.state$ qAA$ qAA$ qBc$ qAE$ qAE ?_;have hsz:es.size<=306:=by rw[X.size];exact V
 by_cases c:(!byt w&&dr es t)=true
 .refine zFl c ?_;have c1:byt w=false:=by cases z:byt w<;>simp[z]at c ⊢
  refine qAA$ pA es.size (List.range es.size) s _ ss λpl d S=>?_;have O:pl.length=es.size:=by rw[S.length_eq];simp
  refine qAA (wpAny_newTuple ?_$ by rw[qAD,O];exact qAW hsz kK);refine qAA$ wpAny_setEpoch_of (qAM _ X.ho) X.hd X.fits ?_;refine qAA$ qBa$ qAE ⟨_,rF,"set_iterator",_,⟨_,qAk _ rF,rF⟩,zFc.lookup,?_⟩;refine h _ _ d (pl.filterMap λp=>(es[p]?).map (·.2)) _ (.ref s.heap.objs.size) (λb o q=>qAM _$ qAM _ q) ?_ ⟨qAk _ rF,rF,rF,.inr$ .inl ⟨c1,_,_,_,pl,rF,qAM _$ qAk _ rF,rF,S,rF⟩⟩ (λT z=>by cases z;exact qAG _);show s.heap.objs.size<=(s.heap.push _).objs.size;rw[qBR];exact qB6 _
 .refine zDm c ?_;refine qAA$ qAE ?_;refine qAA$ wpAny_setEpoch_of X.ho X.hd X.fits ?_;refine qAA$ qBa$ qAE ⟨_,rF,"set_iterator",_,⟨_,qAk _ rF,rF⟩,zFc.lookup,?_⟩
  cases z:byt w with
  |true=>
   exact h _ _ s.drawn ((pickOrder (w.params.setOrder a ep) es).toList.map (·.2)) _ (.int 0 0) (λb o q=>qAM _ q) (qAG _) ⟨qAk _ rF,rF,rF,.inl ⟨z,⟨0,rF⟩,rF⟩⟩ (λT z=>nomatch z)
  |false=>
   have W:dr es t=false:=by rw[z]at c;simpa using c
   exact h _ _ s.drawn (es.toList.map (·.2)) _ (.int 0 0) (λb o q=>qAM _ q) (qAG _) ⟨qAk _ rF,rF,rF,.inr$ .inr ⟨z,W,0,rF,lz X.ok.r,rF⟩⟩ (λT z=>nomatch z)
end
theorem tu:typeLookup (.type "set") "__len__"=pure (some$ .builtin "set.__len__"):=by rw[typeLookup_type,qDK];kernel_rfl
section
variable{prog:Program}{w:World}{K:Type}[DecidableEq K]{knd:KeyKind prog w K}{A:Around}{E:Value->Shared->Prop}{s:Shared}
variable{a I:Addr}{xs:List (List K×Addr)}{o oI:Obj}{es:Array (Int×Value)}{ep i:Nat}{t:SetTable}{ord:List Value}{first:Value}
def WSt(knd:KeyKind prog w K)(a I:Addr)(xs:List (List K×Addr))(o:Obj)(es:Array (Int×Value))(ep:Nat)(t:SetTable)(ord:List Value)(S:List Addr)(i:Nat)(s:Shared):Prop :=
 ∃oI first,SetX knd s.heap a xs o es ep t/\ItS w s.heap I a es ep t ord i oI first/\∀T,first= .ref T->T∈S
theorem so(hh:A.handled=none)(a I:Addr)(W:I≠a)(xs:List (List K×Addr))(hx:∀p∈xs,p.2≠I)(o:Obj)(es:Array (Int×Value))(ep:Nat)(t:SetTable)(ord:List Value)(Ts:List Addr)(hT:I∉Ts) :
  WalksS prog w A I (I::a::(xs.map (·.2)++Ts)) [I] (λa b=>b=a) ord.length (λi v=>ord[i]?=some v) (WSt knd a I xs o es ep t ord Ts) where
 sub:=λb S=>by rw[qAO.mp S];exact qAf
 grefl:=λ_=>rfl
 gtrans:=λ_ _ _ x y=>y.trans x
 frame:=λi s h' tk ⟨oI,first,X,O,V⟩ _ hk=>by
  refine⟨oI,first,X.kept λb o S q=>hk b ?_ o q,⟨hk I qAf _ O.ho,O.hc,O.hd,?_⟩,V⟩
  .rcases S with rfl|⟨p,hp,rfl⟩
   .exact qAX _ qAf
   .exact qAX _$ qAX _$ qAp _$ qAe.mpr ⟨p,hp,rF⟩
  .rcases O.hm with m|⟨m1,T,oT,c,pl,m2,m3,m4⟩|m
   .exact .inl m
   .exact .inr$ .inl ⟨m1,T,oT,c,pl,m2,hk T (qAX _$ qAX _$ qAs _$ V T m2) _ m3,m4⟩
   .exact .inr$ .inr m
 item:=λi s Q E hi ⟨oI,first,X,O,V⟩ hQ=>by
  refine vz X O W (v:=ord[i]) (by simp[hi]) λh' o' f' sb aa ad=>hQ _ _ (by simp[hi]) ⟨o',f',X.kept λb o S q=>?_,aa,λT z=>V T$ ad T z⟩ ⟨λb o S q=>(sb.2 b λz=>S$ z▸qAf).trans q,rF,rF,rF,qAG _⟩;rcases S with rfl|⟨p,hp,rfl⟩
  .exact (sb.2 _$ qAh W).trans q
  .exact (sb.2 _$ hx p hp).trans q
 done:=λs Q E ⟨oI,first,X,O,V⟩ hQ=>vt hh X O ss λh' q=>hQ _ ⟨λb o S=>q b o λz=>S$ z▸qAf,rF,rF,rF,qAG _⟩
 self:=λi s Q E ⟨oI,first,X,O,V⟩ hQ=>vc O hQ
theorem nF{acc:Array Value}(h:ItemsOf (λi v=>ord[i]?=some v) acc ord.length):acc.toList=ord:=by
 refine List.ext_getElem? λi=>?_;rw[qAo]
 cases e:acc[i]? with
 |some v=>exact(h.2 i v e).symm
 |none=>
  have:=Array.getElem?_eq_none_iff.mp e;rw[h.1]at this;exact(qC0 this).symm
theorem w_collect(hh:A.handled=none)(X:SetX knd s.heap a xs o es ep t)(hn:xs.length<=306){Q:List Value->Shared->Prop}
  (h:∀s' vs,vs.Perm (xs.map λp=>.ref p.2)->(∀b o,s.heap.get? b=some o->s'.heap.get? b=some o)->s'.gens=s.gens->s'.os=s.os->s.toks<=s'.toks->Q vs s'):wpAny (model prog w) A (collect$ .ref a) Q E s:=by
 unfold collect;refine qAA$ wpAny_runValue$ qBv F.entry_proto_collect ?_;rw[qCb F.plain_proto_collect _];change wpAny _ A.in1 (newList [] >>= λl=>again$ .builtin "list.__iadd__" ⟨[l,Value.ref a],[]⟩) _ _ s;refine qAA$ qBa ?_;refine qAE ⟨qC2 F.plain_list_iadd _,qBv F.entry_list_iadd ?_⟩;rw[qCb F.plain_list_iadd _];generalize hL:s.heap.objs.size=L;have aa:(s.heap.push {cls:=.type "list",data:=.seq ([]:List Value).toArray}).get? L=some {cls:=.type "list",data:=.seq ([]:List Value).toArray}:=by rw[<-hL];exact qAk _ rF
 generalize ad:s.heap.push {cls:=.type "list",data:=.seq ([]:List Value).toArray}=H1 at aa ⊢;have up1:∀b o,s.heap.get? b=some o->H1.get? b=some o:=λb o q=>by rw[<-ad];exact qAM _ q
 have ae:H1.objs.size=L+1:=by rw[<-ad,qBR,hL]
 have below:∀b o,s.heap.get? b=some o->b<L:=λb o q=>by rw[<-hL];exact qAI q
 have X1:SetX knd H1 a xs o es ep t:=X.kept λb o _ q=>up1 b o q;have af:a≠L:=qAQ$ below a _ X.ho;change wpAny _ A.in1 (Builtin.List.listExtendWith (Value.ref L) (.ref a)$ .ref L) _ _ _;unfold Builtin.List.listExtendWith;refine qAA$ wpAny_typeOf (T:="set") ⟨_,X1.ho,X1.ex.1⟩ ?_;have n1:Builtin.List.listSameRef (.ref L) (.ref a)=false:=by simp[Builtin.List.listSameRef,qAh af]
 refine zDm (by rw[n1];decide) ?_;refine qAA$ u7 (s:={s with heap:=H1}) X1 hn λI h2 d ord oI first V hI it hf=>?_;have hI:L+1<=I:=by rw[<-ae];exact hI
 have X2:SetX knd h2 a xs o es ep t:=X1.kept λb o _ q=>V b o q;refine qAA$ qAy ?_;unfold Builtin.List.listLengthHint;have T2:Shared.TypeIs {s with heap:=h2,drawn:=d} (.ref a) "set":= ⟨_,X2.ho,X2.ex.1⟩;refine qAA$ qCv T2 tu ?_;generalize ag:("set.__len__": String)=an;dsimp only;rw[show splitId an=some ("set","__len__")from by subst ag;decide +kernel];subst ag;dsimp only;refine qAA$ qCP (b:=true) T2 sub_set_self ?_;refine zDm dD ?_;refine zFl kK ?_;refine qAA$ wpAny_typeOf T2 ?_;refine qAE ?_;refine zFl kK ?_;refine qAA$ qBD ?_;have ah:=V L _ aa;refine qAA ?_;change wpAny _ A.in1 (updateSeq L (·.push Value.none) >>= λ_=>updateSeq L (·.pop)) _ _ _;refine qAA$ wpAny_updateSeq ah rF ?_;have ai:=qA9 (Obj.mapSeq (·.push Value.none)) ah rF;refine wpAny_updateSeq ai rF ?_;have aj:=qA9 (Obj.mapSeq (·.pop)) ai rF;dsimp only;have sb:Heap.SameBut L h2 ((h2.update L$ Obj.mapSeq (·.push Value.none)).update L$ Obj.mapSeq (·.pop)):=(qAr ..).trans$ qAr ..;generalize ay:(h2.update L$ Obj.mapSeq (·.push Value.none)).update L (Obj.mapSeq (·.pop))=H4 at aj sb ⊢
 have ao:I≠a:=λz=>by
  have:=below a _ X.ho;rw[<-z]at this;exact absurd this$ qCN.mpr$ Nat.le_of_succ_le hI
 have ap:∀p∈xs,p.2≠I:=λp hp z=>by
  obtain⟨ob,_,_,q,_⟩:=X.ky p hp;have:=below _ _ q;rw[z]at this;exact absurd this$ qCN.mpr$ Nat.le_of_succ_le hI
 obtain⟨S,aq,O⟩:∃S:List Addr,(∀T,first= .ref T->T∈S)/\∀T∈S,first= .ref T:=by
  cases first with
  |ref T=>exact⟨[T],λT' z=>by cases z;exact qAO.mpr rF,λT' z=>by rw[qAO.mp z]⟩
  |_=>exact⟨[],(λT z=>nomatch z),(λT z=>nomatch z)⟩
 have ak:∀T∈S,L+1<=T:=λT hT=>by rw[<-ae];exact hf T$ O T hT
 have ar:I∉S:=λz=>by
  rcases it.hm with⟨_,⟨j,e⟩,_⟩|⟨_,T,oT,c,pl,e,m3,m4,_⟩|⟨_,_,j,e,_⟩
  .have:=(O _ z).symm.trans e;exact nomatch this
  .have:=(O _ z).symm.trans e
   cases this
   have:=qAb$ m3.symm.trans it.ho;subst this;rw[it.hd]at m4;exact nomatch m4
  .have:=(O _ z).symm.trans e;exact nomatch this
 have W:=so (prog:=prog) (w:=w) (knd:=knd) (A:=A.in1) hh a I ao xs ap o es ep t ord S ar
 have al:L∉I::a::(xs.map (·.2)++S):=λz=>by
  rcases qAT.mp z with z|z
  .rw [<-z]at hI;exact absurd hI$ Nat.not_succ_le_self L
  rcases qAT.mp z with z|z
  .exact af z.symm
  rcases qAR.mp z with z|z
  .obtain ⟨p,hp,e⟩:=qAe.mp z;obtain⟨ob,_,_,q,_⟩:=X.ky p hp;have:=below _ _ q;rw[e]at this;exact qA2 _ this
  .exact absurd (ak _ z)$ Nat.not_succ_le_self L
 have au:ord.length<=sizeLine:=by
  rw[it.hm.len,X.size];exact qAW hn kK
 have av:WSt knd a I xs o es ep t ord S 0 {s with heap:=h2,drawn:=d}:=⟨oI,first,X2,it,aq⟩;have aw:=W.frame 0 _ H4 s.toks av (qAG _) λb hb ob q=>(sb.2 b λz=>al$ z▸hb).trans q;refine qAE ⟨qC2 F.plain_extend_loop _,codeAny_extend_loopS W au L al _ ord.length 0 _ _ _ rF (qAi _) aw aj (ItemsOf.nil _) λs' acc c' mv ax am=>?_⟩;change wpAny _ A (load L >>= _) _ _ s';refine qAA$ qB4 ax ?_;refine qAE$ h s' acc.toList ?_ (λb ob q=>?_) mv.gens mv.os mv.toks
 .rw [nF am];refine it.hm.perm.trans$ List.Perm.of_eq ?_;rw[X.el,qBO];rfl
 .have hb:=below b ob q;refine mv.heap b ob ?_$ (sb.2 b$ qAQ hb).trans$ V b ob$ up1 b ob q;intro z;rcases qAT.mp z with z|z
  .exact qAQ hb z
  .rw [qAO.mp z]at hb;exact absurd hb$ qCN.mpr$ Nat.le_of_succ_le hI
end
end ST
namespace ST
open PySem PyProof.Rows PySem.W
abbrev sg(x:Str):List Nat:=x.cps.toList
theorem vb{x y:Str}(h:sg x=sg y):x=y:=by
 cases x;cases y
 exact qAl Str.mk$ Array.toList_inj.mp h
def tlt:List Str->List Str->Bool
 |[],[]=>false
 |[],_::_=>true
 |_::_,[]=>false
 |x::r,y::q=>if x=y then tlt r q else decide (sg x<sg y)
theorem v0(x y:Str):sg x<sg y\/x=y\/sg y<sg x:=by
 by_cases h1:sg x<sg y
 .exact .inl h1
 by_cases h2:sg y<sg x
 .exact .inr$ .inr h2
 .exact .inr$ .inl$ vb$ List.le_antisymm (List.not_lt.mp h2)$ List.not_lt.mp h1
theorem mY:∀a,tlt a a=false
 |[]=>rfl
 |x::r=>by unfold tlt;rw[qAC rF];exact mY r
theorem zHd:∀a b c,tlt a b=true->tlt b c=true->tlt a c=true
 |[],[],c,h1,h2=>h2
 |[],_::_,[],h1,h2=>by simp[tlt]at h2
 |[],_::_,_::_,h1,h2=>rfl
 |_::_,[],c,h1,h2=>by simp[tlt]at h1
 |x::r,y::q,[],h1,h2=>by simp[tlt]at h2
 |x::r,y::q,z::p,h1,h2=>by
  unfold tlt at h1 h2 ⊢
  by_cases e1:x=y
  .subst e1;rw[qAC rF]at h1
   by_cases e2:x=z
   .subst e2;rw[qAC rF]at h2 ⊢;exact zHd r q p h1 h2
   .rw [qAB e2]at h2 ⊢;exact h2
  .rw [qAB e1]at h1
   by_cases e2:y=z
   .subst e2;rw[qAB e1];exact h1
   .rw [qAB e2]at h2;have S:=qBm h1;have V:=qBm h2;have O:=List.lt_trans S V;rw[qAB λe=>by subst e;exact List.lt_irrefl _ O];exact qAV O
theorem i5:∀a b,tlt a b=false->tlt b a=false->a=b
 |[],[],_,_=>rfl
 |[],_::_,h,_=>by simp[tlt]at h
 |_::_,[],_,h=>by simp[tlt]at h
 |x::r,y::q,h1,h2=>by
  unfold tlt at h1 h2
  by_cases e:x=y
  .subst e;rw[qAC rF]at h1 h2;rw[i5 r q h1 h2]
  .rw [qAB e]at h1;rw[qAB$ qAh e]at h2;rcases v0 x y with z|z|z
   .exact absurd z$ of_decide_eq_false h1
   .exact absurd z e
   .exact absurd z$ of_decide_eq_false h2
theorem uc(a b c:List Str)(h:tlt a c=true):tlt a b=true\/tlt b c=true:=by
 cases h1:tlt a b with
 |true=>exact .inl rF
 |false=>
  right
  cases h2:tlt b a with
  |true=>exact zHd b a c h2 h
  |false=>rw[<-i5 a b h1 h2];exact h
@[reducible] def tupK(f:Addr->Option (List Str)):PyProof.Rows.KeyKind where
 α:=List Str
 blt:=tlt
 irrefl:=mY
 trans:=zHd
 negTrans:=uc
 total:=i5
 keyOf v:=match v with| .ref b=>f b|_=>none
 dflt:=[]
section
variable{prog:Program}{w:World}{A:Around}{E:Value->Shared->Prop}{s:Shared}
theorem zGk{ks:List Str}{vs:List Value}(h:ItemsAre (PySem.strKind prog w) ks vs):StrsAre vs ks:=by
 induction h with
 |nil=>exact .nil
 |@cons k v ks vs h1 _ O=>
  obtain⟨t,rfl⟩:=Value.isStrOf_shape h1;exact .cons k t O
theorem jF{b fin:Bool}{Q:Bool->Shared->Prop}:∀{xs ys:List Value}{O S:List Str},StrsAre xs O->StrsAre ys S->∀i,fin=decide (xs.length<ys.length)->Q (tlt O S) s->KatLex prog w A b fin Q (xs.zip ys) i s
 |_,_,_,_,.nil,.nil,i,e,h=>by subst e;exact kat_nil h
 |_,_,_,_,.nil,.cons y t V,i,e,h=>by subst e;exact kat_nil h
 |_,_,_,_,.cons x t W,.nil,i,e,h=>by subst e;exact kat_nil h
 |_,_,_,_,.cons x t W,.cons y u V,i,e,h=>by
  rw[List.zip_cons_cons];refine kat_cons$ wpAny_eqBool_str ?_;unfold tlt at h
  by_cases c:x=y
  .rw [qAC c]at h;rw[qAV c];refine kat_yes$ jF W V (i+1) ?_ h;rw[e];simp
  .rw [qAB c]at h;rw[qAZ c];refine kat_no ?_
   cases z:(b&&i==0)with
   |true=>exact oneLt_str h
   |false=>exact kat_one _ _$ lt_str h
theorem sd(f:Addr->Option (List Str))(O:∀b k,f b=some k->IsTupleKey (PySem.strKind prog w) s.heap k b)(b:Bool):Tim.CmpOk prog w A s (tuples' b) (tupK f):=by
 intro E x y a c Q S V h
 cases x<;>simp only[reduceCtorEq]at S
 cases y<;>simp only[reduceCtorEq]at V
 obtain⟨ox,ix,nx,W,_,x2,x3⟩:=O _ _ S;obtain⟨oy,iy,ny,y1,_,y2,y3⟩:=O _ _ V;exact kat_lt W x2 y1 y2$ jF (zGk x3) (zGk y3) 0 ss h
end
theorem zI7{vs:List Value}{xs:Array Keyed}(O:xs.Perm (pairsOf vs)):(xs.map (·.2)).toList.Perm vs:=by
 have S:xs.toList.Perm (vs.zip vs):=by rw[<-pairsOf_toList];exact qC3.mp O
 have:=S.map (·.2);rw[List.map_snd_zip$ qAG _]at this
 rwa [Array.toList_map]
section
variable{prog:Program}{w:World}{A:Around}{E:Value->Shared->Prop}{s:Shared}
structure fQ(prog:Program)(w:World)(A:Around)(κ:PyProof.Rows.KeyKind)(kd:SortKind)(vs:List Value)(s:Shared):Prop where
 cmp:Tim.CmpOk prog w A s kd κ
 kind:2<=vs.length->∀(E:Value->Shared->Prop)(Q:SortKind->Shared->Prop),Q kd s->wpAny (model prog w) A (keyKind' vs.toArray) Q E s
 has:∀v∈vs,∃k,κ.keyOf v=some k
theorem qg{h:Heap}{a:Addr}{vs:List Value}{n:Nat}{out:Array Value}(ho:h.get? a=some (seqObj "list" vs.toArray n)):(∃c,(sortedHeap h a vs out).get? a=some (seqObj "list" out c))/\∀b o,b≠a->h.get? b=some o->(sortedHeap h a vs out).get? b=some o:=by
 have S:a<h.objs.size:=qAI ho;have h1:(h.update a$ Obj.mapSeq λ_=>#[]).get? a=some (seqObj "list" #[] _):=get?_update_seq ho λ_=>#[];have h2:=qAM (seqObj "list" #[] 0)$ qAM (seqObj "tuple" vs.toArray 0) h1;refine⟨⟨_,get?_update_seq h2 λ_=>out⟩,λb o O q=>?_⟩;unfold sortedHeap;rw[qBq _ _$ qAh O];refine qAM _$ qAM _ ?_;rw[qBq _ _$ qAh O];exact q
end
section
variable{prog:Program}{w:World}{A:Around}{E:Value->Shared->Prop}{s:Shared}
abbrev Up(h h':Heap):Prop:=∀b o,h.get? b=some o->h'.get? b=some o
end
section
variable{prog:Program}{w:World}{A:Around}{E:Value->Shared->Prop}{s:Shared}
theorem tups_sortable{ks:List (List Str×Addr)}{vs:List Value}(hv:vs.Perm (ks.map λp=>.ref p.2))(ky:∀p∈ks,IsTupleKey (PySem.strKind prog w) s.heap p.1 p.2)(W:∀p∈ks,p.1≠[]) :
  fQ prog w A (tupK λb=>(ks.find? λp=>p.2==b).map (·.1)) (tuples' true) vs s:=by
 have look:∀p∈ks,∃q∈ks,(ks.find? λp'=>p'.2==p.2)=some q/\q.2=p.2:=λp O=>by
  cases e:ks.find? λp'=>p'.2==p.2 with
  |none=>exact absurd (List.find?_eq_none.mp e p O) ss
  |some q=>exact⟨q,qDE e,rF,by simpa using List.find?_some e⟩
 refine⟨sd _ (λb k e=>?_) true,λh2 E Q h=>?_,λv aa=>?_⟩
 .obtain ⟨p,p1,p2⟩:=qBU.mp e;have p3:p.2=b:=by simpa using List.find?_some p1
  rw[<-p2,<-p3];exact ky p$ qDE p1
 .have go:∀(us:List Value),(∀u∈us,∃p∈ks,u= .ref p.2)->∃fs:List Value,KatTups s.heap us fs/\fs.length=us.length/\∀f∈fs,∃x t,f= .str x t:=by
   intro us
   induction us with
   |nil=>intro _;exact⟨[],.nil,rF,(λf S=>nomatch S)⟩
   |cons u us ih=>
    intro V;obtain⟨fs,t1,t2,t3⟩:=ih λu ad=>V u$ qAX _ ad;obtain⟨p,O,rfl⟩:=V u qAf;obtain⟨ob,its,n,q1,q2,q3,q4⟩:=ky p O;have q5:=zGk q4;have q6:=W p O;generalize hk:p.1=k at q5 q6;generalize hl:its.toList=l at q5
    cases q5 with
    |nil=>exact absurd rF q6
    |cons x t r=>
     refine⟨.str x t::fs,.cons q1 q2 q3 ?_ t1,by simp[t2],λf S=>?_⟩
     .rw [<-qAo,hl];rfl
     .rcases qAT.mp S with z|z
      .exact ⟨x,t,z⟩
      .exact t3 f z
  obtain⟨fs,t1,t2,t3⟩:=go vs λu V=>by
   obtain⟨p,O,e⟩:=qAe.mp$ hv.mem_iff.mp V;exact⟨p,O,e.symm⟩
  refine kat_kind (T:=.type "str") t1 Ll (λf S=>?_) dD h;obtain⟨x,t,rfl⟩:=t3 f S;exact .now
 .obtain ⟨p,O,rfl⟩:=qAe.mp$ hv.mem_iff.mp aa;obtain⟨q,hq,e,_⟩:=look p O;exact⟨q.1,by show Option.map _ _=_;rw[e];rfl⟩
end
end ST
namespace L2
open PySem PySem.Spec PyProof.Rows
def TSt(P:Program)(w:World)(a:Addr)(xs:List (List Str×Addr)):HO :=
 .ext λh=>∃o es ep t,h.get? a=some o/\o.ExactSet/\o.data= .set es ep t/\es.toList=xs.map (ST.en$ PySem.strKind P w)/\ST.TOk t (xs.map λp=>tupleKeyHash (PySem.strKind P w) p.1)/\xs.length*5<t.mask*3/\(xs.map (·.1)).Nodup/\t.led= !ST.byt w
def qL(K:PySem.W.Frag)(H:Hp)(p:List Str×Addr):Prop:=SqT K H p.2$ p.1.map V.str
section
variable{X:Cx}{pins:List (Addr×Obj)}{σ:St}{H:Hp}{s:Shared}
theorem zIq{prog:Program}{w:World}:∀{ks:List Str}{its:List Value},dv (ks.map V.str) its->ItemsAre (PySem.strKind prog w) ks its
 |[],_,.nil=>.nil
 |k::ks,_,.cons ⟨t,e⟩ r=>by
  subst e;exact .cons (by show Value.isStrOf k (.str k t)=true;simp[Value.isStrOf])$ zIq r
theorem Inv.rowT(I:Inv X pins σ H s){p:List Str×Addr}(h:qL X.K H p):IsTupleKey (PySem.strKind X.prog X.w) s.heap p.1 p.2:=by
 obtain⟨its,r,⟨o,ho,hc,n,hd⟩,_⟩:=I.tuple h;exact⟨o,its.toArray,n,ho,hc,hd,by simpa using zIq r⟩
theorem gB:∀{ks:List (List Str×Addr)} {its:List Value},dv (ks.map λp=>V.ref p.2) its->its=ks.map λp=>Value.ref p.2
 |[],_,.nil=>rfl
 |k::ks,_,.cons e r=>by
  have e:_=Value.ref k.2:=e;subst e;rw[gB r];rfl
theorem gF:∀(ks:List (List Str×Addr)),dv (ks.map λp=>V.ref p.2) (ks.map λp=>Value.ref p.2)
 |[]=>.nil
 |k::ks=>.cons rF (gF ks)
theorem vw{h:Heap}{H:Hp}{a:Addr}{xs:List (List Str×Addr)}{o:Obj}{es:Array (Int×Value)}{ep:Nat}{t:SetTable}(Z:ST.SetX (PySem.strKind X.prog X.w) h a xs o es ep t):zBq X.prog X.w H h a (TSt X.prog X.w a xs) :=
 ⟨⟨o,es,ep,t,Z.ho,Z.ex,Z.hd,Z.el,Z.ok,Z.room,Z.nd,Z.ld⟩,⟨o,Z.ho⟩,λh1 h2 ⟨o,es,ep,t,q,r⟩ k=>⟨o,es,ep,t,k o q,r⟩⟩
theorem nS{k:Nat}(O:dF k X.A):zCz X (.type "set") (λxs H Q=>∃(l:Addr) (ks:List (List Str×Addr)),xs=[.ref l]/\SqL X.K H l (ks.map λp=>V.ref p.2)/\(∀p∈ks,qL X.K H p)/\ks.length<=306 /\ ∀a ys,H a=none->(∀p∈ys,p∈ks)->(∀p∈ks,p.1∈ys.map (·.1))->(ys.map (·.1)).Nodup->ys.length<=ks.length->Q (.ref a) (upd H a$ TSt X.prog X.w a ys)):=by
 intro pins s σ H xs us Q I r h;obtain⟨l,ks,rfl,S,W,hc,q⟩:=h;obtain⟨u,rfl,rx⟩:=zI5 r
 cases rx
 obtain⟨its,r',pl,hz⟩:=I.list S;have ei:=gB r';refine ST.w_mkset (knd:=PySem.strKind X.prog X.w) (ks:=ks) O.hd (by have:=O.un;lia) pl.isList (by rw[ei]) (λp hp=>I.rowT$ W p hp) hc λh' tk _ g kp=>?_;obtain⟨ys,o,es,ep,t,Z,g1,g2,g3⟩:=g;exact⟨.ref s.heap.objs.size,_,I.laid (t':=tk) kp (qAG _)$ vw Z,rF,q _ ys (I.hok.fresh$ qAG _) g1 g2 Z.nd g3⟩
theorem om{α β:Type}(f:α->β):∀{vs:List β}{ks:List α},vs.Perm (ks.map f)->∃zs:List α,zs.Perm ks/\vs=zs.map f:=by
 intro vs ks h;generalize hm:ks.map f=ms at h
 induction h generalizing ks with
 |nil=>exact⟨[],by rw[qCd.mp hm],rF⟩
 |@cons x l₁ ad _ ih=>
  cases ks with
  |nil=>exact nomatch hm
  |cons k ks=>
   rw[qAt]at hm;obtain⟨O,S⟩:=List.cons.inj hm;obtain⟨zs,p,e⟩:=ih S;exact⟨k::zs,.cons k p,by rw[qAt,<-e,O]⟩
 |swap x y l=>
  match ks,hm with
  |a::b::ks,hm=>
   simp only[qAt,List.cons.injEq]at hm;obtain⟨O,S,e3⟩:=hm;exact⟨b::a::ks,.swap a b ks,by simp[O,S,e3]⟩
 |trans _ _ V W=>
  obtain⟨zs,p,e⟩:=W hm;obtain⟨aa,p',e'⟩:=V e.symm;exact⟨aa,p'.trans p,e'⟩
end
end L2
namespace ST
section
open PySem PyProof.Rows
variable{prog:Program}{w:World}{A:Around}{s:Shared}
end
end ST
namespace L2
open PySem PySem.Spec PyProof.Rows
variable{H:Hp}{h h':Heap}{a e C:Addr}{o:HO}{oe:Obj}{x:Str}{pos:Pos}
section
variable{X:Cx}
inductive mR(x:V)(vs:List V)(H:Hp)(Q:VK):Prop
 |mk:∀l xs i y,x= .ref l->vs=[.int i,y]->H l=some (.lst xs)->xs.length<sizeLine->0<=i->i<=xs.length->Q .non (upd H l$ .lst$ xs.take i.toNat++y::xs.drop i.toNat)->mR x vs H Q
theorem zHv:MtM X "list.insert" mR:=by
 intro pins s σ H x vs v us Q I V W h;obtain⟨l,xs,i,y,rfl,rfl,S,hz,h0,h1,q⟩:=h
 cases V
 obtain⟨u1,u,rfl,r1,ru⟩:=W.two;obtain⟨t,rfl⟩:=r1;obtain⟨z,its,n,r,hl,e⟩:=I.lstM S;have aa:sizeLine<2^62:=kK
 have O:¬(!Builtin.List.listFitsIndex i)=true:=by
  unfold Builtin.List.listFitsIndex;have a1:-(2^63:Int)<=i:=Ll
  have a2:i<2^63:=Ll
  rw[qAV a1,qAV a2];decide
 refine qBT F.slot_list_insert ⟨_,e,rF⟩ F.entry_list_insert (F.args_list_insert_3 _ _ _) (PySem.AutoListH.list_insert_list_int_val_1 l its.toArray n i t u O$ by rw[qAS];lia) ⟨e,?_⟩;refine⟨.non,_,I.lset (its':=its.take i.toNat++u::its.drop i.toNat) S e ?_ ((r.take _).append$ .cons ru$ r.drop _) ?_,rF,q⟩
 .have hk:(if i<0 then(i+((its.toArray.size:Nat):Int)).toNat else min i.toNat its.toArray.size)=i.toNat:=by
   rw[qAB Ll,qAS];lia
  show(its.toArray.extract 0 _).push u++its.toArray.extract _=_;rw[hk];apply Array.ext';rw[qCY,qCK,qBi,qBi,qBK];simp[List.extract_eq_drop_take,qBN]
 .rw [qAN,qAa,qAU,qAz];lia
def mrg(S more:List (Key×V)):List (Key×V):=more.foldl (λacc p=>dZ acc p.1 p.2) S
theorem KV.mrg{S:List (Key×V)}{vs:List (Key×Value)}(r:KV S vs):∀{more:List (Key×V)} {O:List (Key×Value)},KV more O->KV (mrg S more) (merged vs O):=by
 intro more O r2;unfold L2.mrg merged;unfold KV at r2
 induction r2 generalizing S vs with
 |nil=>exact r
 |@cons p q l₁ W h _ ih=>
  rw[qBr,qBr,h.1];exact ih$ r.put q.1 h.2
theorem tq(S more:List (Key×V)):(mrg S more).length<=S.length+more.length:=by
 unfold mrg
 induction more generalizing S with
 |nil=>exact qAG _
 |cons p r O=>
  rw[qBr,qAa];have h1:=O$ dZ S p.1 p.2;have h2:=zFi S p.1 p.2;lia
inductive uI(x:V)(vs:List V)(H:Hp)(Q:VK):Prop
 |mk:∀a b kvs more,x= .ref a->vs=[.ref b]->H a=some (.dK kvs)->H b=some (.dK more)->a≠b->kvs.length+more.length<=sizeLine->Q .non (upd H a$ .dK$ mrg kvs more)->uI x vs H Q
theorem sx:MtR X "dict.update" uI:=by
 intro pins s σ H x vs v us Q I rx rv h;obtain⟨a,b,S,more,rfl,rfl,hA,hB,W,hz,q⟩:=h
 cases rx
 obtain⟨u,rfl,ru⟩:=rv.one
 cases ru
 obtain⟨_,a2,V,a3,a4⟩:=I.hok a _ hA;obtain⟨_,b2,O,b3,b4⟩:=I.hok b _ hB;have l1:S.length=V.length:=qCD a3;have l2:more.length=O.length:=qCD b3;refine call_meetsIn F.slot_dict_update a4.typeIs F.entry_dict_update (F.args_dict_update_2 _ _) (meets_dict_update (zB5 X.prog X.w) a b W b2) ⟨V,O,a4,b4,Ll,λh' d1 d2 sb=>?_⟩;have new:zBq X.prog X.w (upd H a$ .dK$ mrg S more) h' a (.dK$ mrg S more):=⟨qAW (tq S more) hz,a2,_,a3.mrg b3,d1⟩;refine⟨.non,_,I.write (x:=a) (e:=a) (t':=s.toks) (by rw[hA];exact trivial) (.inl rF) (λc o hc z=>(sb.2 c hc).trans z) ?_ new,rF,q⟩;obtain⟨o,_,_,e,_⟩:=d1;exact⟨o,e⟩
end
section
variable{X:Cx}
theorem wf(V:X.A.units<cLine):OpR X (compareOp .NotEq) (dR X.K true):=by
 intro pins s σ H x y v u Q I W ry h;obtain⟨a,c,xs,ys,rfl,rfl,hx,hy,hl,q⟩:=h
 cases W
 cases ry
 obtain⟨its,r,pl,hz⟩:=I.list hx;obtain⟨S,r2,O,aa⟩:=I.list hy;have e1:=r.length;have e2:=r2.length;exact SeqAt.RcNeAt.lists_lengths pl.isList O.isList (by rw[qAS,qAS];simp;lia) V X.prog X.w X.xe _ ⟨.bl true,H,I,rF,q⟩
end
theorem zEt{X:Cx}{k:Nat}(O:dF k X.A):OpR X (compareOp .NotEq) (λx y H Q=>dU X.K 8 false x y H Q\/dR X.K true x y H Q):=(vT$ hu2 O).either$ wf$ hu0 O
theorem sR{ns:List Int}:∀{its:List Value},dv (ns.map V.int) its->∃xs:List (Int×Tok),its=(xs.map λp=>Value.int p.1 p.2)/\xs.map (·.1)=ns:=by
 induction ns with
 |nil=>
  intro its r
  cases r
  exact⟨[],rF,rF⟩
 |cons n ns O=>
  intro its r
  cases r with
  |cons r1 r2=>
   obtain⟨t,rfl⟩:=r1;obtain⟨xs,rfl,e⟩:=O r2;exact⟨(n,t)::xs,rF,by rw[qAt,e]⟩
theorem lM{fs ex:List Addr}(k:∀b u,b∉ex->h.get? b=some u->h'.get? b=some u)(V:h.objs.size<=a)(S:H a=none):Un fs ex H (upd H a o) h h' where
 keep:=λb u q _ _ O=>k b u O q
 slot:=λb u q _ _ O=>⟨u.slots,k b u O q⟩
 free:=λb u q n _=>by rw[a_$ qAQ$ qAj (qAI q) V];exact n
 there:=λb u q O=>⟨u,k b u O q⟩
 tups:=λb xs q=>by rw[a_$ zAm q S];exact q
 frzs:=λb u xs q=>by rw[a_$ zAm q S];exact q
 tbls:=λb ps q=>⟨#[],by rw[a_$ zAm q S,q];simp⟩
theorem jM{P:Program}{w:World}{ex:List Addr}(x:HOk P w H h)(k:∀b u,b∉ex->h.get? b=some u->h'.get? b=some u)(hex:∀b∈ex,H b=none)(V:h.objs.size<=a)(new:zBq P w (upd H a o) h' a o):HOk P w (upd H a o) h':=λb u e=>by
 have S:=x.fresh V
 by_cases hb:b=a
 .subst hb;rw[ac]at e;cases e;exact new
 .rw [a_ hb]at e;refine(x b u e).stay (λc v hc q=>k c v (λz=>?_) q) (λc q=>by rw[a_$ zAm q S];exact q) λc xs q=>by rw[a_$ zAm q S];exact q
  have O:=hex c z;rcases hc with y|y
  .rw [y,e]at O;cases O
  .rw [y]at O;cases O
open AutoSeq1 (wpAny_loadPart')
def TrD(h B:Heap)(e:Addr)(c:Value)(dd:Option Addr)(S:Value):Prop :=
 ∃oe vs T O ts,h.get? e=some oe/\oe.cls=c/\oe.dict=dd/\oe.data= .fields vs/\vs[1]?=some (.ref T)/\B.get? T=none/\T≠e/\h.get? T=some O/\O.data= .fields ts/\ts[3]?=some S/\vs[2]?=some .none
def FlD(B:Heap)(l:List Env)(e:Addr)(c:Value)(dd:Option Addr)(h:Heap):Prop:=B.StaysIn h/\B.get? e=none/\h.FunFrames B l/\∃O,TrD h B e c dd O
theorem FlD.there{B:Heap}{l:List Env}{c:Value}{dd:Option Addr}(x:FlD B l e c dd h):∃o,h.get? e=some o/\o.cls=c/\o.dict=dd/\∃vs,o.data= .fields vs/\vs[2]?=some .none :=
 let⟨_,_,_,_,oe,vs,_,_,_,O,S,V,W,_,_,_,_,_,_,q5⟩:=x
 ⟨oe,O,S,V,vs,W,q5⟩
theorem FlD.less{B:Heap}{env:Env}{l:List Env}{c:Value}{dd:Option Addr}(x:FlD B (env::l) e c dd h):FlD B l e c dd h :=
 let⟨O,S,⟨_,_,V⟩,W⟩:=x
 ⟨O,S,V,W⟩
theorem tD(o:Obj)(f:Array Value->Array Value):(Obj.mapFields f o).dict=o.dict:=by
 unfold Obj.mapFields;split<;>rfl
section
variable{M:Model}{A:Around}{E:Value->Shared->Prop}{s:Shared}{B:Heap}{env:Env}{l:List Env}{L e:Addr}{c:Value}{dd:Option Addr}{Q:Unit->Shared->Prop}
theorem gU{T:Addr}{W:Obj}{ts:Array Value}{f:Array Value->Array Value}(st:B.StaysIn s.heap)(hl:s.heap.FunFrames B l)(nT:B.get? T=none)(hT:s.heap.get? T=some W)(dT:W.data= .fields ts) :
  (∀b,b≠T->(s.heap.update T$ Obj.mapFields f).get? b=s.heap.get? b)/\B.StaysIn (s.heap.update T$ Obj.mapFields f)/\(s.heap.update T$ Obj.mapFields f).FunFrames B l/\s.heap.UpToSlots (s.heap.update T$ Obj.mapFields f) /\
   (s.heap.update T$ Obj.mapFields f).get? T=some (W.mapFields f):=by
 have O:∀b,b≠T->(s.heap.update T$ Obj.mapFields f).get? b=s.heap.get? b:=λb hb=>qBq _ _$ qAh hb;have S:∀b o,s.heap.get? b=some o->(∀vs,o.data≠.fields vs)->b≠T:=λb o q V z=>by rw[z,hT]at q;cases q;exact V ts dT
 refine⟨O,λb o q=>(O b λz=>by rw[z,nT]at q;cases q).trans$ st b o q,hl.of_keeps λb o q V=>⟨o,(O b$ S b o q V).trans q,rF⟩,λb o q V=>⟨o.slots,(O b$ S b o q V).trans q⟩,qA9 _ hT$ qBd$ qAu dT _⟩
theorem zG9{m:Option Addr}(x:FlD B l e c dd s.heap)(h:∀h',FlD B l e c dd h'->s.heap.UpToSlots h'->(∀b o,s.heap.get? b=some o->(∀vs,o.data≠.fields vs)->h'.get? b=some o)->Q () {s with heap:=h'}):wpAny M A (setFlight (.ref e) m) Q E s:=by
 obtain⟨x1,x2,x3,fl,oe,vs,T,oT,ts,q1,q2,S,q3,q4,q5,q6,V,O,q9,W⟩:=x;unfold setFlight;refine qAA$ qBE q1 q3 q4 ?_;rw[qAC ss];have sz:3<ts.size:=(qBM.mp q9).1;refine qA6 V O sz ?_;obtain⟨o,y1,y2,y3,y4⟩:=gU (f:=(·.setIfInBounds 3$ m.elim Value.none λf=>rawInt f)) x1 x3 q5 V O;exact h _ ⟨y1,x2,y2,_,oe,vs,T,_,_,(o e$ qAh q6).trans q1,q2,S,q3,q4,q5,q6,y4,qAu O _,qDH sz,W⟩ y3 λb ob z nf=>(o b λz2=>by rw[z2,V]at z;cases z;exact nf ts O).trans z
theorem gy{vs:Array Value}{hd:Value}{hn:Bool}(ae:A.frames=some (env::l))(hl:s.heap.FunFrames B (env::l))(hf:env.frame=some L)(he:s.heap.get? e=some oe)(st:B.StaysIn s.heap)(ne:B.get? e=none)(V:oe.data= .fields vs)(sz:1<vs.size)(v2:vs[2]?=some .none)
  (h:∀h',FlD B (env::l) e oe.cls oe.dict h'->s.heap.UpToSlots h'->Q () {s with heap:=h'}) :
  wpAny M A (do setField (.ref e) 1 (<-EntryCells.newEntry hd (<-frameOf env) .none (rawInt L) .none (<-entryPlaceOf L hn))) Q E s:=by
 have af:e∉(env::l).filterMap (·.frame):=λz=>by
  obtain⟨_,o,ho,W⟩:=hl.mem z;rw[he]at ho;cases ho;exact W vs V
 refine qAA$ wpAny_frameOf_fun ae hl hf λh1 k1=>qAA$ wpAny_entryPlaceOf λpl ag=>?_;unfold EntryCells.newEntry newFields;refine qAA$ qBa ?_$ ag.sizeOk5 _ _ _ _ _;generalize ah:({cls:=.type "traceback",dict:=none,data:=.fields ([hd,.ref L,.none,rawInt L,.none]++(if pl.isEmpty then List.replicate 6 Value.none else pl)).toArray}:Obj)=S;have aa:S.data= .fields ([hd,.ref L,.none,rawInt L,.none]++(if pl.isEmpty then List.replicate 6 Value.none else pl)).toArray:=by rw[<-ah]
 have e1:h1.get? e=some oe:=(k1.2.1 e af).trans he;have ad:B.StaysIn h1:=λb o z=>(k1.2.1 b λhm=>by rw[(hl.mem hm).1]at z;cases z).trans$ st b o z;have Te:h1.objs.size≠e:=qA4$ qAI e1;have e2:(h1.push S).get? e=some oe:=qAM _ e1;have t2:(h1.push S).get? h1.objs.size=some S:=qAk h1$ qBd aa;refine qA6 e2 V sz$ h _ ?_ ?_
 .have O:∀b,b≠e->((h1.push S).update e$ Obj.mapFields (·.setIfInBounds 1$ Value.ref h1.objs.size)).get? b=(h1.push S).get? b:=λb hb=>qBq _ _$ qAh hb;refine⟨λb o z=>(O b λz2=>by rw[z2,ne]at z;cases z).trans$ qAM _$ ad b o z,ne,hl.of_keeps λb o z W=>?_,rawInt L,_,_,h1.objs.size,_,_,qA9 _ e2$ qBd$ qAu V _,qCA _ _,tD _ _,qAu V _,qDH sz,ad.fresh,Te,(O _ Te).trans t2,aa,rF,by rw[qDG dD];exact v2⟩;obtain⟨sl,z1⟩:=k1.2.2 b o z;exact⟨_,(O b λz2=>by rw[z2,he]at z;cases z;exact W vs V).trans$ qAM _ z1,rF⟩
 .intro b o z W;obtain⟨sl,z1⟩:=k1.2.2 b o z;exact⟨sl,(qBq _ _ λz2=>by rw[<-z2,he]at z;cases z;exact W vs V).trans$ qAM _ z1⟩
theorem gE(O:A.frames=some (env::l))(hf:env.frame=some L)(x:FlD B (env::l) e c dd s.heap)(h:∀h',FlD B (env::l) e c dd h'->s.heap.UpToSlots h'->Q () {s with heap:=h'}):wpAny M A (noteFrame (.ref e) env) Q E s:=by
 obtain⟨x1,x2,x3,fl,oe,vs,T,oT,ts,q1,q2,S,q3,q4,q5,q6,V,W,q9,aa⟩:=id x;unfold noteFrame;simp only[hf];refine qAA$ qBE q1 q3 q4 ?_;rw[qAC ss];refine qAA$ qBE V W q9 ?_
 by_cases hm:fl=rawInt L
 .rw [qAC$ by simpa using hm];exact qAE$ h _ x$ Heap.UpToSlots.refl _
 .rw [qAB$ by simpa using hm];refine qAA$ qA6 V W (qBM.mp q9).1 ?_;obtain⟨o,y1,y2,y3,y4⟩:=gU (f:=(·.setIfInBounds 3 Value.none)) x1 x3 q5 V W;subst q2 S;exact gy O y2 hf ((o e$ qAh q6).trans q1) y1 x2 q3 (qBM.mp q4).1 aa λh' z u=>h h' z$ y3.trans u
theorem kh(O:A.frames=some (env::l))(S:env.frame=some L)(x:FlD B (env::l) e c dd s.heap)(h:∀h',FlD B l e c dd h'->s.heap.UpToSlots h'->Q () {s with heap:=h'}):wpAny M A (leaving env$ .ref e) Q E s:=by
 unfold leaving;exact qAA$ gE O S x λh1 y u=>zG9 y λh2 z v _=>h h2 z.less$ u.trans v
theorem og{vs:Array Value}(O:A.frames=some (env::l))(hl:s.heap.FunFrames B (env::l))(S:env.frame=some L)(V:s.heap.get? e=some oe)(st:B.StaysIn s.heap)(ne:B.get? e=none)(W:oe.data= .fields vs)(h1:vs[1]?=some .none)(h2:vs[2]?=some .none)
  (h:∀h',FlD B l e oe.cls oe.dict h'->s.heap.UpToSlots h'->Q () {s with heap:=h'}):wpAny M A (leaving env$ .ref e) Q E s:=by
 unfold leaving noteFrame;simp only[S];refine qAA$ qAA$ qBE V W h1 ?_;rw[qAB dD];exact gy O hl S V st ne W (qBM.mp h1).1 h2 λh1 y u=>zG9 y λh2 z v _=>h h2 z.less$ u.trans v
end
theorem zFx{P:Program}{w:World}(x:zBq P w H h a o):∃u,h.get? a=some u:=by
 cases o with
 |lst xs=>obtain⟨_,_,_,_,e⟩:=x;exact⟨_,e⟩
 |tup xs=>obtain⟨_,_,_,_,e,_⟩:=x;exact⟨_,e⟩
 |dK O=>obtain⟨_,_,_,_,o,_,_,e,_⟩:=x;exact⟨_,e⟩
 |dT O=>obtain⟨_,_,_,_,o,_,_,e,_⟩:=x;exact⟨_,e⟩
 |set S n=>obtain⟨o,_,_,_,e,_⟩:=x;exact⟨_,e⟩
 |ins C dx fs=>obtain⟨_,_,_,e,_⟩:=x;exact⟨_,e⟩
 |own y=>exact x
 |xd fs=>obtain⟨_,⟨_,_,_,e,_⟩,_⟩:=x;exact⟨_,e⟩
 |rng lo hi=>obtain⟨_,_,_,e⟩:=x;exact⟨_,e⟩
 |frz V u=>obtain⟨e,_⟩:=x;exact⟨_,e⟩
 |tbl ps=>exact⟨_,show h.get? a=some _ from x⟩
 |met f y=>exact⟨_,show h.get? a=some _ from x⟩
 |ext W=>exact x.2.1
def part(h:Heap)(p:Addr->Bool):Heap:=⟨h.objs.mapIdx λi o=>if p i then o else {o with data:=.freed},h.life⟩
theorem zJh(h:Heap)(p:Addr->Bool)(b:Addr):(part h p).get? b=if p b then h.get? b else none:=by
 unfold part Heap.get?;simp only[Array.getElem?_mapIdx]
 cases h.objs[b]? with
 |none=>simp
 |some o=>
  cases O:p b with
  |true=>simp[O]
  |false=>simp[O]
def nfr(h:Heap)(l:List Env):Heap:=part h λb=>decide$ b∉frs l
theorem g8(h:Heap)(l:List Env):(nfr h l).StaysIn h:=λb o e=>by
 unfold nfr at e;rw[zJh]at e;split at e
 .exact e
 .cases e
theorem sv{l:List Env}{b:Addr}(O:b∉frs l):(nfr h l).get? b=h.get? b:=by
 unfold nfr;rw[zJh,qAC$ by simpa using O]
theorem vF{l:List Env}{b:Addr}(O:b∈frs l):(nfr h l).get? b=none:=by
 unfold nfr;rw[zJh,qAB$ by simpa using O]
theorem jR{base B:Heap}:∀{l:List Env},h.FunFrames base l->(∀b∈frs l,B.get? b=none)->h.FunFrames B l
 |[],_,_=>trivial
 |env::rest,⟨m,⟨L,o,O,e2,V,W⟩,r⟩,n=>⟨m,⟨L,o,O,n L (by unfold frs;rw[qBo,O];exact qAf),V,W⟩,jR r λb S=>n b (by
   unfold frs at S ⊢;rw[qBo,O];exact qAX _ S)⟩
def CX1(P:Program)(w:World):CXT:=λouter H s E e s'=>∃(a C:Addr)(dd:Option Addr)(H':Hp)(B:Heap),e= .ref a/\FlD B outer a (.ref C) dd s'.heap/\s'.os=s.os/\AllBare s'.gens/\Un (frs outer) [] H H' s.heap s'.heap/\HOk P w H' s'.heap /\
 H' a=none/\s.heap.get? a=none/\(∀b o,(H' b≠none\/(s.heap.get? b≠none/\b∉frs outer))->s'.heap.get? b=some o->B.get? b=some o)/\E (.ref C) dd H'
section
variable{X:Cx}{pins:List (Addr×Obj)}{σ:St}{H:Hp}{s:Shared}
theorem jW{H':Hp}{B:Heap}{fs:List Addr}{H₀:Hp}{h₀:Heap}(u:Un fs [] H₀ H' h₀ h)(st:B.StaysIn h')(us:h.UpToSlots h')(hB:∀b o,(H' b≠none\/(h₀.get? b≠none/\b∉fs))->h.get? b=some o->B.get? b=some o)
  (hf:∀b∈fs,∀o,h₀.get? b=some o->∀vs,o.data≠.fields vs) (W:∀b∈fs,H₀ b=none):Un fs [] H₀ H' h₀ h' where
 keep:=λb o e n nf S=>st b o$ hB b o (.inr ⟨by rw[e];simp,nf⟩)$ u.keep b o e n nf S
 slot:=λb o e n O S=>by
  obtain⟨sl,q⟩:=u.slot b o e n O S;obtain⟨V,q'⟩:=us b _ q$ hf b O o e;exact⟨V,q'⟩
 free:=u.free
 there:=λb o e S=>by
  by_cases O:b∈fs
  .obtain ⟨sl,q⟩:=u.slot b o e (W b O) O S;obtain⟨V,q'⟩:=us b _ q$ hf b O o e;exact⟨_,q'⟩
  .obtain ⟨o',q⟩:=u.there b o e S;exact⟨o',st b o'$ hB b o' (.inr ⟨by rw[e];simp,O⟩) q⟩
 tups:=u.tups
 frzs:=u.frzs
 tbls:=u.tbls
theorem zH7{P:Program}{w:World}{H':Hp}{B:Heap}(k:HOk P w H' h)(st:B.StaysIn h')(O:∀b o,H' b≠none->h.get? b=some o->B.get? b=some o):HOk P w H' h':=λb u e=>
 (k b u e).stay (λc v hc q=>st c v (O c v (by
  rcases hc with z|z
  .rw [z,e];simp
  .rw [z];simp) q)) (λ_ q=>q) λ_ _ q=>q
end
section
variable{P:Program}{w:World}{K:PySem.W.Frag}{mg:Str->Option Value}{base:Heap}{N:List Str}{qual:Str}{scope:Scope}{f:Addr}{cd:Value}{A:Around}{outer:List Env}{s:Shared}{H:Hp}{E E':XK}
theorem wF{pins:List (Addr×Obj)}{σ:St}{H1:Hp}{S:Shared}{aa:List Value}(I:Inv (dQ (CX1 P w) P w K mg base N qual scope f cd A outer s H E) pins σ H1 S)(W:Heap.MadeExcOf S.heap h' e (.ref C) aa)(q:E (.ref C) none H1) :
  (dQ (CX1 P w) P w K mg base N qual scope f cd A outer s H E).xe (.ref e) {S with heap:=h'}:=by
 have ae:∀b∈frs (dQ (CX1 P w) P w K mg base N qual scope f cd A outer s H E).stack,(nfr S.heap (dQ (CX1 P w) P w K mg base N qual scope f cd A outer s H E).stack).get? b=none:=λb hb=>vF hb;obtain⟨t,he,ag,ht⟩:=W.there
 have ad:∀b,S.heap.get? b=none->(nfr S.heap (dQ (CX1 P w) P w K mg base N qual scope f cd A outer s H E).stack).get? b=none:=λb z=>by
  cases O:(nfr S.heap (dQ (CX1 P w) P w K mg base N qual scope f cd A outer s H E).stack).get? b with
  |none=>rfl
  |some o=>rw[g8 _ _ b o O]at z;cases z
 refine og (B:=nfr S.heap (dQ (CX1 P w) P w K mg base N qual scope f cd A outer s H E).stack) I.ok.frames ((jR I.stack ae).of_keeps λb o z _=>⟨o,W.keeps b o z,rF⟩) rF he (λb o z=>W.keeps b o$ g8 _ _ b o z) (ad e W.new) rF rF rF λh2 fl us=>?_;have st:=fl.1;have I2:Inv (dQ (CX1 P w) P w K mg base N qual scope f cd A outer s H E) pins σ H1 {S with heap:=h',toks:=S.toks}:=I.kept W.keeps
 have old:∀b o,(H1 b≠none\/(s.heap.get? b≠none/\b∉frs outer))->h'.get? b=some o->(nfr S.heap (dQ (CX1 P w) P w K mg base N qual scope f cd A outer s H E).stack).get? b=some o:=λb o hc eo=>by
  have af:b∉frs (dQ (CX1 P w) P w K mg base N qual scope f cd A outer s H E).stack:=λz=>by
   rcases hc with y|⟨y1,y2⟩
   .exact y$ I.stkFree b z
   .rcases qAT.mp (I.stkSub b z)with y|y
    .cases O:s.heap.get? b with
     |none=>exact y1 O
     |some o0=>exact absurd (qAj (qAI O)$ by rw[y];exact I.ok.above)$ qA2 _
    .exact y2 y
  rw[sv af]
  have:∃V,S.heap.get? b=some V:=by
   rcases hc with z|⟨z1,z2⟩
   .cases O:H1 b with
    |none=>exact absurd O z
    |some u=>exact zFx$ I.hok b u O
   .cases O:s.heap.get? b with
    |none=>exact absurd O z1
    |some o0=>exact I.base.there b o0 O (by exact λz=>nomatch z)
  obtain⟨V,e2⟩:=this;have e3:=W.keeps b V e2;rw[eo]at e3;cases e3;exact e2
 refine⟨e,C,none,H1,_,rF,fl,I.os,I.bare,jW I2.base st us old (λb hb o eo=>?_) λb hb=>I.ok.frf b hb,zH7 I2.hok st λb o z=>old b o$ .inl z,?_,?_,λb o hc eo=>?_,q⟩
 .obtain ⟨_,o',e',d⟩:=I.ok.funs.mem hb;have e':s.heap.get? b=some o':=e';rw[eo]at e';cases e';exact d
 .cases O:H1 e with
  |none=>rfl
  |some u=>
   obtain⟨V,e2⟩:=zFx$ I.hok e u O;rw[W.new]at e2;cases e2
 .cases O:s.heap.get? e with
  |none=>rfl
  |some o0=>
   obtain⟨o1,e1⟩:=I.base.there e o0 O (by exact λz=>nomatch z);rw[W.new]at e1;cases e1
 .have eo:h2.get? b=some o:=eo
  have:∃V,h'.get? b=some V:=by
   rcases hc with z|⟨z1,z2⟩
   .cases O:H1 b with
    |none=>exact absurd O z
    |some u=>exact zFx$ I2.hok b u O
   .cases O:s.heap.get? b with
    |none=>exact absurd O z1
    |some o0=>exact I2.base.there b o0 O (by exact λz=>nomatch z)
  obtain⟨V,e2⟩:=this;have e3:=old b V hc e2;rw[st b V e3]at eo
  cases eo
  exact e3
end
theorem sV{K:PySem.W.Frag}{S:List Value}{O:String}(X:K.In h)(q:PySem.W.excIn K C S O=true) :
  ∃(bm:List Value)(N:Addr)(nm qn:Str)(bs:List Value)(hdct:Bool)(sn:List Str)(sub:List Value)(ab:Bool)(col:Option Bool)(dd:Option Addr)(k0 k1 k2 k3 k5:Option Value)(mN:Str->Option Value),
   h.get? C=some (excClassObj nm qn C N bs bm hdct sn sub ab col dd k0 k1 k2 k3 k5 O)/\h.Ns N mN/\mN "__init__"=none/\OwnTail h S bm:=by
 unfold PySem.W.excIn at q;split at q
 case h_2=>cases q
 case h_1 dd cd sl ho=>
  split at q
  case h_2=>cases q
  case h_1 C1 bm k0 k1 k2 k3 n k5 hm hs=>
   simp only[qBS,qBQ,Bool.not_eq_true']at q;obtain⟨⟨⟨⟨⟨rfl,rfl⟩,V⟩,tl⟩,ok⟩,W⟩:=q
   cases cd
   dsimp only at hm V ok W;subst hm V
   cases sl
   dsimp only at hs;subst hs;exact⟨_,_,_,_,_,_,_,_,_,_,_,_,_,_,_,_,_,X _ _ ho,.of_isNs$ PySem.W.isNs_of_in X ok,PySem.W.nsMap_none_of_in X ok W,PySem.W.tail_of_in X tl⟩
section
variable{X:Cx}{E:XK}{C:Addr}
def lT(X:Cx)(C:Addr)(E:XK):Prop:=∀(pins:List (Addr×Obj)) (σ:St) (H:Hp) (s:Shared) (h':Heap) (e:Addr) (us:List Value),Inv X pins σ H s->Heap.MadeExcOf s.heap h' e (.ref C) us->E (.ref C) none H->X.xe (.ref e) {s with heap:=h'}
def wv(E:XK)(C:Addr)(t:TA):TS:=λ_ σ H=>t σ H λvs H1=>vs.length<=sizeLine/\E (.ref C) none H1
abbrev lI:List Value:=[.type "ValueError",.type "Exception",.type "BaseException",.type "object"]
theorem zDk{np cpos pos:Pos}{a:Expr}{es:List Expr}{t:TA}(hx:lT X C E)(hc:X.calm=true)(hg:Gl X x)(hm:X.mg x=some (.ref C))(q:PySem.W.excIn X.K C lI "ValueError.__new__"=true)(ha:PA X (a::es) t)
  (hd:(x==("__debug__": Str))=false:=by decide) (he:starEach (a::es) X.env=(false,eval a X.env)::starEach es X.env:=by rfl) (V:(backTo cpos$ starEach es X.env).any (·.1)=false:=by rfl) :
  PS X (.Raise (some$ .Call (.Name x np) (a::es) [] cpos) none pos) (wv E C t):=by
 intro pins s σ H D I h;obtain⟨bm,N,nm,qn,bs,hdct,sn,sub,ab,col,dd,k0,k1,k2,k3,k5,mN,hC,hN,W,T⟩:=sV I.ok.mod.kin q;refine wpAny_Raise_call_subU F.excBase_ValueError (B:="ValueError") (C:=C) (nm:=nm) (q:=qn) (N:=N) (bs:=bs) (bm:=bm) (hdct:=hdct) (sn:=sn) (sub:=sub) (ab:=ab) (col:=col) (dd:=dd) (k0:=k0) (k1:=k1) (k2:=k2) (k3:=k3) (k5:=k5) (mN:=mN) kK F.excBase_ValueError (T.hasType kK) (I.ok.hd hc) ?_ W$ zFj I hg hm ?_ hd
 .rw [he];show(false||(backTo cpos$ starEach es X.env).any (·.1))=false;rw[V];rfl
 refine⟨rF,?_⟩;have O:=ha cpos pins s σ H _ I h;rw[he]at O ⊢;refine Calls.evalArgs_plain$ thn O λus s1 ⟨vs,H1,S,r1,z,q1⟩=>?_;exact⟨rF,by rw[<-r1.length];exact z,S.bk _ _ hC,hN.keeps S.bk,T.keeps S.bk,λh' e mk=>hx pins σ H1 s1 h' e us S mk q1⟩
end
def jQ(K:PySem.W.Frag)(C:Addr):List Value:=match K.lookup C with
 |some ⟨_,_,.cls cd,_⟩=>cd.mro
 |_=>[]
open PySem.W in
def gt(K:Frag)(C:Addr):Bool:=match K.lookup C with
 |none=>false
 |some o=>match o.cls,o.data,o.slots.toList with
  | .type y,.cls c,[_,_,_,_,some (.builtin n),_]=>y=="type" && c.mro.head?==some (.ref C)&&n=="ValueError.__new__" && !c.hasDel&&tailIn K lI c.mro.tail&&nsOkIn K c.ns
  |_,_,_=>false
open PySem.W in
theorem mP{K:Frag}(q:excIn K C lI "ValueError.__new__"=true):gt K C=true:=by
 unfold excIn at q;split at q
 case h_2=>cases q
 case h_1 dd cd sl ho=>
  split at q
  case h_2=>cases q
  case h_1 C1 bm k0 k1 k2 k3 n k5 hm hs=>
   simp only[qBS,qBQ,Bool.not_eq_true']at q;obtain⟨⟨⟨⟨⟨rfl,rfl⟩,O⟩,tl⟩,ok⟩,S⟩:=q;unfold gt;rw[ho];simp only[hs,hm,O,ok,List.head?_cons,List.tail_cons];rw[tl];simp
open PySem.W in
theorem qN{K:Frag}(X:K.In h)(q:gt K C=true) :
  ∃(bm:List Value)(N:Addr)(nm qn:Str)(bs:List Value)(hdct:Bool)(sn:List Str)(sub:List Value)(ab:Bool)(col:Option Bool)(dd:Option Addr)(k0 k1 k2 k3 k5:Option Value),
   h.get? C=some (excClassObj nm qn C N bs bm hdct sn sub ab col dd k0 k1 k2 k3 k5 "ValueError.__new__")/\OwnTail h lI bm/\jQ K C= .ref C::bm:=by
 unfold gt at q;split at q
 case h_1=>cases q
 case h_2 o ho=>
  split at q
  case h_2=>cases q
  case h_1 y c k0 k1 k2 k3 n k5 hc hd hs=>
   simp only[qBS,qBQ,Bool.not_eq_true']at q;obtain⟨⟨⟨⟨⟨rfl,hm⟩,rfl⟩,O⟩,tl⟩,ok⟩:=q
   have mk:jQ K C=c.mro:=by
    unfold jQ;rw[ho];obtain⟨o1,o2,o3,o4⟩:=o;have hd:o3= .cls c:=hd;subst hd;rfl
   obtain⟨o1,o2,o3,o4⟩:=o
   cases hc
   cases hd
   obtain⟨sl⟩:=o4;have hs:sl=_:=hs;subst hs;have S:=X _ _ ho;have T:=tail_of_in X tl;obtain⟨c1,c2,c3,c4,c5,c6,c7,c8,c9,V,W⟩:=c;have hm:c3.head?=some (.ref C):=hm;have O:W=false:=O;subst O
   cases c3 with
   |nil=>cases hm
   |cons v bm=>
    cases hm
    exact⟨bm,c4,c1,c5,c2,c6,c7,c8,c9,V,o2,k0,k1,k2,k3,k5,S,T,mk⟩
section
variable{M:Model}{A:Around}{E:Value->Shared->Prop}{h:Heap}{g:Array GenState}{d:Drawn}{t:Nat}{os:OsState}
theorem oJ{B NC NB:Addr}{nm qn af ag:Str}{bs bm ah W:List Value}{hdct S:Bool}{sn ai:List Str}{sub aa:List Value}{ab aj:Bool}{col ad:Option Bool}{dd ak:Option Addr}{k0 k1 k2 k3 k5 j0 j1 j2 j3 j5:Option Value}{V O:String}{Q:Bool->Shared->Prop}{r:Bool}
  (hC:h.get? C=some (excClassObj nm qn C NC bs bm hdct sn sub ab col dd k0 k1 k2 k3 k5 V)) (hB:h.get? B=some (excClassObj af ag B NB ah W S ai aa aj ad ak j0 j1 j2 j3 j5 O)) (he:h.get? e=some oe) (ae:oe.cls= .ref C)
  (base:(Value.ref B::W).contains (.type "BaseException")=true) (hr:(Value.ref C::bm).contains (.ref B)=r) (q:Q r ⟨h,g,d,t,os⟩):wpAny M A (excMatches (.ref e)$ .ref B) Q E ⟨h,g,d,t,os⟩:=by
 have f:=tc_notTuple;unfold excMatches
 repeat (first|(with_reducible refine wpAny_loadPart_at he ?_;rw[ae])|with_reducible refine wpAny_loadPart_at hB ?_|(with_reducible refine wpAny_isSubtype_exc hB ?_;rw[base])|(with_reducible refine wpAny_isSubtype_exc hC ?_;rw[hr])|wp_step)
 cases r<;>(wp_walk;exact q)
end
abbrev Cx.tb(X:Cx)(pl:List (Addr×Obj))(O:Value->Shared->Prop):Cx:={X with pn:=X.pn++pl,xe:=O}
abbrev Cx.hnd(X:Cx)(a:Addr):Cx:={X with A:=X.A.mark (some$ .ref a),calm:=false,xe:=λ_ _=>False}
section
variable{X:Cx}{pins:List (Addr×Obj)}{σ:St}{H:Hp}{s:Shared}
theorem Inv.to_tb{O:Value->Shared->Prop}(I:Inv X pins σ H s):Inv (X.tb pins O) [] σ H s :=
 ⟨⟨I.ok.mod,I.ok.kind,I.ok.glob,I.ok.blt,I.ok.above,I.ok.inj,I.ok.has,I.ok.cab,I.ok.hd,I.ok.frames,I.ok.stk,I.ok.exf,I.ok.bs,I.ok.bsz,I.ok.noex,I.ok.exfs,I.ok.funs,I.ok.frf⟩,I.os,I.bare,I.base,I.loc,I.cell,I.free,I.freeC,λp S=>I.pin p (by simpa using S),I.hok,I.len⟩
theorem Inv.of_tb{O:Value->Shared->Prop}{pl:List (Addr×Obj)}(I:Inv (X.tb pl O) pins σ H s):Inv X pl σ H s :=
 ⟨⟨I.ok.mod,I.ok.kind,I.ok.glob,I.ok.blt,I.ok.above,I.ok.inj,I.ok.has,I.ok.cab,I.ok.hd,I.ok.frames,I.ok.stk,I.ok.exf,I.ok.bs,I.ok.bsz,I.ok.noex,I.ok.exfs,I.ok.funs,I.ok.frf⟩,I.os,I.bare,I.base,I.loc,I.cell,I.free,I.freeC,λp S=>I.pin p$ qAp _ S,I.hok,I.len⟩
theorem Inv.to_hnd{a:Addr}(I:Inv X pins σ H s):Inv (X.hnd a) pins σ H s :=
 ⟨⟨I.ok.mod,I.ok.kind,I.ok.glob,I.ok.blt,I.ok.above,I.ok.inj,I.ok.has,I.ok.cab,(λz=>nomatch z),I.ok.frames,I.ok.stk,I.ok.exf,I.ok.bs,I.ok.bsz,I.ok.noex,I.ok.exfs,I.ok.funs,I.ok.frf⟩,I.os,I.bare,I.base,I.loc,I.cell,I.free,I.freeC,I.pin,I.hok,I.len⟩
theorem Inv.of_hnd(I:Inv (X.hnd a) pins σ H s)(hd:X.calm=true->X.A.handled=none):Inv X pins σ H s :=
 ⟨⟨I.ok.mod,I.ok.kind,I.ok.glob,I.ok.blt,I.ok.above,I.ok.inj,I.ok.has,I.ok.cab,hd,I.ok.frames,I.ok.stk,I.ok.exf,I.ok.bs,I.ok.bsz,I.ok.noex,I.ok.exfs,I.ok.funs,I.ok.frf⟩,I.os,I.bare,I.base,I.loc,I.cell,I.free,I.freeC,I.pin,I.hok,I.len⟩
theorem Inv.track(I:Inv X pins σ H s)(n:H a=none)(O:X.s₀.heap.get? a=none)(S:a≠X.env.locals)(hc:∀x c,X.env.cells.lookup x=some c->c≠a)(V:∀p∈X.pn++pins,p.1≠a)(W:zBq X.prog X.w (upd H a o) s.heap a o):Inv X pins σ (upd H a o) s:=by
 refine⟨I.ok,I.os,I.bare,⟨I.base.keep,I.base.slot,λb u e m hx=>?_,I.base.there,λb xs e=>?_,λb u v e=>?_,λb ps e=>?_⟩,I.loc,I.cell,?_,λx c e=>?_,λp q=>?_,λb u e=>?_,I.len⟩
 .have:b≠a:=λz=>by rw[z,O]at e;cases e
  rw[a_ this];exact I.base.free b u e m hx
 .have h1:=I.base.tups b xs e;rw[a_$ zAm h1 n];exact h1
 .have h1:=I.base.frzs b u v e;rw[a_$ zAm h1 n];exact h1
 .obtain ⟨more,h1⟩:=I.base.tbls b ps e;exact⟨more,by rw[a_$ zAm h1 n];exact h1⟩
 .rw [a_$ qAh S];exact I.free
 .rw [a_$ hc x c e];exact I.freeC x c e
 .obtain ⟨p1,p2,p3⟩:=I.pin p q;exact⟨p1,by rw[a_$ V p q];exact p2,p3⟩
 .by_cases hb:b=a
  .subst hb;rw[ac]at e;cases e;exact W
  .rw [a_ hb]at e;refine(I.hok b u e).stay (λ_ _ _ q=>q) (λc q=>?_) λc xs q=>?_
   .rw [a_$ zAm q n];exact q
   .rw [a_$ zAm q n];exact q
end
section
variable{X:Cx}{pins:List (Addr×Obj)}{σ:St}{H:Hp}{s:Shared}
theorem Inv.gone{i:Nat}{m:Str->Option Value}{u:Option Value}{tk:Nat}(I:Inv X pins σ H s)(hN:X.N.Nodup)(hi:X.N[i]?=some x)
  (hm:s.heap.Ns X.env.locals m/\∀(j:Nat)(y:Str)(v:V),X.N[j]?=some y->σ[j]?=some (some v)->Vis X.env.scope y->∃w,dy v w/\xu X.env s.heap m y w) (hn:h'.Ns X.env.locals (λy=>if y=x then u else m y)) (hs:Heap.SameBut X.env.locals s.heap h') :
  Inv X pins (σ.set i none) H {s with heap:=h',toks:=tk}:=by
 obtain⟨_,hl⟩:=hm;have old:∀b o,X.s₀.heap.get? b=some o->b≠X.env.locals:=λb o e=>qAQ$ qAj (qAI e) I.ok.above;have W:i<σ.length:=by rw[I.len];exact(qAL.mp hi).1
 refine⟨I.ok,I.os,I.bare,⟨λb o e n hb O=>(hs.2 b$ old b o e).trans$ I.base.keep b o e n hb O,λb o e n hb O=>?_,I.base.free,λb o e O=>?_,I.base.tups,I.base.frzs,I.base.tbls⟩,⟨_,hn,λj y v e1 S e3=>?_⟩,λy c e=>?_,I.free,I.freeC,λp hp=>?_,λb ob e=>?_,by simpa using I.len⟩
 .obtain ⟨sl,q⟩:=I.base.slot b o e n hb O;exact⟨sl,(hs.2 b$ old b o e).trans q⟩
 .obtain ⟨o2,q⟩:=I.base.there b o e O;exact⟨o2,(hs.2 b$ old b o e).trans q⟩
 .have ji:j≠i:=λz=>by
   subst z;rw[qCE W]at S
   cases S
  rw[qCl$ qAh ji]at S;obtain⟨w,r,q⟩:=hl j y v e1 S e3;have yx:y≠x:=λz=>ji$ zJn hN e1$ z▸hi;refine⟨w,r,?_⟩;rcases q with⟨k,e⟩|⟨k,c,e,z⟩
  .exact .inl ⟨k,by simp[yx,e]⟩
  .exact .inr ⟨k,c,e,z.sameBut hs$ I.cne y c e⟩
 .obtain ⟨w,z⟩:=I.cell y c e;exact⟨w,z.sameBut hs$ I.cne y c e⟩
 .obtain ⟨p1,p2,p3,p4,p5⟩:=I.pin p hp;exact⟨(hs.2 p.1 p3).trans p1,p2,p3,p4,p5⟩
 .refine (I.hok b ob e).stay (λc w hc q=>(hs.2 c ?_).trans q) (λ_ q=>q) λ_ _ q=>q;rintro rfl;rcases hc with rfl|hc
  .rw [I.free]at e;cases e
  .rw [I.free]at hc;cases hc
theorem zFz{M:Model}{A:Around}{E:Value->Shared->Prop}{i:Nat}{Q:Unit->Shared->Prop}(I:Inv X pins σ H s)(hN:X.N.Nodup)(hi:X.N[i]?=some x)(O:X.env.kindOf x=some .local)(h:∀s',Inv X pins (σ.set i none) H s'->Q () s') :
  wpAny M A (do bindName X.env x .none;unbindBehindTheSuite X.env x pos) Q E s:=by
 have S:(X.env.scope.kind== .class||(X.env.scope.kind== .module&&X.env.locals != X.env.globals))=false:=by rw[I.ok.kind];rfl
 refine qAA$ wpAny_bindName$ zG1 (v:=.non) (u:=.none) I hN hi (.inl O) rF (λs1 I1=>?_)$ .inr O;unfold unbindBehindTheSuite;refine wpAny_onRaise ?_;obtain⟨m,hn,hl⟩:=id I1.loc;have V:i<σ.length:=by rw[I.len];exact(qAL.mp hi).1
 obtain⟨w,r,q⟩:=hl i x .non hi (by rw[qCE V])$ .inl O
 have hv:m x=some w:=by
  rcases q with⟨_,e⟩|⟨z,_⟩
  .exact e
  .rw [O]at z;rcases z with z|z<;>cases z
 refine wpAny_unbindName_local O hn hv S λh' u W hs=>?_;have:=Inv.gone (tk:=s1.toks) I1 hN hi ⟨hn,hl⟩ W hs;rw[List.set_set]at this;exact h _ this
def fC(a C:Addr)(dd:Option Addr):HO:=.ext λh=>∃o,h.get? a=some o/\o.cls= .ref C/\o.dict=dd/\∃vs,o.data= .fields vs/\vs[2]?=some .none
theorem ti{P:Program}{w:World}{dd:Option Addr}(x:∃o,h.get? a=some o/\o.cls= .ref C/\o.dict=dd/\∃vs,o.data= .fields vs/\vs[2]?=some .none):zBq P w H h a (fC a C dd):=by
 obtain⟨o,e,c⟩:=x;exact⟨⟨o,e,c⟩,⟨o,e⟩,λh1 h2 ⟨O,S,c1⟩ k=>⟨O,k O S,c1⟩⟩
end
def j4(CX:CXT)(X:Cx)(E:St->XK):Prop:=∀(pins:List (Addr×Obj)) (σ:St) (H:Hp) (s:Shared) (e:Value) (s':Shared),Inv X pins σ H s->CX X.stack H s (E σ) e s'->X.xe e s'
def wT(i:Nat)(D:eI):eI:={nx:=λσ H=>D.nx (σ.set i none) H,rt:=D.rt,bk:=λσ H=>D.bk (σ.set i none) H,ct:=λσ H=>D.ct (σ.set i none) H}
def xZ(K:PySem.W.Frag)(S:Addr)(i:Nat)(tb:(St->XK)->TS)(th:Addr->TS):TS:=λD σ H=>
 tb (λO c dd H'=>∃C,c= .ref C/\gt K C=true/\(jQ K C).contains (.ref S)=true/\∀a,H' a=none->th a (wT i D) (O.set i$ some$ .ref a) (upd H' a$ fC a C dd)) D σ H
section
variable{X:Cx}
theorem wQ{pl:List (Addr×Obj)}{S:Value->Shared->Prop}{D:eI}{f:Flow}{s':Shared}{pins:List (Addr×Obj)}(h:SP (X.tb pl S) pins D f s'):SP X pl D f s':=by
 cases f with
 |next=>obtain⟨O,H',I,q⟩:=h;exact⟨O,H',I.of_tb,q⟩
 |brk=>obtain⟨O,H',I,q⟩:=h;exact⟨O,H',I.of_tb,q⟩
 |cont=>obtain⟨O,H',I,q⟩:=h;exact⟨O,H',I.of_tb,q⟩
 |ret u=>obtain⟨v,O,H',I,r,q⟩:=h;exact⟨v,O,H',I.of_tb,r,q⟩
theorem pW{CX:CXT}{k:Nat}{f:Addr}{fd:FuncData}{ps:List Str}{sp:Sp}{E:St->XK}{p pos:Pos}{e:Expr}{es:List Expr}{t:TA}(F:dw X.prog X.w X.K X.mg X.base CX k f fd ps sp)(hr:dF k X.A)(hg:Gl X x)(hm:X.mg x=some (.ref f))(hk:PySem.W.keepIn X.K (.ref f)=true)(hb:zDe X.K fd ps [])(hx:j4 CX X E)
  (ha:PA X (e::es) t) (V:(x==("__debug__": Str))=false:=by decide) (he:starEach (e::es) X.env=(false,eval e X.env)::starEach es X.env:=by rfl) (W:(backTo pos$ starEach es X.env).any (·.1)=false:=by rfl) :
  PE X (.Call (.Name x p) (e::es) [] pos) (λσ H Q=>t σ H λvs H1=>sp vs H1 Q$ E σ):=by
 intro pins s σ H Q I h;refine qCG$ zFj I hg hm ?_ V;refine qCW (h₀:=X.base) I.ok.mod.kin hk (thn (ha pos pins s σ H _ I h) λus s1 ⟨vs,H1,O,r,q⟩=>⟨O.kIn,?_⟩) he W;have hl:us.length=ps.length:=by rw[<-r.length];exact F.len _ _ _ _ q
 have bd:=hb s1 us O.kIn (by rw[qAm];exact hl);rw[qAm]at bd;refine qCF$ qBf (F.run X.A X.stack s1 H1 ⟨us,[]⟩ us vs Q (E σ) hr O.env0 bd r q) λrr s' S=>?_
 cases rr with
 |error x=>exact hx pins σ H1 s1 x s' O S
 |ok fl=>
  cases fl with
  |ret u=>exact O.after S
  |next=>exact S.elim
  |brk=>exact S.elim
  |cont=>exact S.elim
end
section
variable{P:Program}{w:World}{K:PySem.W.Frag}{mg:Str->Option Value}{base:Heap}
theorem Fun.okX{qual:Str}{st:Stmt}{f:Addr}{fd:FuncData}{N ps:List Str}{k:Nat}{sp:Sp}(F:Fun K x qual st f fd)(S:dq N ps (zAg st))(len:∀vs H Q E,sp vs H Q E->vs.length=ps.length)
  (W:∀(O:Value) (A:Around) (outer:List Env) (s:Shared) (H:Hp) (vs:List V) (Q:VK) (E:XK),dF k (A.deeper$ envOfC qual (zAg st) s.heap.objs.size f O)->sp vs H Q E ->
   ∃t,PSs (dQ (CX1 P w) P w K mg base N qual (zAg st) f O A outer s H E) (zCt st) t/\t {nx:=λ_ H'=>Q .non H',rt:=Q} (start N vs) H):dw P w K mg base (CX1 P w) (k+1) f fd ps sp:=by
 obtain⟨oc,od,kV,ae,pm,an,O,ct,af,rfl,lk,aa⟩:=F.ex;exact ui lk aa S len λA outer s H vs Q E hr ad=>W O A outer s H vs Q E hr ad
theorem zGq{N:List Str}{qual:Str}{scope:Scope}{f:Addr}{cd:Value}{A:Around}{outer:List Env}{s:Shared}{E:XK}:lT (dQ (CX1 P w) P w K mg base N qual scope f cd A outer s H E) C E:=λ_ _ _ _ _ _ _ I O q=>wF I O q
end
end L2
namespace L2
open PySem PySem.Spec PyProof.Rows PySem.W PySem.Builtin PySem.Builtin.ObjectAttr PySem.Builtin.Getset_descriptor
section
variable{prog:Program}{w:World}{A:Around}{E:Value->Shared->Prop}{s:Shared}{K:PySem.W.Frag}{x C:Addr}{R:Result->Shared->Prop}
theorem sG{tp:Value}(X:K.In s.heap)(O:Looks (model prog w) s.heap (typeOf$ .ref x) (.ref C))(hm:mroIn K C (.type "object")=some true)(h:R (.ok$ .ret$ .ref C) s) :
  codeAny (model prog w) A (.call (.builtin "getset_descriptor.__get__") ⟨[.builtin "object.__class__",.ref x,tp],[]⟩) R s:=by
 obtain⟨h0,g,d,t,os⟩:=s;have S:=looks_mroIn (M:=model prog w) X hm;refine qDJ KF.slot_gs.plain KF.entry_gs$ KF.slot_gs.check _ _ _ _ _ _ _ _ KF.type_class (KF.args_gs _ _ _) ?_;unfold Builtin.«getset_descriptor.__get__» descrGet;rw[dga_obj];refine qAA$ qAE ?_;unfold descrGetter descrCheckInstance descrNameAndClass isInstance;simp only[KF.owner_class]
 repeat lk
 refine⟨Code.quiet_builtin _ kK,qBv KF.entry_class ?_⟩;unfold Builtin.«object.__class__» shownTypeOf
 repeat lk
 exact h
theorem uP{tk:Tok}(X:K.In s.heap)(W:Looks (model prog w) s.heap (typeOf$ .ref x) (.ref C))(hm:mroIn K C (.type "object")=some true)(hb:mroIn K C (.type "BaseException")=some true)
  (gc:findIn K (.ref C) "__class__"=some (some$ .builtin "object.__class__")) (hn:specialIn K (.builtin "object.__class__") "__get__"=some (some$ .builtin "getset_descriptor.__get__")) (V:takesIn K (.builtin "object.__class__")=some true) (h:R (.ok$ .ret$ .ref C) s) :
  codeAny (model prog w) A (.call (.builtin "BaseException.__getattribute__") ⟨[.ref x,.str "__class__" tk],[]⟩) R s:=by
 obtain⟨h0,g,d,t,os⟩:=s;have L1:=looks_mroIn (M:=model prog w) X hb;have L2:=looks_findIn (M:=model prog w) X gc;have L3:=looks_specialIn (M:=model prog w) X hn;have L4:=looks_takesIn (M:=model prog w) X V;have hk:builtinKind "BaseException.__getattribute__"=some .slot:=kK
 have O:splitId "BaseException.__getattribute__"=some ("BaseException","__getattribute__"):=kK
 have S:=F.args_bexc_ga (.ref x)$ .str "__class__" tk;refine qDJ kK F.entry_bexc_ga ?_;simp only[checkBuiltinCall,hk,O];refine qAA ?_;unfold isInstance;refine(W.andThen L1).at ?_;simp only[Bool.not_true,qCe,qB7]
 have go:wpAny (model prog w) A.in1 (Builtin.«object.__getattribute__» ⟨[.ref x,.str "__class__" tk],[]⟩) (λfin s'=>match fin with
   | .done f=>R (.ok f) s'
   | .again c'=>c'.quiet=true/\codeAny (model prog w) A c' R s') (λe s'=>R (.error e) s') ⟨h0,g,d,t,os⟩:=by
  unfold Builtin.«object.__getattribute__»
  repeat lk
  show wpAny _ _ (run$ .call (.builtin "getset_descriptor.__get__") ⟨[.builtin "object.__class__",.ref x,.ref C],[]⟩) _ _ _;exact wpAny_run$ sG X W hm$ qAE$ qAE h
 unfold argsOk at S
 cases hs:Manifest.signature? "BaseException.__getattribute__" with
 |none=>exact qAE go
 |some aa=>
  rw[hs]at S;simp only at S ⊢;rw[S];exact qAE go
theorem nN{Q:Option Value->Shared->Prop}(X:K.In s.heap)(S:Looks (model prog w) s.heap (typeOf$ .ref x) (.ref C))(hm:mroIn K C (.type "object")=some true)(V:mroIn K C (.type "BaseException")=some true)(W:findIn K (.ref C) "__getattribute__"=some (some$ .builtin "BaseException.__getattribute__"))(gn:findIn K (.ref C) "__getattr__"=some none)
  (gc:findIn K (.ref C) "__class__"=some (some$ .builtin "object.__class__")) (hn:specialIn K (.builtin "object.__class__") "__get__"=some (some$ .builtin "getset_descriptor.__get__")) (O:takesIn K (.builtin "object.__class__")=some true) (h:Q (some$ .ref C) {s with toks:=s.toks+1}) :
  wpAny (model prog w) A (getAttr? (.ref x) "__class__") Q E s:=by
 obtain⟨h0,g,d,t,os⟩:=s;have L1:=looks_findIn (M:=model prog w) X W;have L2:=looks_findIn (M:=model prog w) X gn;have f3:=F.excAttr_ValueError.ga.bind$ .ref x;unfold getAttr? getAttrBy? getAttrBy;refine qAA$ wpAny_mkText$ qAA$ qB9$ qAy$ qAA$ S.at$ qAA$ L1.at ?_;show wpAny _ _ (getAttrByItsOwn _ _ _ _ _ _) _ _ _;unfold getAttrByItsOwn;unfold hookBefore;refine qAA ?_;rw[qAC$ show onTheHeap (Value.ref C)=true from rfl];refine L2.at ?_;refine qAA$ qB9$ qAy ?_;unfold callGetattribute;rw[qAB ss];unfold boundAndCalled;rw[f3];refine qAA$ qAE ?_;refine qCF$ uP (s:=⟨h0,g,d,t+1,os⟩) X S hm V gc hn O ?_;exact qAE$ qAE h
def zFb(K:PySem.W.Frag)(C:Addr):Bool:=(mroIn K C (.type "object")==some true)&&(mroIn K C (.type "BaseException")==some true)&&(findIn K (.ref C) "__getattribute__"== some (some$ .builtin "BaseException.__getattribute__"))&&(findIn K (.ref C) "__getattr__"== some none) &&
 (findIn K (.ref C) "__class__"== some (some$ .builtin "object.__class__"))&&(specialIn K (.builtin "object.__class__") "__get__"== some (some$ .builtin "getset_descriptor.__get__"))&&(takesIn K (.builtin "object.__class__")==some true)&&(clsIn K C).isSome
theorem zJs(q:zFb K C=true):KitX K (.ref x) (.ref C) (λh=>∃o,h.get? x=some o/\o.cls= .ref C):=by
 unfold zFb at q;simp only[qBS,qBQ]at q;obtain⟨⟨⟨⟨⟨⟨⟨hm,V⟩,W⟩,gn⟩,gc⟩,hn⟩,O⟩,hc⟩:=q;have ty:∀(M:Model)(h:Heap),(∃o,h.get? x=some o/\o.cls= .ref C)->Looks M h (typeOf$ .ref x) (.ref C):=λM h ⟨o,e1,e2⟩=>e2▸(Looks.ld e1).andThen .now;refine⟨λM h _ p=>ty M h p,λM h X _=>?_,λh tp dd its n sl X S=>?_,λX p k=>nN X (ty _ _ p) hm V W gn gc hn O k⟩
 .unfold clsIn at hc;split at hc
  case h_1 c1 d1 cd1 sl1 ho=>
   intro A1 Q1 E1 s1 k q;unfold isType loadHead;exact qAA$ wpAny_loadPart (k _ _$ X _ _ ho)$ qAE q
  case h_2=>cases hc
 .refine Bool.eq_false_iff.mpr λz=>?_;have e:C=tp:=Value.ref.inj$ qBQ.mp z;subst e;unfold clsIn at hc;split at hc
  case h_1 c1 d1 cd1 sl1 ho=>
   have z:=(X _ _ ho).symm.trans S
   cases z
  case h_2=>cases hc
end
section
variable{X:Cx}
theorem iM{pins:List (Addr×Obj)}{σ:St}{H:Hp}{s:Shared}{a C:Addr}{dd:Option Addr}(I:Inv X pins σ H s)(e:H a=some (fC a C dd)):∃o,s.heap.get? a=some o/\o.cls= .ref C :=
 let⟨o,O,S,_⟩:=(I.hok a _ e).1
 ⟨o,O,S⟩
theorem rh:zCz X (.builtin "isinstance") (λxs H Q=>∃a C dd D b,xs=[.ref a,.ref D]/\H a=some (fC a C dd)/\zFb X.K C=true/\PySem.W.kitOne X.K (.ref C) (.ref D)=some b/\Q (.bl b) H):=by
 intro pins s σ H xs us Q I V h;obtain⟨a,C,dd,D,b,rfl,e,k,S,q⟩:=h;obtain⟨u,v,rfl,W,O⟩:=V.two
 cases W
 cases O
 exact qA8 (zJs k) I.kIn (iM I e) S (λz=>nomatch z) λtk=>⟨.bl b,H,I.tok tk,rF,q⟩
theorem oh:zCz X (.builtin "isinstance") (λxs H Q=>∃a C dd n b,xs=[.ref a,.ty n]/\H a=some (fC a C dd)/\zFb X.K C=true/\PySem.W.kitOne X.K (.ref C) (.type n)=some b/\Q (.bl b) H):=by
 intro pins s σ H xs us Q I V h;obtain⟨a,C,dd,D,b,rfl,e,k,S,q⟩:=h;obtain⟨u,v,rfl,W,O⟩:=V.two
 cases W
 cases O
 exact qA8 (zJs k) I.kIn (iM I e) S (λz=>nomatch z) λtk=>⟨.bl b,H,I.tok tk,rF,q⟩
theorem tU:∀{S:List Addr}{its:List Value},dv (S.map V.ref) its->its=S.map Value.ref:=by
 intro S
 induction S with
 |nil=>intro its r;cases r;rfl
 |cons D S O=>
  intro its r
  cases r with
  |cons r1 r2=>
   cases r1
   rw[O r2];rfl
theorem nP:zCz X (.builtin "isinstance") (λxs H Q=>∃a C dd t b,∃S:List Addr,xs=[.ref a,.ref t]/\H a=some (fC a C dd)/\H t=some (.tup$ S.map V.ref)/\zFb X.K C=true/\PySem.W.kitAny X.K (.ref C) (S.map Value.ref)=some b/\Q (.bl b) H):=by
 intro pins s σ H xs us Q I W h;obtain⟨a,C,dd,t,b,S,rfl,e,et,k,kb,q⟩:=h;obtain⟨u,v,rfl,ru,O⟩:=W.two
 cases ru
 cases O
 obtain⟨_,its,r,o,ho,hc,n,hd⟩:=(show zBq X.prog X.w H s.heap t (.tup$ S.map V.ref)from I.hok t _ et);obtain⟨c1,d1,dt,sl⟩:=o;have hc:c1= .type "tuple":= hc;have hd:dt= .seq its.toArray n:=hd;subst hc hd;have ei:=tU r;subst ei;exact PySem.W.kia_tup (zJs k) I.kIn (iM I e) ho kb (λz=>nomatch z) λtk=>⟨.bl b,H,I.tok tk,rF,q⟩
end
end L2
namespace L2
open PySem PySem.Spec PyProof.Rows
variable{X:Cx}
structure Flt(P:Program)(w:World)(stack:List Env)(ch:List Addr)(H:Hp)(s:Shared)(a C:Addr)(dd:Option Addr)(H':Hp)(s':Shared):Prop where
 ex:∃B:Heap,FlD B stack a (.ref C) dd s'.heap/\∀b o,(H' b≠none\/(s.heap.get? b≠none/\b∉frs stack/\b∉ch))->s'.heap.get? b=some o->B.get? b=some o
 os:s'.os=s.os
 bare:AllBare s'.gens
 un:Un (frs stack) ch H H' s.heap s'.heap
 hok:HOk P w H' s'.heap
 na:H' a=none
 ng:s.heap.get? a=none\/a∈ch
def wB(X:Cx)(pins:List (Addr×Obj))(ch:List Addr):Prop:=∀b∈ch,(b∈X.ex\/X.s₀.heap.objs.size<=b)/\b≠X.env.locals/\(∀x c,X.env.cells.lookup x=some c->c≠b)/\∀p∈X.pn++pins,p.1≠b
def zGb(X:Cx)(E:St->XK):Prop:=∀(pins:List (Addr×Obj)) (σ:St) (H:Hp) (s:Shared) (ch:List Addr) (a C:Addr) (dd:Option Addr) (H':Hp) (s':Shared),Inv X pins σ H s->wB X pins ch->Flt X.prog X.w X.stack ch H s a C dd H' s'->E σ (.ref C) dd H'->X.xe (.ref a) s'
theorem Inv.landC{pins:List (Addr×Obj)}{σ:St}{H H':Hp}{s s':Shared}{h' B:Heap}{ch:List Addr}(I:Inv X pins σ H s)(V:wB X pins ch)(os:s'.os=s.os)(W:AllBare s'.gens)(un:Un (frs X.stack) ch H H' s.heap s'.heap)(aa:HOk X.prog X.w H' s'.heap)
  (hB:∀b o,(H' b≠none\/(s.heap.get? b≠none/\b∉frs X.stack/\b∉ch))->s'.heap.get? b=some o->B.get? b=some o) (st:B.StaysIn h') (us:s'.heap.UpToSlots h'):Inv X pins σ H' {s' with heap:=h'}:=by
 have fr:∀b∈frs X.stack,b∉ch->∀o,s.heap.get? b=some o->∃sl,h'.get? b=some {o with slots:=sl}:=λb S O o e=>by
  obtain⟨sl,q⟩:=un.slot b o e (I.stkFree b S) S O;obtain⟨_,o1,e1,d1⟩:=I.stack.mem S;rw[e]at e1;cases e1;obtain⟨ad,q2⟩:=us b _ q d1;exact⟨ad,q2⟩
 have out:∀b o,b∉frs X.stack->b∉ch->s.heap.get? b=some o->H b=none->h'.get? b=some o:=λb o nb O e n=>st b o$ hB b o (.inr ⟨by rw[e];simp,nb,O⟩)$ un.keep b o e n nb O
 have J:Inv X pins σ H' {s with heap:=h',gens:=s'.gens,drawn:=s'.drawn,toks:=s'.toks}:=by
  refine I.step (g':=s'.gens) (d':=s'.drawn) (t':=s'.toks) (ch:=ch) V (λb o nL nf O e n=>?_) (λb o nL bf O e n=>?_) (λb o O e n=>un.free b o e n O) (λb o O e=>?_) un.tups un.frzs un.tbls (λm hm=>?_)
   (zH7 aa st λb o z=>hB b o$ .inl z) W
  .exact out b o (λz=>(qAT.mp$ I.stkSub b z).elim nL nf) O e n
  .by_cases S:b∈frs X.stack
   .exact fr b S O o e
   .exact ⟨o.slots,out b o S O e n⟩
  .by_cases S:b∈frs X.stack
   .obtain ⟨sl,q⟩:=fr b S O o e;exact⟨_,q⟩
   .obtain ⟨o1,q⟩:=un.there b o e O;exact⟨o1,st b o1$ hB b o1 (.inr ⟨by rw[e];simp,S,O⟩) q⟩
  .have O:X.env.locals∉ch:=λz=>(V _ z).2.1 rF;obtain⟨o,es,ep,ho,r⟩:=hm
   by_cases S:X.env.locals∈frs X.stack
   .obtain ⟨sl,q⟩:=fr _ S O o ho;exact⟨_,es,ep,q,r⟩
   .exact ⟨o,es,ep,out _ o S O ho I.free,r⟩
 have e:({s' with heap:=h'}:Shared)={s with heap:=h',gens:=s'.gens,drawn:=s'.drawn,toks:=s'.toks}:=by
  cases s'
  simp only at os;subst os;rfl
 rw[e];exact J
theorem zGb.at{E:St->XK}(p:zGb X E):j4 (CX1 X.prog X.w) X E:=by
 intro pins σ H s e s' I h;obtain⟨a,C,dd,H',B,rfl,V,os,O,un,S,W,ng,hB,q⟩:=h;exact p pins σ H s [] a C dd H' s' I (λb z=>nomatch z) ⟨⟨B,V,λb o z=>hB b o$ z.imp id λy=>⟨y.1,y.2.1⟩⟩,os,O,un,S,W,.inl ng⟩ q
section
variable{P:Program}{w:World}{K:PySem.W.Frag}{mg:Str->Option Value}{base:Heap}{N:List Str}{qual:Str}{scope:Scope}{f:Addr}{cd:Value}{A:Around}{outer:List Env}{s:Shared}{H:Hp}{E:XK}{E':St->XK}
theorem mJ(hE:∀σ c d H',E' σ c d H'->E c d H'):zGb (dQ (CX1 P w) P w K mg base N qual scope f cd A outer s H E) E':=by
 intro pins σ H1 s1 ch a C dd H' s2 I aa h q;obtain⟨⟨B,fl,hB⟩,os,W,un,ad,na,ng⟩:=h;have I2:Inv (dQ (CX1 P w) P w K mg base N qual scope f cd A outer s H E) pins σ H' s2:=I.call' os un ad W aa;refine kh I.ok.frames rF fl λh' ae us=>?_;have st:=ae.1;have O:∀b:Addr,b∉(dQ (CX1 P w) P w K mg base N qual scope f cd A outer s H E).ex:=λb z=>nomatch z
 have V:∀b o,(H' b≠none\/(s.heap.get? b≠none/\b∉frs outer))->s2.heap.get? b=some o->B.get? b=some o:=λb o hc e=>by
  refine hB b o ?_ e;rcases hc with z|⟨z1,z2⟩
  .exact .inl z
  .cases S:s.heap.get? b with
   |none=>exact absurd S z1
   |some o0=>
    obtain⟨o1,e1⟩:=I.base.there b o0 S$ O b;refine .inr ⟨by rw[e1];simp,λz=>?_,λz=>?_⟩
    .rcases qAT.mp (I.stkSub b z)with y|y
     .exact absurd (qAj (qAI S)$ by rw[y];exact I.ok.above)$ qA2 _
     .exact z2 y
    .rcases (aa b z).1 with y|y
     .exact O b y
     .exact absurd (qAj (qAI S) y)$ qA2 _
 refine⟨a,C,dd,H',B,rF,ae,I2.os,W,jW I2.base st us V (λb hb o e=>?_) λb hb=>I.ok.frf b hb,zH7 ad st λb o z=>V b o$ .inl z,na,?_,λb o hc e=>?_,hE _ _ _ _ q⟩
 .obtain ⟨_,o',e',d⟩:=I.ok.funs.mem hb;have e':s.heap.get? b=some o':=e';rw[e]at e';cases e';exact d
 .cases S:s.heap.get? a with
  |none=>rfl
  |some o0=>
   obtain⟨o1,e1⟩:=I.base.there a o0 S$ O a;rcases ng with ng|ng
   .rw [ng]at e1;cases e1
   .rcases (aa a ng).1 with y|y
    .exact absurd y$ O a
    .exact absurd (qAj (qAI S) y)$ qA2 _
 .have e:h'.get? b=some o:=e
  have:∃o2,s2.heap.get? b=some o2:=by
   rcases hc with z|⟨z1,z2⟩
   .cases S:H' b with
    |none=>exact absurd S z
    |some u=>exact zFx$ ad b u S
   .cases S:s.heap.get? b with
    |none=>exact absurd S z1
    |some o0=>exact I2.base.there b o0 S$ O b
  obtain⟨o2,e2⟩:=this;have e3:=V b o2 hc e2;rw[st b o2 e3]at e
  cases e
  exact e3
end
section
variable{X:Cx}
theorem ua{body:List Stmt}{W:Stmt}{S:List Stmt}{cx n:Str}{np ah pos:Pos}{i:Nat}{Cb:Addr}{tb:(St->XK)->TS}{th:Addr->TS}(hex:X.ex=[])(aa:X.stack=X.env::X.outer)(ao:X.env.frame=some X.env.locals)(hc:X.calm=true)(hN:X.N.Nodup)(hi:X.N[i]?=some n)(hl:X.env.kindOf n=some .local)
  (hg:Gl X cx) (hm:X.mg cx=some (.ref Cb)) (qb:gt X.K Cb=true) (hb:∀pl ξ E,zGb (X.tb pl ξ) E->PassesOwn (model X.prog X.w) X.A X.env ξ->PSs (X.tb pl ξ) body (tb E)) (hh:∀a,PSs (X.hnd a) (W::S) (th a))
  (hd:(cx==("__debug__": Str))=false:=by decide):PS X (.Try body [.ExceptHandler (some$ .Name cx np) (some n) (W::S) ah] [] [] pos) (xZ X.K Cb i tb th):=by
 intro pins s σ H D I h;have hk:X.calm=true->X.A.handled=none:=I.ok.hd;refine wpAny_Try_except ?_;refine qAv (hb pins _ _ ?_ ?_ [] s σ H D I.to_tb h) (λf s1 q=>?_) λe s1 q=>q
 rotate_left
 .exact PassesOwn.looking
 .have q:=wQ q
  cases f with
  |next=>exact qCS q
  |brk=>exact q
  |cont=>exact q
  |ret u=>exact q
 intro ap ae H1 s1 ch a C dd H' s2 I1 O hx hE;obtain⟨⟨B,fl,hB⟩,os,ad,un,ai,na,V⟩:=hx;obtain⟨C1,ec,qc,sub,aq⟩:=hE
 cases ec
 have fl:FlD B (X.env::X.outer) a (.ref C) dd s2.heap:=by rw[<-aa];exact fl
 have ar:X.A.frames=some (X.env::X.outer):=by rw[<-aa];exact I.ok.frames
 refine gE ar ao fl λh4 aj ak=>?_;refine zG9 aj λh5 af al _=>?_;have J5:Inv X pins ae H' {s2 with heap:=h5}:=(I1.landC O os ad un ai hB af.1$ ak.trans al).of_tb;obtain⟨ob,au,am,_⟩:=af.there;refine wpAny_handleBy_cons (codeAny_handlers_test$ zFj (X:=X.hnd a) J5.to_hnd hg hm ?_ hd) (by intro z;cases z);obtain⟨bm,N,nm,qn,bs,hdct,sn,ay,ab,col,dj,k0,k1,k2,k3,k5,hC,T,e1⟩:=qN J5.kIn qc;obtain⟨aB,N2,nm2,aC,aD,av,aE,az,aF,aA,aG,j0,j1,j2,j3,j5,aw,T2,_⟩:=qN J5.kIn qb;refine oJ hC aw au am (by rw[List.contains_cons,T2.hasType (X:="BaseException") (b:=true) kK,Bool.or_true]) (r:=true) (by rw[<-e1];exact sub) ?_;refine codeAny_handlers_suite_as$ zG9 af λh6 an ax _=>?_;have J6:Inv X pins ae H' {s2 with heap:=h6}:=(I1.landC O os ad un ai hB an.1$ (ak.trans al).trans ax).of_tb
 have new:∀b o,s1.heap.get? b=some o->b∉ch->b≠a:=λb o e nc z=>by
  subst z;rcases V with V|V
  .rw [V]at e;cases e
  .exact nc V
 have J7:Inv X pins ae (upd H' a$ fC a C dd) {s2 with heap:=h6}:=J6.track na (by
   cases q0:X.s₀.heap.get? a with
   |none=>rfl
   |some o0=>
    obtain⟨o1,e2⟩:=I1.base.there a o0 q0 (by show a∉X.ex;rw[hex];simp);rcases V with V|V
    .rw [V]at e2;cases e2
    .rcases (O a V).1 with y|y
     .have y:a∈X.ex:=y;rw[hex]at y;cases y
     .exact absurd (qAj (qAI q0) y)$ qA2 _)
  (by obtain⟨m,⟨o,_,_,ho,_⟩,_⟩:=I1.loc;exact qAh$ new _ o ho λz=>(O _ z).2.1 rF)
  (λx c e=>by obtain⟨v,o,ho,_⟩:=I1.cell x c e;exact new _ o ho λz=>(O _ z).2.2.1 x c e rF)
  (λp hp=>new _ _ (I1.pin p$ qAp _ hp).1 λz=>(O _ z).2.2.2 p (qAp _ hp) rF)$ ti an.there
 refine zG1 (v:=.ref a) (u:=.ref a) J7 hN hi (.inl hl) rF (λs7 I7=>?_)$ .inr hl;refine qAv (hh a pins s7 _ _ _ I7.to_hnd$ aq a na) (λf s8 q8=>?_) λ_ _ z=>z.elim
 cases f with
 |next=>obtain⟨ag,H8,I8,q⟩:=q8;exact zFz (I8.of_hnd hk) hN hi hl λs9 I9=>⟨_,H8,I9,q⟩
 |brk=>obtain⟨ag,H8,I8,q⟩:=q8;exact zFz (I8.of_hnd hk) hN hi hl λs9 I9=>⟨_,H8,I9,q⟩
 |cont=>obtain⟨ag,H8,I8,q⟩:=q8;exact zFz (I8.of_hnd hk) hN hi hl λs9 I9=>⟨_,H8,I9,q⟩
 |ret u=>obtain⟨v,ag,H8,I8,r,q⟩:=q8;exact zFz (I8.of_hnd hk) hN hi hl λs9 I9=>⟨v,_,H8,I9,r,q⟩
end
def vP(sp:Sp)(E:St->XK)(t:TA):TE:=λσ H Q=>t σ H λvs H1=>sp vs H1 Q$ E σ
structure jr(P:Program)(w:World)(K:PySem.W.Frag)(mg:Str->Option Value)(base:Heap)(x:Str)(k:Nat)(ps:List Str)(sp:Sp):Prop where
 to:∃(f:Addr)(fd:FuncData),mg x=some (.ref f)/\PySem.W.keepIn K (.ref f)=true/\zDe K fd ps []/\dw P w K mg base (CX1 P w) k f fd ps sp
theorem zFt{x:Str}{k:Nat}{ps:List Str}{sp:Sp}{E:St->XK}{e:Expr}{es:List Expr}{p pos:Pos}{t:TA}(C:jr X.prog X.w X.K X.mg X.base x k ps sp)(V:dF k X.A)(W:Gl X x)(hp:zGb X E)(ha:PA X (e::es) t)
  (O:(x==("__debug__": Str))=false:=by decide) (he:starEach (e::es) X.env=(false,eval e X.env)::starEach es X.env:=by rfl) (S:(backTo pos$ starEach es X.env).any (·.1)=false:=by rfl) :
  PE X (.Call (.Name x p) (e::es) [] pos) (vP sp E t):=by
 obtain⟨f,fd,h1,h2,h3,h4⟩:=C.to;exact pW h4 V W h1 h2 h3 hp.at ha O he S
theorem zF9{K:PySem.W.Frag}(O:X.K=K:=by rfl):zCz X (.builtin "isinstance") (λxs H Q=>∃a C dd D b,xs=[.ref a,.ref D]/\H a=some (fC a C dd)/\zFb K C=true/\PySem.W.kitOne K (.ref C) (.ref D)=some b/\Q (.bl b) H):=by subst O;exact rh
theorem lE{K:PySem.W.Frag}(O:X.K=K:=by rfl):zCz X (.builtin "isinstance") (λxs H Q=>∃a C dd n b,xs=[.ref a,.ty n]/\H a=some (fC a C dd)/\zFb K C=true/\PySem.W.kitOne K (.ref C) (.type n)=some b/\Q (.bl b) H):=by subst O;exact oh
theorem zI2{K:PySem.W.Frag}(O:X.K=K:=by rfl):zCz X (.builtin "isinstance") (λxs H Q=>∃a C dd t b,∃S:List Addr,xs=[.ref a,.ref t]/\H a=some (fC a C dd)/\H t=some (.tup$ S.map V.ref)/\zFb K C=true/\PySem.W.kitAny K (.ref C) (S.map Value.ref)=some b/\Q (.bl b) H):=by subst O;exact nP
theorem iJ(xs:List V){b:Int}(h:0<=b):fI xs none (some b)=xs.take b.toNat:=by
 obtain⟨k,rfl⟩:∃k:Nat,b=k:=⟨b.toNat,Ll⟩;unfold fI;rw[HT.sIx_nat,HT.sIx_none,List.drop_zero,Nat.sub_zero];show xs.take (min k xs.length)=xs.take k;rw[List.take_eq_take_min (i:=k)]
theorem zF3(xs:List V){b:Int}(h:0<=b):fI xs (some b) none=xs.drop b.toNat:=by
 obtain⟨k,rfl⟩:∃k:Nat,b=k:=⟨b.toNat,Ll⟩;unfold fI;rw[HT.sIx_nat,HT.sIx_none];show(xs.drop$ min k xs.length).take (xs.length-min k xs.length)=xs.drop k;rw[qBN$ by rw[qAz];lia]
 by_cases z:k<=xs.length
 .rw [Nat.min_eq_left z]
 .rw [Nat.min_eq_right Ll,qCf Ll,qCf Ll]
open AutoSeq1 (wpAny_loadPart')
theorem jS(a:Addr)(O:Obj)(S:O.cls= .type "dict")(b:Str)(u:Tok) :
  Meets (Builtin.«dict.__eq__» ⟨[.ref a,.str b u],[]⟩) (λ_ R s=>s.heap.get? a=some O/\R (.ok$ .ret .notImplemented) s) :=
 .of_wp λP w A R s ⟨V,q⟩=>by
  have ta:s.TypeIs (.ref a) "dict":= ⟨_,V,S⟩;unfold Builtin.«dict.__eq__»;show wpAny _ _ (Builtin.Dict.dictSlotArgs "__eq__" ⟨[.ref a,.str b u],[]⟩ >>= _) _ _ s;unfold Builtin.Dict.dictSlotArgs;refine qAA$ qAA$ wpAny_notOrdered_dict ta ?_;show wpAny _ _ (pure ((Value.ref a,[Value.str b u]):Value×List Value) >>= _) _ _ s;refine qAA$ qAE$ qAE ?_;refine qAA$ qCP (qBp s b u) qC4 ?_;rw[qAC ss];exact qAA$ qBD$ qAE ⟨_,rF,q⟩
theorem i_(b:Str)(u:Tok)(l:Addr)(O:Obj)(es:Array DictEntry)(ep:Nat)(S:O.data= .dict es ep) :
  Meets (Builtin.«str.__eq__» ⟨[.str b u,.ref l],[]⟩) (λ_ R s=>s.heap.get? l=some O/\R (.ok$ .ret .notImplemented) s):=by
 obtain⟨c,dd,V,sl⟩:=O;simp only at S;subst S;exact .of_wp λprog w A R s h=>by obtain⟨hp,g,d,tk,os⟩:=s;obtain⟨W,h⟩:=h;wp_walk using wpAny_loadPart' W,qB4 W;exact⟨_,rF,h⟩
theorem jN{A:Around}{s:Shared}{l:Addr}{O:Obj}{es:Array DictEntry}{ep:Nat}(b:Str)(u:Tok)(V:s.heap.get? l=some O)(W:O.cls= .type "dict")(da:O.data= .dict es ep)(hu:A.units<cLine):SeqAt.RcAt A s (.ref l) (.str b u) false:=λprog w E Q h=>
 SeqAt.rc_eq_decline_or (k:=false) ⟨_,V,W⟩ (qBp s b u) dD qC4 F.slot_dict_eq F.slot_str_eq_refl
  (λ_ S=>qBT F.slot_dict_eq ⟨_,V,W⟩ F.entry_dict_eq (F.args_dict_eq_2 _ _) (jS l O W b u) ⟨V,S⟩)
  (λ_ S=>qBT F.slot_str_eq_refl (qBp s b u) F.entry_str_eq (F.args_str_eq_2 _ _) (i_ b u l O es ep da) ⟨V,S⟩)
  (λ_ S=>qCM (rfl:isSame (.ref l) (.str b u)=pure false) S) (.inr hu) h
def c_(H:Hp)(v:V):Prop:=(∃x,v= .str x)\/v= .non\/(∃b,v= .bl b)\/(∃i,v= .int i)\/∃a,v= .ref a/\((∃xs,H a=some (.lst xs))\/(∃xs,H a=some (.tup xs))\/∃S,H a=some (.dK S))
section
variable{X:Cx}
theorem qj(V:X.A.units<cLine):OpR X (compareOp .Eq) (λx y H Q=>∃z,y= .str z/\c_ H x/\Q (.bl$ decide$ x= .str z) H):=by
 intro pins s σ H x y v u Q I O S h;obtain⟨z,rfl,t,q⟩:=h;rcases t with⟨x,rfl⟩|rfl|⟨b,rfl⟩|⟨i,rfl⟩|⟨a,rfl,t⟩
 .exact zD8 pins s σ H _ _ v u Q I O S ⟨rF,q⟩
 .exact zD8 pins s σ H _ _ v u Q I O S ⟨rF,q⟩
 .exact zD8 pins s σ H _ _ v u Q I O S ⟨rF,q⟩
 .exact zD8 pins s σ H _ _ v u Q I O S ⟨rF,q⟩
 .cases O
  obtain⟨tk,rfl⟩:=S
  have q:Q (.bl false) H:=by
   rw[qAZ λz=>nomatch z]at q;exact q
  rcases t with⟨xs,t⟩|⟨xs,t⟩|⟨W,t⟩
  .obtain ⟨its,r,pl,hz⟩:=I.list$ SqL.of t;exact SeqAt.RcAt.list_str z tk pl.isList V X.prog X.w X.xe _ ⟨.bl false,H,I,rF,q⟩
  .obtain ⟨its,r,pl,hz⟩:=I.tuple$ SqT.of t;exact SeqAt.RcAt.tuple_str z tk (show s.heap.IsTuple a its.toArray from pl) V X.prog X.w X.xe _ ⟨.bl false,H,I,rF,q⟩
  .obtain ⟨z1,n1,vs,r1,o1,es,ep,g1,c1,d1,k1,p1,aa⟩:=gm I.hok$ show Rd H a (.dK W)from .inl t;exact jN z tk g1 c1.1 d1 V X.prog X.w X.xe _ ⟨.bl false,H,I,rF,q⟩
end
def iL:Expr->Bool
 | .Starred ..=>false
 |_=>true
theorem ot{e:Expr}{es:List Expr}{env:Env}(h:iL e=true):starEach (e::es) env=(false,eval e env)::starEach es env:=by
 cases e<;>first|rfl|cases h
open PySem.W in
open PySem.W in
theorem nk{K:PySem.W.Frag}{C:Addr}{v:Value}(h:mroIn K C v=some true):(jQ K C).contains v=true:=by
 unfold mroIn clsIn at h;unfold jQ;split at h
 .rename_i e;rw[Option.bind_some]at h;split at h
  .cases h
  .rw [e];injection h
 .cases h
section
variable{X:Cx}
theorem zBr:OpR X (binaryOp .FloorDiv) (rI (λ_ j=>0<j/\j<10^100) λi j=>.int$ i / j):=opI λi j _ _ _ _ _ hc q=>by
 have h1:(0:Int)<j:=hc.1;have h2:j<10^100:=hc.2;refine floordiv_int Ll (by rw[Int.fdiv_eq_ediv_of_nonneg i Ll];exact q)$ .inl$ PyProof.noPylong_of_log2 ?_;have O:j.natAbs≠0:=Ll
 rw[Nat.log2_lt O];have:j.natAbs<10^100:=Ll
 exact qAj this kK
end
end L2
namespace RV
open PySem
end RV
namespace L2
open PySem PySem.Spec PyProof.Rows
section
variable{X:Cx}
theorem tW{P:Program}{w:World}{k:Key}{u:Value}(h:(zB5 P w).is k u=true):dy (kV k) u:=by
 rcases zBo (show gh k u=true from h)with⟨i,t,rfl,rfl⟩|⟨x,t,rfl,rfl⟩
 .exact ⟨t,rF⟩
 .exact ⟨t,rF⟩
theorem uz:∀{S:List (Key×V)} {vs:List (Key×Value)} {j:Nat} {k:Key} {v:V},KV S vs->S[j]?=some (k,v)->∃u,vs[j]?=some (k,u)/\dy v u
 |_,_,j,_,_,.nil,h=>by simp at h
 |_,_,0,k,v,.cons (a:=a) (b:=b) r _,h=>by
  have e:a=(k,v):=by simpa using h
  subst e;exact⟨b.2,by simp;exact Prod.ext r.1.symm rF,r.2⟩
 |_,_,j+1,k,v,.cons r O,h=>by
  obtain⟨u,h1,h2⟩:=uz O (show _=some (k,v) by simpa using h);exact⟨u,by simpa using h1,h2⟩
end
section
variable{X:Cx}{pins:List (Addr×Obj)}{σ:St}{H:Hp}{s:Shared}{a:Addr}{u o':HO}
theorem Inv.retell(I:Inv X pins σ H s)(e:H a=some u)(S:∀xs,u≠.tup xs)(V:∀x,u≠.own x)(W:∀ps,u≠.tbl ps)(nf:∀o v,X.H₀ a≠some (.frz o v))(new:zBq X.prog X.w (upd H a o') s.heap a o'):Inv X pins σ (upd H a o') s:=by
 have O:∀b,H b=none->b≠a:=λb h z=>by rw[z,e]at h;cases h
 refine⟨I.ok,I.os,I.bare,⟨I.base.keep,I.base.slot,λb o q n x=>?_,I.base.there,λb xs q=>?_,λb o v q=>?_,λb ps q=>?_⟩,I.loc,I.cell,?_,λx c h=>?_,λp hp=>?_,λb o q=>?_,I.len⟩
 .have:=I.base.free b o q n x;rw[a_$ O b this];exact this
 .have:=I.base.tups b xs q;rw[a_ λz=>by rw[z,e]at this;exact S xs$ qAb this];exact this
 .have:=I.base.frzs b o v q;rw[a_ λz=>nf o v$ by rw[<-z];exact q];exact this
 .obtain ⟨more,this⟩:=I.base.tbls b ps q;exact⟨more,by rw[a_ λz=>by rw[z,e]at this;exact W _$ qAb this];exact this⟩
 .rw [a_$ O _ I.free];exact I.free
 .rw [a_$ O _$ I.freeC x c h];exact I.freeC x c h
 .obtain ⟨h1,h2,h3⟩:=I.pin p hp;exact⟨h1,by rw[a_$ O _ h2];exact h2,h3⟩
 .by_cases z:b=a
  .subst z;rw[ac]at q;cases q;exact new
  .rw [a_ z]at q;refine(I.hok b o q).stay (λc v _ y=>y) (λc y=>?_) λc xs y=>?_
   .rw [a_ λz=>by rw[z,e]at y;exact V _$ qAb y];exact y
   .rw [a_ λz=>by rw[z,e]at y;exact S _$ qAb y];exact y
end
def uD(D:eI)(a:Addr)(o:Obj)(S:List (Key×V)):eI where
 nx:=λσ H=>H a=some (.frz o$ .dK S)/\D.nx σ (upd H a$ .dK S)
 rt:=λv H=>H a=some (.frz o$ .dK S)/\D.rt v (upd H a$ .dK S)
 bk:=λσ H=>H a=some (.frz o$ .dK S)/\D.bk σ (upd H a$ .dK S)
 ct:=λσ H=>H a=some (.frz o$ .dK S)/\D.ct σ (upd H a$ .dK S)
section
variable{X:Cx}
theorem Inv.thaw{pins:List (Addr×Obj)}{σ:St}{H:Hp}{s:Shared}{a:Addr}{o:Obj}{S:List (Key×V)}(I:Inv X pins σ H s)(e:H a=some (.frz o$ .dK S))(O:∀o v,X.H₀ a≠some (.frz o v)):Inv X pins σ (upd H a$ .dK S) s:=by
 obtain⟨_,z⟩:zBq X.prog X.w H s.heap a (.frz o$ .dK S):=I.hok a _ e;exact I.retell e (λ_ h=>nomatch h) (λ_ h=>nomatch h) (λ_ h=>nomatch h) O z
theorem vD{st:Stmt}{t:TS}(h:PS X st t):PS X st (λD σ H=>∃a S,H a=some (.dK S)/\∀o,t (uD D a o S) σ (upd H a$ .frz o$ .dK S)):=by
 intro pins s σ H D I ⟨a,S,e,q⟩;have ok:zBq X.prog X.w H s.heap a (.dK S):=I.hok a _ e;obtain⟨_,_,_,_,o,_,_,ho,_⟩:=id ok
 have nf:∀o v,X.H₀ a≠some (.frz o v):=λo v z=>by
  have:=I.base.frzs a o v z;rw[e]at this;cases this
 have I1:Inv X pins σ (upd H a$ .frz o$ .dK S) s:=I.retell e (λ_ h=>nomatch h) (λ_ h=>nomatch h) (λ_ h=>nomatch h) nf ⟨ho,ok⟩;refine thn (h pins s σ _ _ I1$ q o) λf s' r=>?_
 cases f with
 |next=>obtain⟨O,H',V,W,d'⟩:=r;exact⟨O,_,V.thaw W nf,d'⟩
 |brk=>obtain⟨O,H',V,W,d'⟩:=r;exact⟨O,_,V.thaw W nf,d'⟩
 |cont=>obtain⟨O,H',V,W,d'⟩:=r;exact⟨O,_,V.thaw W nf,d'⟩
 |ret u=>obtain⟨v,O,H',V,rv,W,d'⟩:=r;exact⟨v,O,_,V.thaw W nf,rv,d'⟩
end
end L2
namespace RV
open PySem
end RV
namespace L2
open PySem PySem.Spec PyProof.Rows
theorem kn{X:Cx}{pins:List (Addr×Obj)}{σ:St}{H:Hp}{s:Shared}{a:Addr}{o:Obj}{S:List (Key×V)}(I:Inv X pins σ H s)(e:H a=some (.frz o$ .dK S)) :
  ∃vs es ep,KV S vs/\o.data= .dict es ep/\es.size=S.length/\s.heap.DictAt (zB5 X.prog X.w) a vs ep/\(a==sysModules)=false/\S.length<=sizeLine/\s.heap.get? a=some o/\o.ExactDict:=by
 obtain⟨ho,z,hd,vs,O,o1,es,ep,W,y2,y3,y4,y5,y6⟩:zBq X.prog X.w H s.heap a (.frz o$ .dK S):=I.hok a _ e;rw[ho]at W
 cases W
 have l1:=y5.length;have l2:=O.length;exact⟨vs,es,ep,O,y3,by simp only[qB2]at l1;lia,⟨o,es,ho,y2,y3,y4,y5,y6⟩,hd,z,ho,y2⟩
end L2
namespace ST
open PySem PyProof.Rows PySem.W
end ST
namespace L2
open PySem PySem.Spec PyProof.Rows
def Itk(a:Addr)(o:Obj)(S:List (Key×V)):It :=
 ⟨λi H=>H a=some (.frz o$ .dK S)/\i<S.length,λi H v H'=>H'=H/\∃k x,S[i]?=some (k,x)/\v=kV k,λi H=>H a=some (.frz o$ .dK S)/\S.length<=i⟩
theorem pe{P:Program}{w:World}{K:PySem.W.Frag}{tg:Expr}(a it:Addr)(o:Obj)(es:Array DictEntry)(ep:Nat)(S:List (Key×V))(hd:o.data= .dict es ep):jz P w K tg (Itk a o S) [it] it (λi h=>h.IsKeyIter it a i S.length ep) where
 mem:=ss
 obj:=λi h ⟨o,st,c,dt⟩ b hb=>by
  have:b=it:=by simpa using hb
  subst this;exact⟨_,st,λv y=>by rw[dt]at y;cases y⟩
 keep:=λi h h' st k=>st.at λo e=>k it ss o e
 item:=by
  intro X hP hw hK hc i pins s σ H E I hf st hg;subst hP hw hK;obtain⟨e,hi⟩:=hg;obtain⟨vs,ae,aa,W,O,_,da,_,_,ho,_⟩:=kn I e;have ee:aa=ep:=by rw[hd]at O;cases O;rfl
  subst ee;have len:=W.length;have ek:S[i]?=some (S[i].1,S[i].2):=qAq hi;obtain⟨v,ev,rv⟩:=uz W ek;rw[len]at st;obtain⟨f0,f1,f2,f3,f4,f5⟩:=hf it ss;refine wpAny_pyNext_dict_item st da ev λkey h' hk ad sb=>?_;have I1:Inv X pins σ H {s with heap:=h',toks:=s.toks}:=I.turned (t':=s.toks) (λb o hb y=>sb.extBut b o hb y) f0 f1 f3 f4 f5;rw[<-len]at ad;obtain⟨o2,g1,g2,g3⟩:=id ad;exact⟨_,rF,jU (s:={s with heap:=h'}) (n:="dict_keyiterator") g1 g2 g3 dD ⟨kV S[i].1,H,I1,tW hk,⟨rF,_,_,ek,rF⟩,ad,λb hb=>(hf b hb).1⟩⟩
 done:=by
  intro X hP hw hK hc i pins s σ H E I hf st hg;subst hP hw hK;obtain⟨e,hi⟩:=hg;obtain⟨vs,ae,aa,W,O,_,da,_,_,ho,_⟩:=kn I e;have ee:aa=ep:=by rw[hd]at O;cases O;rfl
  subst ee;have len:=W.length;rw[len]at st;obtain⟨f0,f1,f2,f3,f4,f5⟩:=hf it ss;exact wpAny_pyNext_dict_end (I.ok.hd hc) st da (by simp;lia) λh' eb=>⟨rF,I.turned (t':=s.toks) (λb o hb y=>eb b o hb y) f0 f1 f3 f4 f5⟩
 self:=λ_ _ _ _ _ st h=>wpAny_pyIter_keyiter st h
section
variable{X:Cx}
theorem sm{tg o:Expr}{to:TE}(ho:PE X o to):PI X tg o (λσ H R=>to σ H λx H1=>∃a V S,x= .ref a/\H1 a=some (.frz V$ .dK S)/\R (Itk a V S) H1):=by
 intro pins s σ H R I h;refine thn (ho pins s σ H _ I h) λv W ⟨x,H1,I1,r1,a,V,S,ex,e,q⟩=>?_;subst ex
 cases r1
 obtain⟨vs,es,ep,aa,hd,sz,da,O,z,ad,ae⟩:=kn I1 e;have len:=aa.length;refine wpAny_pyIter_dict O da ?_;refine⟨W.heap.objs.size,[W.heap.objs.size],_,_,H1,rF,I1.kept (t':=W.toks) λb o e=>qAM _ e,pe a _ V es ep S hd,⟨_,qAk _ rF,rF,by rw[len];rfl⟩,λb hb=>?_,q⟩;have e:b=W.heap.objs.size:=by simpa using hb
 subst e;exact I1.fpOk (qAG _)$ I1.hok.fresh$ qAG _
theorem rq{a:Addr}{o:Obj}{S:List (Key×V)}{g:TG}{tb:TS}{D:eI}{σ:St}{H:Hp}(O:Nat->St->Hp->Prop)(h0:O 0 σ H)(hl:∀i σ H,i<=S.length->O i σ H->H a=some (.frz o$ .dK S))
  (hs:∀i k v σ H,S[i]?=some (k,v)->O i σ H->g (kV k) σ H λaa H2=>tb {D with nx:=O (i+1),ct:=O (i+1),bk:=D.nx} aa H2) (hd:∀σ H,O S.length σ H->D.nx σ H) :
  ∃W:Nat->Nat->St->Hp->Prop,(∃m,W 0 m σ H)/\∀i m σ H,W i m σ H ->
   ((Itk a o S).stop i H/\D.nx σ H)\/((Itk a o S).go i H/\∃N:St->Hp->Prop,(∀ad H',N ad H'->∃m',m'<m/\W (i+1) m' ad H')/\∀x H',(Itk a o S).yld i H x H'->g x σ H' λaa H2=>tb {D with nx:=N,ct:=N,bk:=D.nx} aa H2):=by
 refine⟨λi m σ H=>m=S.length-i/\i<=S.length/\O i σ H,⟨S.length,ss,qAi _,h0⟩,?_⟩;rintro i m σ H ⟨rfl,hi,p⟩
 by_cases hlt:i<S.length
 .refine .inr ⟨⟨hl i σ H hi p,hlt⟩,O$ i+1,λad H' p'=>⟨_,?_,rF,hlt,p'⟩,λx H' y=>?_⟩
  .show S.length-(i+1)<S.length-i;lia
  .obtain ⟨rfl,k,v,ek,rfl⟩:=y;exact hs i k v σ H' ek p
 .have e:i=S.length:=Ll
  subst e;exact .inl ⟨⟨hl _ σ H hi p,qAG _⟩,hd σ H p⟩
end
end L2
namespace ST
open PySem PyProof.Rows
end ST
namespace L2
open PySem PySem.Spec PyProof.Rows
def gO(mg:Str->Option Value)(h:Heap):Prop:=∃bm o,mg "__builtins__"=some (.ref bm)/\bm≠builtinsNs/\h.get? bm=some o/\o.cls= .type "module"/\o.dict=some builtinsNs/\o.data= .plain
theorem oK{P:Program}{w:World}{K:PySem.W.Frag}{mg mb:Str->Option Value}{CX:CXT}{k:Nat}{fa a:Addr}{fd:FuncData}{x:Str}{sp:Sp}{S:Shared}{vs:List Value}{ns:List Int}{O:List (Addr×Addr)}
  (KX:K.In S.heap) (aj:S.heap.Ns mainGlobals mg) (hb:S.heap.Ns builtinsNs mb) (au:∀x:Str,x≠ "__name__"->mb x=bootBuiltins x) (ak:S.heap.NoLimit) (hg:S.gens=#[]) (hB:gO mg S.heap) (hT:PySem.W.TabsAt O S.heap) (av:∀q∈O,K.lookup q.2=none)
  (ha:S.heap.get? a=some {cls:=.type "list",data:=.seq vs.toArray}) (hi:IntsAre vs ns) (hl:ns.length<=sizeLine) (hr:dF k callerA)
  (F:∀base:Heap,K.In base->base.Ns mainGlobals mg->gO mg base->(∀q∈O,PySem.W.CodeHd base q.1 q.2)->dw P w K mg base CX k fa fd [x] sp) (af:∀(s:Shared)(u:Value),BindsTo s fd ⟨[u],[]⟩ [(x,u)])
  (aw:∀H:Hp,SqL K H a (ns.map V.int)->(∀q∈O,H q.2=some (.tbl #[]))->sp [.ref a] H (λv _=>v= .bl true) λ_ _ _=>False)
  (ax:∀H e s',CX [] H S (λ_ _ _=>False) e s'->False) :
  codeAny (model P w) callerA (.call (.ref fa) ⟨[.ref a],[]⟩) (λr s'=>r= .ok (.ret$ .bool true)/\OldK S.heap s'.heap/\s'.os=S.os/\AllBare s'.gens) S:=by
 have rv:=g9 hi;have al:=hi.length
 have ag:∀q∈O,q.2≠a:=λq hq z=>by
  have:=(hT q hq).2;rw[z,ha]at this;cases this
 have ae:∀H:Hp,(∀b,H b=none\/(∃o xs,H b=some (.frz o$ .lst xs))\/(H b=some (.tbl #[])/\∃q∈O,q.2=b))->SqL K H a (ns.map V.int)->(∀q∈O,H q.2=some (.tbl #[]))->HOk P w H S.heap->(∀b,H b≠none->b=a\/∃q∈O,q.2=b)->(H a≠none->K.lookup a=none) ->
   codeAny (model P w) callerA (.call (.ref fa) ⟨[.ref a],[]⟩) (λr s'=>r= .ok (.ret$ .bool true)/\OldK S.heap s'.heap/\s'.os=S.os/\AllBare s'.gens) S:=by
  intro H hO hS hH am hA hK;have W:∀{b:Addr}{o:Obj},S.heap.get? b=some o->H b=none->(gb S.heap H).get? b=some o:=λe n=>rL e n
  have ah:∀{b:Addr}{o:Obj},S.heap.get? b=some o->(∀xs n,o.data≠.seq xs n)->(∀ps,o.data≠.fields ps\/o.cls≠.none)->H b=none:=λ{b o} e n1 n2=>by
   cases q:H b with
   |none=>rfl
   |some u=>
    rcases hA b (by rw[q];simp)with z|⟨r,hr,z⟩
    .subst z;rw[ha]at e;cases e;exact absurd rF$ n1 _ _
    .subst z;rw[(hT r hr).2]at e;cases e;rcases n2 #[]with z|z<;>exact absurd rF z
  have ay:∀{b:Addr}{o:Obj}{es:Array DictEntry}{ep:Nat},S.heap.get? b=some o->o.data= .dict es ep->H b=none:=λ{b o es ep} e d=>ah e (λxs n z=>by rw[d]at z;cases z) λps=>.inl λz=>by rw[d]at z;cases z
  have ad:∀{b:Addr}{m:Str->Option Value},S.heap.Ns b m->(gb S.heap H).Ns b m:=λ{b m} ⟨o,es,ep,e,d,r⟩=>⟨o,es,ep,W e$ ay e d,d,r⟩
  have an:K.In (gb S.heap H):=λb o e=>W (KX b o e) (by
   cases q:H b with
   |none=>rfl
   |some u=>
    rcases hA b (by rw[q];simp)with z|⟨r,hr,z⟩
    .subst z;rw[hK$ by rw[q];simp]at e;cases e
    .subst z;rw[av r hr]at e;cases e)
  have az:gO mg (gb S.heap H):=by
   obtain⟨bm,o,b1,b2,b3,b4,b5,b6⟩:=hB;exact⟨bm,o,b1,b2,W b3 (ah b3 (λxs n z=>by rw[b6]at z;cases z) λps=>.inl λz=>by rw[b6]at z;cases z),b4,b5,b6⟩
  have aA:∀q∈O,PySem.W.CodeHd (gb S.heap H) q.1 q.2:=λq hq=>by
   obtain⟨o,aB,ao,tf,ai,tg,aC,ap,tt,c1,c2,c3,c4⟩:=(hT q hq).1;exact⟨o,aB,ao,tf,ai,tg,aC,ap,tt,W c1 (ah c1 (λxs n z=>by rw[c3]at z;cases z) λps=>.inr λz=>by rw[c2]at z;cases z),c2,c3,c4⟩
  have hM:Mod K mg (gb S.heap H):=⟨an,ad aj,⟨mb,ad hb,au⟩,let⟨mc,h1,h2⟩:=ak;⟨mc,ad h1,h2⟩⟩;have e0:jK P w K mg (gb S.heap H) callerA [] S H:=⟨rF,hM,λb o e=>sU e,qCU$ nv _ _,trivial,λb hb=>absurd (show b∈([]:List Addr)from hb) ss,am,.of_eq hg⟩;refine qBf ((F _ an (ad aj) az aA).run callerA [] S H ⟨[.ref a],[]⟩ [.ref a] [.ref a] _ _ hr e0 (af S$ .ref a) (.cons rF .nil)$ aw H hS hH) λr s' h=>?_
  cases r with
  |error e=>exact(ax H e s' h).elim
  |ok fl=>
   cases fl with
   |next=>exact False.elim h
   |brk=>exact False.elim h
   |cont=>exact False.elim h
   |ret u=>
    obtain⟨v,H',os,aq,un,aa,r',q⟩:=h;have q':v= .bl true:=q;subst q';obtain rfl:u=Value.bool true:=r'
    have kept:∀b o,S.heap.get? b=some o->(∀r∈O,r.2≠b)->s'.heap.get? b=some o:=λb o e nt=>by
     cases q:H b with
     |none=>exact un.keep b o e q (by intro z;exact absurd (show b∈([]:List Addr)from z) ss) ss
     |some u=>
      rcases hO b with z|⟨ob,xs,z⟩|⟨z,r,hr,y⟩
      .rw [q]at z;cases z
      .have z2:=un.frzs b ob _ z;obtain⟨e1,_⟩:=am b _ z;obtain⟨e2,_⟩:=aa b _ z2;rw[e]at e1;cases e1;exact e2
      .exact absurd y$ nt r hr
    refine⟨rF,⟨λb o e=>?_,λb o e=>?_⟩,os,aq⟩
    .by_cases t:∃r∈O,r.2=b
     .obtain ⟨r,hr,rfl⟩:=t;obtain⟨c1,c2⟩:=hT r hr;rw[c2]at e;cases e;obtain⟨more,z⟩:=un.tbls _ _$ hH r hr;have z2:s'.heap.get? r.2=some {cls:=.none,data:=.fields (#[]++more)}:=aa _ _ z;exact .inr$ .inl ⟨(c1.tab c2).isCodeTable,rF,#[],more,rF,z2⟩
     .exact .inl$ kept b o e λr hr z=>t ⟨r,hr,z⟩
    .by_cases t:∃r∈O,r.2=b
     .obtain ⟨r,hr,rfl⟩:=t;obtain⟨more,z⟩:=un.tbls _ _$ hH r hr;exact⟨_,aa _ _ z⟩
     .exact ⟨o,kept b o e λr hr z=>t ⟨r,hr,z⟩⟩
 have ar:∀b:Addr,(∃q∈O,q.2=b)->S.heap.get? b=some (PySem.W.tabObj #[]):=λb ⟨q,hq,e⟩=>by rw[<-e];exact(hT q hq).2
 open Classical in
 cases hk:K.lookup a with
 |some o=>
  have e:=KX a o hk;rw[ha]at e
  cases e
  refine ae (λb=>if(∃q∈O,q.2=b)then some (.tbl #[])else none) (λb=>?_) (.inr ⟨_,vs.toArray,_,hk,rF,rF,rF,by rw[qAS,al];exact hl,by simpa using rv⟩) (λq hq=>qAC ⟨q,hq,rF⟩) (λb u z=>?_) (λb z=>?_) λz=>?_
  .by_cases t:∃q∈O,q.2=b
   .exact .inr$ .inr ⟨qAC t,t⟩
   .exact .inl$ qAB t
  .by_cases t:∃q∈O,q.2=b
   .have z':=(qAC t).symm.trans z
    cases z'
    exact ar b t
   .have z':=(qAB t).symm.trans z
    cases z'
  .by_cases t:∃q∈O,q.2=b
   .exact .inr t
   .exact absurd (qAB t) z
  .by_cases t:∃q∈O,q.2=a
   .obtain ⟨q,hq,e⟩:=t;exact absurd e$ ag q hq
   .exact absurd (qAB t) z
 |none=>
  have aD:¬∃q∈O,q.2=a:=λ⟨q,hq,e⟩=>ag q hq e;refine ae (λb=>if b=a then some (.frz {cls:=.type "list",data:=.seq vs.toArray}$ .lst$ ns.map V.int)else if(∃q∈O,q.2=b)then some (.tbl #[])else none) (λb=>?_) (.inl$ .inr ⟨{cls:=.type "list",data:=.seq vs.toArray},qAC rF⟩) (λq hq=>(qAB$ ag q hq).trans$ qAC ⟨q,hq,rF⟩) (λb u z=>?_) (λb z=>?_) λ_=>hk
  .by_cases hb:b=a
   .exact .inr$ .inl ⟨_,_,qAC hb⟩
   .by_cases t:∃q∈O,q.2=b
    .exact .inr$ .inr ⟨(qAB hb).trans$ qAC t,t⟩
    .exact .inl$ (qAB hb).trans$ qAB t
  .by_cases hb:b=a
   .have z':=(qAC hb).symm.trans z
    cases z'
    subst hb;exact⟨ha,by rw[qAD];exact hl,vs,_,rv,ha⟩
   .by_cases t:∃q∈O,q.2=b
    .have z':=((qAB hb).trans$ qAC t).symm.trans z
     cases z'
     exact ar b t
    .have z':=((qAB hb).trans$ qAB t).symm.trans z
     cases z'
  .by_cases hb:b=a
   .exact .inl hb
   .by_cases t:∃q∈O,q.2=b
    .exact .inr t
    .exact absurd ((qAB hb).trans$ qAB t) z
theorem py{l:PySem.W.OpenLaw}{n k:Nat}{q:Program}{W:List Str}{XP:(Str->Option Value)->Heap->Prop}{YP:World->Heap->Prop}{d:DefRec}{K:Params->PySem.W.Frag}{CX:World->CXT}{sp:World->Sp}{x:Str}{S:List (Addr×Addr)}
  (hn:l.most=some n) (af:n<=sizeLine) (ag:d.params.defaults=[]) (hr:dF k callerA)
  (hY:∀(w:World)(h:Heap),YP w h->(K w.params).In h) (hT:∀(w:World)(h:Heap),YP w h->PySem.W.TabsAt S h) (ah:∀(w:World),∀q∈S,(K w.params).lookup q.2=none)
  (F:∀(w:World) (mg:Str->Option Value) (fa:Addr) (h:Heap),(K w.params).In h->h.Ns mainGlobals mg->mg d.name=some (.ref fa) ->
   ∃fd:FuncData,(∀(s:Shared)(u:Value),BindsTo s fd ⟨[u],[]⟩ [(x,u)]) /\
    ∀base:Heap,(K w.params).In base->base.Ns mainGlobals mg->gO mg base->(∀q∈S,PySem.W.CodeHd base q.1 q.2)->dw l.prog w (K w.params) mg base (CX w) k fa fd [x] (sp w))
  (ai:∀(w:World)(H:Hp)(a:Addr)(ns:List Int),ns.length<=n->SqL (K w.params) H a (ns.map V.int)->(∀q∈S,H q.2=some (.tbl #[]))->sp w [.ref a] H (λv _=>v= .bl true) λ_ _ _=>False)
  (aj:∀(w:World)(H:Hp)(s:Shared)(e:Value)(s':Shared),CX w [] H s (λ_ _ _=>False) e s'->False) :
  PySem.W.WalkO q W XP YP l.row.toRowW d [] (λf vs=>PySem.call f vs):=by
 refine Att.attach_call hn ag λw s₀ ad mg mb fa o pm cd al a vs ns G Y ho hd am ak ae aa O hg=>?_;have KX:=hY w _ Y;obtain⟨fd,hb,hF⟩:=F w mg fa _ KX G.T.g ak;exact oK KX G.T.g G.T.b G.T.builtins G.T.nolimit hg G.T.bmain (hT w _ Y) (ah w) ae aa (qAW O af) hr hF hb (λH hS hH=>ai w H a ns O hS hH) λH e s'=>aj w H ad e s'
end L2
namespace RV
open PySem
end RV
namespace L2
open PySem PySem.Spec PyProof.Rows
end L2
namespace L2
variable{t1 t2 t3 t4 t5 t6 t7:TS}
theorem fJ{D σ H}(h:let d:=D;let r2:=t2;dA t1 r2 d σ H):dA t1 t2 D σ H:=h
theorem gv{D σ H}(h:let d:=D;let O:=t3;let r2:=dA t2 O;dA t1 r2 d σ H):dA t1 (dA t2 t3) D σ H:=h
theorem e_{D σ H}(h:let d:=D;let O:=t4;let S:=dA t3 O;let r2:=dA t2 S;dA t1 r2 d σ H):dA t1 (dA t2$ dA t3 t4) D σ H:=h
theorem vd{D σ H}(h:let d:=D;let O:=t5;let S:=dA t4 O;let V:=dA t3 S;let r2:=dA t2 V;dA t1 r2 d σ H):dA t1 (dA t2$ dA t3$ dA t4 t5) D σ H:=h
theorem xT{D σ H}(h:let d:=D;let O:=t7;let S:=dA t6 O;let V:=dA t5 S;let W:=dA t4 V;let r3:=dA t3 W;let r2:=dA t2 r3;dA t1 r2 d σ H):dA t1 (dA t2$ dA t3$ dA t4$ dA t5$ dA t6 t7) D σ H:=h
theorem xK{O:TS}{D σ H}(h:let d:=D;let S:=O;let V:=dA t7 S;let W:=dA t6 V;let r5:=dA t5 W;let r4:=dA t4 r5;let r3:=dA t3 r4;let r2:=dA t2 r3;dA t1 r2 d σ H):dA t1 (dA t2$ dA t3$ dA t4$ dA t5$ dA t6$ dA t7 O) D σ H:=h
theorem wt{O S:TS}{D σ H}(h:let d:=D;let V:=S;let W:=dA O V;let r7:=dA t7 W;let r6:=dA t6 r7;let r5:=dA t5 r6;let r4:=dA t4 r5;let r3:=dA t3 r4;let r2:=dA t2 r3;dA t1 r2 d σ H):dA t1 (dA t2$ dA t3$ dA t4$ dA t5$ dA t6$ dA t7$ dA O S) D σ H:=h
end L2
local macro_rules|`(tactic|walk_at"lc")=>`(tactic|first|exact Or.inl rF|exact Or.inr rF)
local macro_rules|`(tactic|walk_at"nm")=>`(tactic|first|assumption|exact qCa|(refine L2.nm1 ?_;walk_at"ne")|(refine L2.nm2 ?_ ?_<;>walk_at"ne")|(refine L2.nm3 ?_ ?_ ?_<;>walk_at"ne"))
local macro_rules|`(tactic|walk_at"lk")=>`(tactic|first|assumption|exact L2.ac|(refine(L2.a_ ?_).trans ?_;walk_at"ne";walk_at"lk")|(refine L2.Kp.look (by assumption) ?_ ?_;walk_at"lk";walk_at"nm"))
local macro_rules|`(tactic|walk_at"ne")=>`(tactic|first|assumption|(refine qAh ?_;assumption)|(refine L2.b_ (by assumption) ?_;walk_at"lk")|(refine qAh$ L2.b_ (by assumption) ?_;walk_at"lk"))
local macro_rules|`(tactic|walk_at"bd")=>`(tactic|first|decide|lia|(dsimp only;first|decide|lia))
local macro_rules|`(tactic|walk_at"ml")=>`(tactic|first|exact Or.inr ⟨dD,dD⟩|exact Or.inl ⟨Ll,Ll⟩|exact Or.inr ⟨Ll,Ll⟩)
local macro_rules|`(tactic|walk_at"ln")=>`(tactic|first|decide|(have hsz:=PySem.sizeLine_eq;simp only[qAa,qBB,qAD,qAN]at *;lia))
local macro_rules|`(tactic|walk_at"ix")=>`(tactic|first|rfl|assumption|(refine L2.jG ?_;assumption))
local macro_rules|`(tactic|walk_at"vs")=>`(tactic|first|exact Or.inl rF|exact Or.inr$ Or.inl rF|exact Or.inr$ Or.inr rF)
local macro_rules|`(tactic|walk_at"vk")=>`(tactic|first|exact Or.inl rF|exact Or.inr rF)
local macro_rules|`(tactic|walk_at"vf")=>`(tactic|first|decide +kernel|(simp only[qAT];decide))
namespace My
open PySem L2
variable{P:Program}{w:World}{K:PySem.W.Frag}{mg:Str->Option Value}{base:Heap}{C:Addr}
variable{H H':Hp}{f:Addr}{fd:FuncData}{ns:List Str}{α:Type}{i:Nat}{y:Str}
section
variable{X:Cx}{scope sc:Scope}{C:Addr}{s₀:Shared}{H₀:Hp}{ex:List Addr}{N P:List Str}{i:Nat}{x:Str}{e:Expr}{te:TE}{pos pos':Pos}{ix:List (Option Nat)}
theorem psS(O:X.N.Nodup)(S:PE X e te)(hi:X.N[i]?=some x:=by rfl)(V:Loc X.env.scope x:=by walk_at"lc")(hs:swapsWith e (some$ .Name x pos') pos.line X.env=pure false:=by rfl)(W:X.fn x=true\/X.env.scope.names.lookup x=some .local:=by first|exact .inl rF|exact .inr rF|assumption):PS X (.Assign [.Name x pos'] e pos) (pb te$ zJy i):=zIt O hi V S hs W
theorem pgN(O:X.N.Nodup)(hi:X.N[i]?=some x:=by rfl)(S:Loc X.env.scope x:=by walk_at"lc")(V:X.fn x=true\/X.env.scope.names.lookup x=some .local:=by first|exact .inl rF|exact .inr rF|assumption):PG X (.Name x pos) (zJy i):=lS O hi S V
theorem pgB(hi:(X.block scope C s₀ H₀ ex N).N[i]?=some x:=by rfl)(O:N.Nodup:=by decide +kernel)(S:Loc (X.block scope C s₀ H₀ ex N).env.scope x:=by walk_at"lc")(V:(X.block scope C s₀ H₀ ex N).fn x=true\/(X.block scope C s₀ H₀ ex N).env.scope.names.lookup x=some .local:=by first|exact .inl rF|exact .inr rF|assumption):PG (X.block scope C s₀ H₀ ex N) (.Name x pos) (zJy i):=lS O hi S V
theorem dtk(O:X.N[i]?=some x)(D:du X scope N ix)(V:Vis X.env.scope x:=by walk_at"vs")(S:(relabel scope X.env).names.lookup x=some .cell\/(relabel scope X.env).names.lookup x=some .free:=by walk_at"vk")(W:(x,NameKind.free)∈scope.names:=by walk_at"vf"):du X scope (x::N) (some i::ix):=.tk O V S W D
theorem fnS(a:sc.kind= .function:=by rfl)(b:sc.isCoroutine=false:=by rfl)(c:sc.isGenerator=false:=by rfl)(d:N.Nodup:=by decide +kernel)(e:N.take P.length=P:=by rfl)(f:∀x∈P,sc.names.lookup x=some .local\/sc.names.lookup x=some .cell:=by decide +kernel)(g:∀y∈sc.names,y.2≠.free:=by decide +kernel):dq N P sc:=⟨a,b,c,d,e,f,g⟩
end
def top(i:Nat):Stmt:=PySem.Challenge.pw_levelbench_k83_papers_refused.main.body.getD i$ .Pass ⟨0,0,0,0⟩
structure Txt(K:PySem.W.Frag)(mg:Str->Option Value):Prop where
 z_len:mg "len"=none
 z_max:mg "max"=none
 z_range:mg "range"=none
 z_int:mg "int"=none
 z_str:mg "str"=none
 z_list:mg "list"=none
 z_all:mg "all"=none
 z_min:mg "min"=none
 z_dict:mg "dict"=none
 z_bool:mg "bool"=none
 z_abs:mg "abs"=none
 z_reversed:mg "reversed"=none
 z_enumerate:mg "enumerate"=none
 z_any:mg "any"=none
 z_zip:mg "zip"=none
 z_sum:mg "sum"=none
 z_isinstance:mg "isinstance"=none
 z_sorted:mg "sorted"=none
 z_set:mg "set"=none
 z_tuple:mg "tuple"=none
 c_MOST_JOBS:∃t,mg "MOST_JOBS"=some (.int 20 t)
 c_LONGEST_NAME:∃t,mg "LONGEST_NAME"=some (.int 8 t)
section
def zB9(H:Hp)(p:Addr):Prop:=∃a b:Int,H p=some (.lst [.int a,.int b])/\0<=a/\0<=b/\b<2147483629
theorem zB9.kp{M:List Addr}{p:Addr}(h:zB9 H p)(k:Kp M H H')(n:p∉M):zB9 H' p:=by
 obtain⟨a,b,e,r⟩:=h;exact⟨a,b,k p _ e n,r⟩
inductive eV(vs:List V)(H:Hp)(Q:VK)(u_3:XK):Prop
 |mk:∀(p:Addr)(m:Int),vs=[.ref p,.int m]->zB9 H p->1<=m->m<10^100->(∀(d:Int)(H':Hp),0<=d->d<m->zB9 H' p->Kp [p] H H'->Q (.int d) H')->eV vs H Q u_3
abbrev kQ:Stmt:=top 55
theorem mm:dq ["_law_purse_here","_law_many","_law_digit"] ["_law_purse_here","_law_many"] (zAg kQ):=fnS
theorem sy(F:Fun K "_law_take" "_law_take" kQ f fd):dw P w K mg base CX0 1 f fd ["_law_purse_here","_law_many"] eV:=by
 refine F.ok mm (λvs H Q E h=>?_) λW A outer s H vs Q E hr h=>?_
 .obtain ⟨p,m,rfl,_⟩:=h;rfl
 .obtain ⟨p,m,rfl,⟨a,b,hp,V,hb,O⟩,hm,S,k⟩:=h
  refine⟨_,(zAc (zBk (zAr jh (zBd zA0 (pv 0) zAd λ_ _=>rfl) zAd$ zAv _) (zAc (psS (i:=2) mm.nd$ zAn zBa (zBd zA0 (pv 0) zAd fun _ _=>rfl)$ pv 1)
    (zAc (iU (zAn zBr (zBd zA0 (pv 0) zAd fun _ _=>rfl)$ pv 1)$ lj (pv 0) zAd zI9)$ zAe$ zAw$ pv 2)) zAs) (zAc (iU (zAn zBa (zAn zCy (zAn zFv (zBd zA0 (pv 0) zAd fun _ _=>rfl) zAd) zAd) zAd)$ lj (pv 0) zAd zI9)$ zAe$ zAw$ zAn zBa (zAn zJi (zAn zBa (zAn zFv (zBd zA0 (pv 0) zAd λ_ _=>rfl)$ zBd zA0 (pv 0) zAd λ_ _=>rfl) zAd) zAd)$ pv 1)),?_⟩
  refine gv ?_;intro _ _ _;refine⟨_,rF,_,_,_,_,rF,rF,SqL.of (by walk_at"lk"),(by walk_at"ix"),_,_,rF,rF,_,rF,?_⟩;refine dE (λc=>?_) λc=>?_
  .have c':0<a:=by simpa using c
   refine⟨_,rF,_,_,_,_,rF,rF,SqL.of (by walk_at"lk"),(by walk_at"ix"),_,rF,_,_,rF,rF,(by walk_at"bd"),?_⟩;refine⟨_,rF,_,_,_,_,rF,rF,SqL.of (by walk_at"lk"),(by walk_at"ix"),_,rF,_,_,rF,rF,⟨by walk_at"bd",S⟩,_,rF,_,_,_,_,rF,rF,(by walk_at"lk"),(by walk_at"ix"),?_⟩;refine⟨_,rF,?_⟩;refine k _ _ (qAw _ Ll) (qA0 _ Ll) ⟨a / m,b,ac,qCQ V Ll,hb,O⟩$ Kp.put Kp.refl ss
  .refine ⟨_,rF,_,_,_,_,rF,rF,SqL.of (by walk_at"lk"),(by walk_at"ix"),_,_,rF,rF,(by walk_at"ml"),_,_,rF,rF,_,_,rF,rF,(by walk_at"bd"),_,rF,_,_,_,_,rF,rF,(by walk_at"lk"),(by walk_at"ix"),?_⟩;have h1:=qAw (b*39373+7919) (show(2147483629:Int)≠0 by decide);have h2:=qA0 (b*39373+7919) (show(0:Int)<2147483629 by decide);refine⟨_,rF,_,_,_,_,rF,rF,SqL.of (by walk_at"lk"),(by walk_at"ix"),_,rF,_,_,_,_,rF,rF,SqL.of (by walk_at"lk"),(by walk_at"ix"),_,_,rF,rF,(by walk_at"ml"),_,_,rF,rF,(by walk_at"bd"),_,_,rF,rF,⟨by walk_at"bd",by walk_at"bd"⟩,_,rF,_,_,rF,rF,(by walk_at"bd"),?_⟩;refine k _ _ (qAw _ Ll) (qA0 _ Ll) ⟨a,_,ac,V,h1,h2⟩$ Kp.put Kp.refl ss
inductive iG(vs:List V)(H:Hp)(Q:VK)(u_3:XK):Prop
 |mk:∀(c k:Int),vs=[.int c,.int k]->-(2^31)<k->k<2^31->(∀(p:Addr)(H':Hp),Fre H p->zB9 H' p->Kp [] H H'->Q (.ref p) H')->iG vs H Q u_3
abbrev ig:Stmt:=top 54
theorem jD:dq ["_law_cell_here","_law_k","_law_number"] ["_law_cell_here","_law_k"] (zAg ig):=fnS
theorem qT(F:Fun K "_law_purse" "_law_purse" ig f fd)(T:Txt K mg):dw P w K mg base CX0 1 f fd ["_law_cell_here","_law_k"] iG:=by
 refine F.ok jD (λvs H Q E h=>?_) λV A outer s H vs Q E W h=>?_
 .obtain ⟨p,m,rfl,_⟩:=h;rfl
 .obtain ⟨c,n,rfl,hn,S,k⟩:=h
  refine⟨_,(zAc (psS (i:=2) jD.nd$ zAn zBa (zAn zCy (zAn zCy (zAn zFv (zAn zBa (pv 0) zAd) zAd)$ zAn zFv (zAn zFv (pv 1)$ pv 1) zAd) zAd) zAd)$ zAe$ zAw$ zAj$ zAa (zAi (nX rF) rR T.z_max vS$ zAa zAd$ zAa (zAn zE9 (pv 0)$ zAn ki zAd zAd) zAb)$ zAa (zAn zBa (zAn zFv (pv 2)$ pv 2) zAd) zAb),?_⟩
  refine fJ ?_;intro _ _;refine⟨_,rF,_,_,rF,rF,(by walk_at"bd"),_,_,rF,rF,(by walk_at"ml"),_,rF,_,rF,_,_,rF,rF,(by walk_at"ml"),_,_,rF,rF,(by walk_at"ml"),_,_,rF,rF,_,_,rF,rF,_,_,rF,rF,(by walk_at"bd"),?_⟩;generalize c % 2147483629*48271+n*n*69623+11=y;have h1:=qAw y (show(2147483647:Int)≠0 by decide);have h2:=qA0 y (show(0:Int)<2147483647 by decide);refine⟨_,rF,_,_,rF,rF,⟨dD,dD,dD⟩,_,_,rF,rF,_,_,rF,_,rF,_,rF,_,_,rF,rF,(by walk_at"ml"),_,_,rF,rF,(by walk_at"bd"),(by walk_at"ln"),λp O=>?_⟩;refine k p _ O ⟨_,_,ac,?_,qAw _ dD,qA0 _ dD⟩$ Kp.new Kp.refl O;split<;>lia
inductive lq(K:PySem.W.Frag)(vs:List V)(H:Hp)(Q:VK)(u_3:XK):Prop
 |mk:∀(a:Addr)(ns:List Int)(k:Int),vs=[.ref a,.int k]->SqL K H a (ns.map V.int)->0<=k->(∀c:Int,Q (.int c) H)->lq K vs H Q u_3
abbrev lK:Stmt:=top 53
theorem s_:dq ["_law_script","_law_k"] ["_law_script","_law_k"] (zAg lK):=fnS
theorem tQ(F:Fun K "_law_cell" "_law_cell" lK f fd)(T:Txt K mg):dw P w K mg base CX0 1 f fd ["_law_script","_law_k"] (lq K):=by
 refine F.ok s_ (λvs H Q E h=>?_) λO A outer s H vs Q E hr h=>?_
 .obtain ⟨p,m,n,rfl,_⟩:=h;rfl
 .obtain ⟨a,ns,n,rfl,S,W,k⟩:=h;refine⟨_,(zAe$ zAw$ qt (zAr jY (pv 1) (zAi zAp rR T.z_len zBy$ zAa (pv 0) zAb)$ zAv _) (zBd zA0 (pv 0) (pv 1) λ_ _=>rfl) zAd),?_⟩;refine⟨_,rF,_,rF,_,_,rF,.inl S,_,_,rF,rF,_,rF,?_⟩;refine dE (λc=>?_) λc=>?_
  .have c':n<ns.length:=by simpa using c
   have hx:(ns.map V.int)[n.toNat]?=some (V.int$ ns[n.toNat]' Ll):=ss
   refine⟨_,rF,_,rF,_,_,_,_,rF,rF,S,zEj W hx,k _⟩
  .exact k _
end
def zIp(s:Str):Prop:=1<=s.length/\s.length<=8/\∀c∈s.cps.toList,97<=c/\c<=122
def m_(n:Nat)(s:Str):Prop:=s.length=n/\∀c∈s.cps.toList,97<=c/\c<=122
theorem s0(a b:Str):(a++b).length=a.length+b.length:=by
 show(a++b).cps.size=_;rw[Str.cps_append,Array.size_append];rfl
theorem m_.more{n:Nat}{s:Str}(h:m_ n s){c:Nat}(h1:97<=c)(h2:c<=122):m_ (n+1) (s++⟨#[c]⟩):=by
 refine⟨by rw[s0,h.1];rfl,λx O=>?_⟩;rw[Str.cps_append,qCY]at O;rcases qAR.mp O with z|z
 .exact h.2 x z
 .have:x=c:=by simpa using z
  lia
def zEx:Str:="abcdefghijklmnopqrstuvwxyz"
theorem zEw:zEx.cps.toList=(List.range 26).map (97+·):=by decide +kernel
theorem kG{d:Int}(h0:0<=d)(h1:d<26):atI zEx.cps.toList d=some (97+d.toNat):=by
 refine zEj h0 ?_;have:d.toNat<26:=Ll
 rw[zEw,qAY,List.getElem?_range this];rfl
theorem zFh(a c:Nat):(!(decide$ ([c]:List Nat)<[a]))=decide (a<=c):=by
 have:(([c]:List Nat)<[a])↔c<a:=by
  constructor
  .intro h
   cases h with
   |rel h=>exact h
   |cons h=>cases h
  .intro h;exact List.Lex.rel h
 by_cases h:c<a
 .rw [qAV$ this.mpr h,qAZ Ll];rfl
 .rw [qAZ λz=>h$ this.mp z,qAV Ll];rfl
section
def zJo(s:Str):Bool:=decide (1<=s.length)&&decide (s.length<=8)&&s.cps.toList.all λc=>decide (97<=c)&&decide (c<=122)
theorem oo(s:Str):zJo s=true↔zIp s:=by
 unfold zJo zIp;simp only[qBS,qC5,qBt];exact⟨λ⟨⟨a,b⟩,c⟩=>⟨a,b,c⟩,λ⟨a,b,c⟩=>⟨⟨a,b⟩,c⟩⟩
inductive gg(vs:List V)(H:Hp)(Q:VK)(u_3:XK):Prop
 |mk:∀(x:Str),vs=[.str x]->x.length<=1000000->(∀H',Kp [] H H'->Q (.bl$ zJo x) H')->gg vs H Q u_3
abbrev zFp:Stmt:=top 27
theorem kM:dq ["thing"] ["thing"] (zAg zFp):=fnS
theorem kW(F:Fun K "is_name" "is_name" zFp f fd)(T:Txt K mg):dw P w K mg base CX0 1 f fd ["thing"] gg:=by
 refine F.ok kM (λvs H Q E h=>?_) λaa A outer s H vs Q E hr h=>?_
 .obtain ⟨x,rfl,_⟩:=h;rfl
 .obtain ⟨x,rfl,hx,k⟩:=h;obtain⟨tL,hL⟩:=T.c_LONGEST_NAME
  refine⟨_,(zAc (zBk (PW.pt$ zEk (zBm$ zBi$ zAi zBg rR T.z_isinstance zAl$ zAa (pv 0)$ zAa (zBw rR T.z_str iZ (v:=.ty "str") rF) zAb)$ zDv$ zBm$ qP uu uu zAd (zAi iS rR T.z_len zBy$ zAa (pv 0) zAb)$ zBs rF hL (v:=.int 8) ⟨_,rF⟩) (zAe$ zAw zEs) zAs)$ zAe$ zAw$ zAi (zE6 _ rF) rR T.z_all zI3$ zAa (zBn rF (zBp (sc:=zAg zFp) rF kK) (du.own (x:="sign") du.nil) (qq$ pv 0) (λ_ _ _ _=>(pgB (i:=0))) (λ_ _ _ _=>zCm) λ_ _ _ _=>(pM gM gM zAu (pv 0) zAu)) zAb),?_⟩
  refine fJ ?_;intro _ _;refine⟨_,rF,_,_,_,_,rF,dz.str x,zA1,_,rF,dC ?_⟩;refine⟨_,rF,_,rF,?_,_,_,rF,rF,_,rF,?_⟩
  .rw [qAK];lia
  refine dE (λc=>?_) λc=>?_
  .have c1:1<=x.length:=by
    have:=qBm c;lia
   refine⟨_,_,rF,rF,_,rF,?_⟩;refine dE (λc=>?_) λc=>?_
   .-- too long
    have W:¬(x.length<=8):=λz=>by
     have:decide ((x.length:Int)<=8)=true:=qAV Ll;rw[this]at c;cases c
    have e:zJo x=false:=by
     unfold zJo;rw[qAZ W];simp
    rw[<-e];exact k H Kp.refl
   .have W:x.length<=8:=by
     by_cases z:(x.length:Int)<=8
     .lia
     .rw [qAZ z]at c;exact absurd rF c
    refine⟨_,rF,_,rF,λD hD=>ou (z:=x) (λi ys τ H'=>(∃S,τ=[S])/\ys=((x.cps.toList.take i).map λc=>V.bl$ decide (97<=c)&&decide (c<=122))/\H'=upd H D (.lst ys)) ⟨⟨_,rF⟩,rF,rF⟩ ?_ ?_⟩
    .rintro i c ys τ H' hc ⟨⟨S,rfl⟩,rfl,rfl⟩;have ei:x.cps.toList.take (i+1)=x.cps.toList.take i++[c]:=by rw[qC1,hc];rfl
     have hi:i<x.cps.toList.length:=(qAL.mp hc).1;have O:x.cps.toList.length=x.length:=by simp[Str.length]
     have fin:∀b:Bool,b=(decide (97<=c)&&decide (c<=122))->(upd H D$ .lst$ (x.cps.toList.take i).map λc=>V.bl$ decide (97<=c)&&decide (c<=122)) D=some (.lst$ (x.cps.toList.take i).map λc=>V.bl$ decide (97<=c)&&decide (c<=122))/\((x.cps.toList.take i).map λc=>V.bl$ decide (97<=c)&&decide (c<=122)).length<sizeLine /\
       ((∃S,([some (V.str ⟨#[c]⟩)]:St)=[S])/\((x.cps.toList.take i).map fun c=>V.bl$ decide (97<=c)&&decide (c<=122))++[V.bl b]=((x.cps.toList.take$ i+1).map fun c=>V.bl$ decide (97<=c)&&decide (c<=122)) /\
       upd (upd H D$ .lst$ (x.cps.toList.take i).map λc=>V.bl$ decide (97<=c)&&decide (c<=122)) D (.lst$ ((x.cps.toList.take i).map λc=>V.bl$ decide (97<=c)&&decide (c<=122))++[V.bl b])=upd H D (.lst$ ((x.cps.toList.take i).map λc=>V.bl$ decide (97<=c)&&decide (c<=122))++[V.bl b])):=λb hb=>by
      refine⟨ac,?_,⟨_,rF⟩,?_,zB7⟩
      .rw [qAD,qAU,qAK];lia
      .rw [ei,qAP,hb];rfl
     refine⟨_,rF,_,_,rF,rF,_,rF,?_⟩;refine dE (λc1=>?_) λc1=>?_
     .refine ⟨_,_,rF,rF,fin _ ?_⟩;have c1:(!(decide$ ([c]:List Nat)<[97]))=true:=c1;rw[zFh]at c1;show(!(decide$ ([122]:List Nat)<[c]))=_;rw[zFh,c1];rfl
     .refine fin _ ?_;have c1:¬(!(decide$ ([c]:List Nat)<[97]))=true:=c1;rw[zFh]at c1;rw[Bool.not_eq_true]at c1;rw[c1];rfl
    .rintro ys τ H' ⟨⟨S,rfl⟩,rfl,rfl⟩;have O:x.cps.toList.take x.length=x.cps.toList:=qBN (by simp[Str.length]);refine⟨D,x.cps.toList.map λc=>decide (97<=c)&&decide (c<=122),rF,SqL.of ?_,?_⟩
     .rw [ac,O,qBO];rfl
     .have e:((x.cps.toList.map λc=>decide (97<=c)&&decide (c<=122)).all id)=zJo x:=by
       unfold zJo;rw[qAV c1,qAV W,qCg];rfl
      rw[e];exact k _$ Kp.new Kp.refl hD
  .-- empty
   have c1:¬(1<=x.length):=λz=>c$ qAV Ll;refine⟨_,rF,?_⟩;refine eZ ?_
   have e:zJo x=false:=by
    unfold zJo;rw[qAZ c1];simp
   rw[<-e];exact k H Kp.refl
end
abbrev Txs(H:Hp)(l:Addr)(ns:List Str):Prop:=H l=some (.lst$ ns.map V.str)
structure fF(H:Hp)(l:Addr)(qs:List (List Str×Addr)):Prop where
 top:H l=some (.lst$ qs.map λq=>V.ref q.2)
 row:∀q∈qs,H q.2=some (.tup$ q.1.map V.str)
 two:∀q∈qs,∃a b,q.1=[a,b]
theorem zH5(x:Str)(ns:List Str):inV (.str x) (ns.map V.str)=decide (x∈ns):=by
 unfold inV
 induction ns with
 |nil=>rfl
 |cons n r O=>
  rw[qAt,qCI,O];show((n==x)||_)=_
  by_cases e:n=x
  .subst e;simp
  .have S:¬x=n:=λz=>e z.symm;rw[qBG.mpr e];simp[S]
theorem zDd(ns:List Str):(ns.map V.str).all zGm=true:=by simp[zGm]
section
inductive eO(vs:List V)(H:Hp)(Q:VK)(u_3:XK):Prop
 |mk:∀(x:Str)(l:Addr)(ns:List Str),vs=[.str x,.ref l]->Txs H l ns->Q (.bl$ decide$ x∈ns) H->eO vs H Q u_3
abbrev zD0:Stmt:=top 28
theorem zGp:dq ["thing","names"] ["thing","names"] (zAg zD0):=fnS
theorem iu(F:Fun K "is_one_of" "is_one_of" zD0 f fd)(T:Txt K mg):dw P w K mg base CX0 1 f fd ["thing","names"] eO:=by
 refine F.ok zGp (λvs H Q E h=>?_) λV A outer s H vs Q E S h=>?_
 .obtain ⟨x,l,ns,rfl,_⟩:=h;rfl
 .obtain ⟨x,l,ns,rfl,O,k⟩:=h;refine⟨_,(zAe$ zAw$ i6 (zAi zBg rR T.z_isinstance zAl$ zAa (pv 0)$ zAa (zBw rR T.z_str iZ (v:=.ty "str") rF) zAb)$ gp$ zCs zFw (pv 0) (pv 1) rR),?_⟩;refine⟨_,rF,_,_,_,_,rF,dz.str x,zA1,_,rF,eZ ?_⟩;refine⟨_,rF,_,rF,_,_,rF,.inl$ SqL.of O,rF,zDd ns,?_⟩;rw[zH5];exact k
inductive eE(vs:List V)(H:Hp)(Q:VK)(u_3:XK):Prop
 |mk:∀(x:Str)(l:Addr)(ns:List Str),vs=[.ref l,.str x]->Txs H l ns->x∈ns->Q .non H->eE vs H Q u_3
abbrev zFf:Stmt:=top 45
theorem iF:dq ["names","thing"] ["names","thing"] (zAg zFf):=fnS
theorem iO(F:Fun K "check_job" "check_job" zFf f fd)(T:Txt K mg)(S:Cal P w K mg base "is_one_of" 1 ["thing","names"] eO):dw P w K mg base CX0 2 f fd ["names","thing"] eE:=by
 refine F.ok iF (λvs H Q E h=>?_) λV A outer s H vs Q E W h=>?_
 .obtain ⟨x,l,ns,rfl,_⟩:=h;rfl
 .obtain ⟨x,l,ns,rfl,hl,hx,k⟩:=h;have O:=W
  refine⟨_,(zAe$ zBk (zBm$ zBi$ zAh S O rF$ zAa (pv 1)$ zAa (pv 0) zAb) (zAe zAz) zAs),?_⟩
  refine⟨_,rF,_,rF,x,l,ns,rF,hl,?_⟩;rw[qAV hx];exact⟨_,rF,dC k⟩
end
abbrev dT1(ns:List Str)(g:Str->V):List (Key×V):=ns.map λn=>(Sum.inr n,g n)
theorem zCh(g:Str->V)(x:Str):∀ns:List Str,dX (dT1 ns g) (.inr x)=if x∈ns then some (g x)else none
 |[]=>rfl
 |n::r=>by
  by_cases e:n=x
  .subst e;have h1:dX (dT1 (n::r) g) (.inr n)=some (g n):=zGy rF;rw[h1];simp
  .have h1:dX (dT1 (n::r) g) (.inr x)=dX (dT1 r g) (.inr x):=zGz λz=>e$ Sum.inr.inj z;rw[h1,zCh g x r];have O:¬x=n:=λz=>e z.symm;simp[O]
theorem zD3{g:Str->V}{x:Str}(v:V)(h:x∉ns):dZ (dT1 ns g) (.inr x) v=dT1 ns g++[(.inr x,v)]:=pN v (by rw[zCh];simp[h])
theorem zAk{xs:List α}{x:α}(h:xs[i]?=some x):xs.take (i+1)=xs.take i++[x]:=by rw[qC1,h];rfl
theorem zA9{v:V}(h:(ns.map V.str)[i]?=some v):∃n,ns[i]?=some n/\v= .str n:=by
 rw[qAY]at h;obtain⟨n,e,r⟩:=qBU.mp h;exact⟨n,e,r.symm⟩
theorem zE4{xs:List α}(h:xs.Nodup){x:α}(e:xs[i]?=some x):x∉xs.take i:=λz=>by
 obtain⟨hi,rfl⟩:=qAL.mp e;obtain⟨j,S,O⟩:=qBL.mp z;rw[qAU]at S;rw[List.getElem_take]at O;have:=(List.getElem_inj h).mp O;lia
section
inductive eh(vs:List V)(H:Hp)(Q:VK)(u_3:XK):Prop
 |mk:∀(l:Addr)(ns:List Str),vs=[.ref l]->Txs H l ns->ns.length<=20->(∀n∈ns,zIp n)->ns.Nodup->(∀H',Kp [] H H'->Q .non H')->eh vs H Q u_3
abbrev zD2:Stmt:=top 43
theorem zCv:dq ["names","thing","seen","name"] ["names"] (zAg zD2):=fnS
theorem zIj(F:Fun K "check_names" "check_names" zD2 f fd)(T:Txt K mg)(S:Cal P w K mg base "is_name" 1 ["thing"] gg):dw P w K mg base CX0 2 f fd ["names"] eh:=by
 refine F.ok zCv (λvs H Q E h=>?_) λae A outer s H vs Q E hr h=>?_
 .obtain ⟨l,ns,rfl,_⟩:=h;rfl
 .obtain ⟨l,ns,rfl,hl,hn,hN,hD,k⟩:=h;have O:=hr;have hu:=zF2 hr;obtain⟨tM,hM⟩:=T.c_MOST_JOBS
  refine⟨_,(zAc (zBk (zAr jh (zAi zAp rR T.z_len zBy$ zAa (pv 0) zAb) (zBs rF hM (v:=.int 20) ⟨_,rF⟩)$ zAv _) (zAe zAz) zAs) (zAc (zA7 qAc rF (zAq$ pv 0) (pgN (i:=1) zCv.nd)
    (zAe (zBk (zBm$ zBi$ zAh S O rF$ zAa (pv 1) zAb)
     (zAe zAz)
     zAs)))
   (zAc (psS (i:=2) zCv.nd zBv)
   (zAe (zA7 qAc rF (zAq$ pv 0) (pgN (i:=3) zCv.nd)
    (zAc (zBk (zEg$ zHp hu (pv 3)$ pv 2)
     (zAe zAz)
     zAs)$ zAe$ zD4 hu (pv 2) (pv 3) zEs rF)))))),?_⟩
  refine e_ ?_;intro _ _ _ _;refine⟨_,rF,_,_,rF,.inl$ SqL.of hl,_,_,rF,rF,_,rF,?_⟩;rw[qAZ$ by rw[qAD];lia];refine dC ?_;refine⟨_,rF,_,rF,⟨_,SqL.of hl⟩,zA3 (λi σ H2=>(∃W o2 o3:Option V,σ=[some (.ref l),W,o2,o3])/\Kp [] H H2) ⟨⟨_,_,_,rF⟩,Kp.refl⟩ (λi σ H2 _ ⟨_,k2⟩=>SqL.of$ k2 l _ hl ss) ?_ ?_⟩
  .rintro i v σ H2 hv ⟨⟨W,o2,o3,rfl⟩,k2⟩;obtain⟨n,en,rfl⟩:=zA9 hv;have nn:=hN n$ qAJ en;refine⟨_,rF,n,rF,by have:=nn.2.1;lia,λH3 k3=>?_⟩;rw[(oo n).mpr nn];exact⟨_,rF,dC ⟨⟨_,_,_,rF⟩,k2.trans k3⟩⟩
  .rintro σ H2 ⟨⟨W,o2,o3,rfl⟩,k2⟩;have ad:Txs H2 l ns:=k2 l _ hl ss;refine λd hd=>?_;have fd:Fre H2 d:=hd;have aa:Fre H d:=k2.fre fd ss;refine⟨_,rF,_,rF,⟨_,SqL.of$ (Kp.new (M:=[]) Kp.refl fd) l _ ad ss⟩,zA3 (λi σ H3=>(∃W o3:Option V,σ=[some (.ref l),W,some (.ref d),o3])/\Kp [] H H3/\H3 d=some (.dK$ dT1 (ns.take i) λ_=>.bl true)) ⟨⟨_,_,rF⟩,Kp.new k2 aa,ac⟩ (λi σ H3 _ ⟨_,k3,_⟩=>SqL.of$ k3 l _ hl ss) ?_ ?_⟩
   .rintro i v σ H3 hv ⟨⟨W,o3,rfl⟩,k3,h3⟩;refine fJ ?_;intro _ _;obtain⟨n,en,rfl⟩:=zA9 hv;have ni:=zE4 hD en;refine⟨_,rF,_,rF,_,_,rF,dL.k (k:=Sum.inr n) h3,_,rF,?_⟩;rw[zCh,qAB ni];refine dC ?_;refine⟨_,rF,_,rF,_,_,rF,fA.k (k:=Sum.inr n) h3 ?_,?_⟩
    .rw [qAD,qAU,qAK];lia
    .refine ⟨⟨_,_,rF⟩,Kp.new k3 aa,?_⟩;rw[ac,zD3 _ ni,zAk en];unfold dT1;rw[qAP];rfl
   .rintro σ H3 ⟨⟨W,o3,rfl⟩,k3,h3⟩;exact k H3 k3
end
theorem iI{qs:List (List Str×Addr)}{v:V}(h:(qs.map λq=>V.ref q.2)[i]?=some v):∃q,qs[i]?=some q/\v= .ref q.2:=by
 rw[qAY]at h;obtain⟨n,e,r⟩:=qBU.mp h;exact⟨n,e,r.symm⟩
theorem fF.kp{M:List Addr}{l:Addr}{qs:List (List Str×Addr)}(o:fF H l qs)(k:Kp M H H')(h1:l∉M)(h2:∀q∈qs,q.2∉M):fF H' l qs:=⟨k l _ o.top h1,λq O=>k _ _ (o.row q O)$ h2 q O,o.two⟩
section
inductive eC(vs:List V)(H:Hp)(Q:VK)(u_3:XK):Prop
 |mk:∀(l m:Addr)(ns:List Str) (qs:List (List Str×Addr)),vs=[.ref l,.ref m]->Txs H l ns->fF H m qs->(∀q∈qs,∀x∈q.1,x∈ns)->Q .non H->eC vs H Q u_3
abbrev zD1:Stmt:=top 44
theorem zDo:dq ["names","orders","order","part"] ["names","orders"] (zAg zD1):=fnS
theorem zIi(F:Fun K "check_parts" "check_parts" zD1 f fd)(T:Txt K mg)(S:Cal P w K mg base "check_job" 2 ["names","thing"] eE):dw P w K mg base CX0 3 f fd ["names","orders"] eC:=by
 refine F.ok zDo (λvs H Q E h=>?_) λaa A outer s H vs Q E hr h=>?_
 .obtain ⟨l,m,ns,qs,rfl,_⟩:=h;rfl
 .obtain ⟨l,m,ns,qs,rfl,hl,hm,hq,k⟩:=h;have O:=hr
  refine⟨_,(zAe (zA7 qAc rF (zAq$ pv 1) (pgN (i:=2) zDo.nd) (zAe (zA7 qAc rF (va$ pv 2) (pgN (i:=3) zDo.nd)$ zAe$ zA2$ zAh S O rF$ zAa (pv 0)$ zAa (pv 3) zAb)))),?_⟩
  refine⟨_,rF,_,rF,⟨_,SqL.of hm.top⟩,zA3 (λi σ H2=>(∃o2 W:Option V,σ=[some (.ref l),some (.ref m),o2,W])/\H2=H) ⟨⟨_,_,rF⟩,rF⟩ (λi σ H2 _ ⟨_,e⟩=>by subst e;exact SqL.of hm.top) ?_ ?_⟩
  .rintro i v σ H2 hv ⟨⟨o2,W,rfl⟩,rfl⟩;obtain⟨q,eq,rfl⟩:=iI hv;have mq:=qAJ eq;refine⟨_,rF,_,rF,⟨_,.inl$ .inl$ hm.row q mq⟩,sM (λj σ H3=>(∃W:Option V,σ=[some (.ref l),some (.ref m),some (.ref q.2),W])/\H3=H2) ⟨⟨_,rF⟩,rF⟩ (λj σ H3 _ ⟨_,e⟩=>by subst e;exact .inl$ .inl$ hm.row q mq) ?_ ?_⟩
   .rintro j v σ H3 hv ⟨⟨W,rfl⟩,rfl⟩;obtain⟨x,ex,rfl⟩:=zA9 hv;exact⟨_,rF,_,rF,x,l,ns,rF,hl,hq q mq x$ qAJ ex,⟨_,rF⟩,rF⟩
   .rintro σ H3 ⟨⟨W,rfl⟩,rfl⟩;exact⟨⟨_,_,rF⟩,rF⟩
  .rintro σ H2 ⟨⟨o2,W,rfl⟩,rfl⟩;exact k
end
def fst(q:List Str×Addr):Str:=q.1.getD 0 Str.empty
def snd(q:List Str×Addr):Str:=q.1.getD 1 Str.empty
def told(qs:List (List Str×Addr))(n:Str):List Str:=(qs.filter λq=>decide$ snd q=n).map fst
theorem oP(qs:List (List Str×Addr))(q:List Str×Addr)(n:Str):told (qs++[q]) n=if snd q=n then told qs n++[fst q]else told qs n:=by
 unfold told;rw[qBY]
 by_cases e:snd q=n
 .rw [qAC e];simp[e]
 .rw [qAB e];simp[e]
theorem jC(qs:List (List Str×Addr))(n:Str):(told qs n).length<=qs.length:=by
 unfold told;rw[qAD];exact qBe _ _
structure DL(H0 H:Hp)(d:Addr)(ns:List Str)(la:Str->Addr)(f:Str->List Str):Prop where
 top:H d=some (.dK$ dT1 ns λn=>.ref$ la n)
 row:∀n∈ns,Txs H (la n) (f n)
 ne:∀n∈ns,la n≠d
 inj:∀n∈ns,∀m∈ns,la n=la m->n=m
 fr:Fre H0 d
 frs:∀n∈ns,Fre H0 (la n)
theorem zH9{g g':Str->V}(h:∀n∈ns,g n=g' n):dT1 ns g=dT1 ns g':=List.map_congr_left λn O=>by rw[h n O]
section
inductive eJ(vs:List V)(H:Hp)(Q:VK)(u_3:XK):Prop
 |mk:∀(l m:Addr)(ns:List Str) (qs:List (List Str×Addr)),vs=[.ref l,.ref m]->Txs H l ns->fF H m qs->ns.Nodup->ns.length<=20->qs.length<=4096->(∀q∈qs,∀x∈q.1,x∈ns)->(∀d la H',DL H H' d ns la (told qs)->Kp [] H H'->Q (.ref d) H')->eJ vs H Q u_3
abbrev zEo:Stmt:=top 46
theorem zCj:dq ["names","orders","told","name","one","other"] ["names","orders"] (zAg zEo):=fnS
theorem zJk(F:Fun K "told_ahead" "told_ahead" zEo f fd):dw P w K mg base CX0 1 f fd ["names","orders"] eJ:=by
 refine F.ok zCj (λvs H Q E h=>?_) λak A outer s H vs Q E hr h=>?_
 .obtain ⟨l,m,ns,qs,rfl,_⟩:=h;rfl
 .obtain ⟨l,m,ns,qs,rfl,hl,hm,hN,hn,hz,hq,k⟩:=h;have hu:=zF2 hr
  refine⟨_,(zAc (psS (i:=2) zCj.nd zBv) (zAc (zA7 qAc rF (zAq$ pv 0) (pgN (i:=3) zCj.nd)$ zAe$ zD4 hu (pv 2) (pv 3) (zAj zAb) rF)
   (zAc (zA7 qAc rF (zAq$ pv 1) (zIv rF$ zBf (pgN (i:=4) zCj.nd)$ zBf (pgN (i:=5) zCj.nd) zD5)$ zAe$ zA2$ zD6 qAx qBz qB0 zCb (zB8 hu (pv 2) (pv 5) λ_ _=>rfl)$ zAa (pv 4) zAb)$ zAe$ zAw$ pv 2))),?_⟩
  refine e_ ?_;intro _ _ _ _;refine λd hd=>?_;have fd:Fre H d:=hd
  refine⟨_,rF,_,rF,⟨_,SqL.of$ (Kp.new (M:=[]) Kp.refl fd) l _ hl ss⟩,zA3 (λi σ H2=>(∃o3 o4 o5:Option V,σ=[some (.ref l),some (.ref m),some (.ref d),o3,o4,o5])/\Kp [] H H2/\∃S,DL H H2 d (ns.take i) S λ_=>[]) ⟨⟨_,_,_,rF⟩,Kp.new Kp.refl fd,λ_=>0,ac,(λn h=>nomatch h),(λn h=>nomatch h),(λn h=>nomatch h),fd,(λn h=>nomatch h)⟩ (λi σ H2 _ ⟨_,k2,_⟩=>SqL.of$ k2 l _ hl ss) ?_ ?_⟩
  .rintro i v σ H2 hv ⟨⟨o3,o4,o5,rfl⟩,k2,S,D⟩;obtain⟨n,en,rfl⟩:=zA9 hv;have ni:=zE4 hN en;refine⟨(by walk_at"ln"),λb hb=>?_⟩;have fb:Fre H2 b:=hb;have ad:d≠b:=b_ fb D.top;have ag:Fre H b:=k2.fre fb ss;refine⟨_,rF,_,rF,_,_,rF,fA.k (k:=Sum.inr n) ((a_ ad).trans D.top) ?_,?_⟩
   .rw [qAD,qAU,qAK];lia
   .have ae:∀x∈ns.take i,S x≠b:=λx O=>b_ fb$ D.row x O;refine⟨⟨_,_,_,rF⟩,Kp.new (Kp.new k2 ag) fd,λx=>if x=n then b else S x,?_,λx O=>?_,λx O=>?_,λx O y hy e=>?_,fd,λx O=>?_⟩
    .rw [ac,zD3 _ ni,zAk en];have:dT1 (ns.take i) (λn=>V.ref$ S n)=dT1 (ns.take i) (λx=>V.ref$ if x=n then b else S x):=zH9 λx O=>by rw[qAB λ(z:x=n)=>ni$ z▸O]
     rw[this];unfold dT1;rw[qAP];simp
    .rw [zAk en]at O
     by_cases z:x=n
     .rw [qAC z];exact(a_ ad.symm).trans ac
     .rw [qAB z]
      have af:x∈ns.take i:=by
       rcases qAR.mp O with y|y
       .exact y
       .exact absurd (qAO.mp y) z
      exact(a_$ D.ne x af).trans$ (a_$ ae x af).trans$ D.row x af
    .rw [zAk en]at O
     by_cases z:x=n
     .rw [qAC z];exact ad.symm
     .rw [qAB z];rcases qAR.mp O with y|y
      .exact D.ne x y
      .exact absurd (qAO.mp y) z
    .rw [zAk en]at O hy
     have W:∀x,x∈ns.take i++[n]->x≠n->x∈ns.take i:=λx O z=>by
      rcases qAR.mp O with y|y
      .exact y
      .exact absurd (qAO.mp y) z
     by_cases z:x=n
     .by_cases z':y=n
      .rw [z,z']
      .rw [qAC z,qAB z']at e;exact absurd e.symm$ ae y$ W y hy z'
     .by_cases z':y=n
      .rw [qAB z,qAC z']at e;exact absurd e$ ae x$ W x O z
      .rw [qAB z,qAB z']at e;exact D.inj x (W x O z) y (W y hy z') e
    .rw [zAk en]at O
     by_cases z:x=n
     .rw [qAC z];exact ag
     .rw [qAB z];rcases qAR.mp O with y|y
      .exact D.frs x y
      .exact absurd (qAO.mp y) z
  .rintro σ H2 ⟨⟨o3,o4,o5,rfl⟩,k2,S,D⟩;have eN:ns.take (ns.map V.str).length=ns:=by rw[qAD,qAg]
   rw[eN]at D
   refine⟨_,rF,_,rF,⟨_,SqL.of$ k2 m _ hm.top ss⟩,zA3 (λi σ H3=>(∃o3 o4 o5:Option V,σ=[some (.ref l),some (.ref m),some (.ref d),o3,o4,o5])/\Kp [] H H3/\DL H H3 d ns S (told$ qs.take i)) ⟨⟨_,_,_,rF⟩,k2,D⟩ (λi σ H3 _ ⟨_,k3,_⟩=>SqL.of$ k3 m _ hm.top ss) ?_ ?_⟩
   .rintro i v σ H3 hv ⟨⟨o3,o4,o5,rfl⟩,k3,D⟩;obtain⟨q,eq,rfl⟩:=iI hv;have mq:=qAJ eq;obtain⟨a,b,aa⟩:=hm.two q mq
    have ah:H3 q.2=some (.tup [.str a,.str b]):=by
     have:=k3 q.2 _ (hm.row q mq) ss;rw[aa]at this;exact this
    have hb:b∈ns:=hq q mq b (by rw[aa];simp);have ai:snd q=b:=by unfold snd;rw[aa];rfl
    have aj:fst q=a:=by unfold fst;rw[aa];rfl
    refine⟨_,_,rF,.inl$ .inl ah,rF,_,_,rF,_,_,rF,rF,?_⟩;refine⟨_,rF,_,rF,_,.ref$ S b,rF,?_,.inl ⟨rF,_,SqL.of$ D.row b hb⟩,_,rF,_,_,_,rF,rF,D.row b hb,?_,?_⟩
    .have:=dL.k (k:=Sum.inr b) D.top;rw[zCh,qAC hb]at this;exact this
    .have:=jC (qs.take i) b;rw[qAU]at this;rw[qAD,qAK];lia
    .refine ⟨⟨_,_,_,rF⟩,Kp.new k3$ D.frs b hb,?_⟩;rw[zAk eq];refine⟨(a_ (D.ne b hb).symm).trans D.top,λx O=>?_,D.ne,D.inj,D.fr,D.frs⟩;show upd H3 (S b) _ (S x)=some (.lst$ (told (qs.take i++[q]) x).map V.str);rw[oP,ai,aj]
     by_cases z:b=x
     .subst z;rw[qAC rF,ac,qAP];rfl
     .rw [qAB z,a_ λy=>z$ D.inj b hb x O y.symm];exact D.row x O
   .rintro σ H3 ⟨⟨o3,o4,o5,rfl⟩,k3,D⟩;have eQ:qs.take (qs.map λq=>V.ref q.2).length=qs:=by rw[qAD,qAg]
    rw[eQ]at D;exact⟨_,rF,k d S H3 D k3⟩
end
def dY(A:List Str)(x:Str):List Str:=if x∈A then A else A++[x]
theorem jg{A:List Str}{x:Str}:y∈dY A x↔y∈A\/y=x:=by
 unfold dY
 by_cases h:x∈A
 .rw [qAC h];exact⟨.inl,λz=>z.elim id λe=>e▸h⟩
 .rw [qAB h];simp
theorem zIw{A:List Str}{x:Str}(h:A.Nodup):(dY A x).Nodup:=by
 unfold dY
 by_cases hx:x∈A
 .rw [qAC hx];exact h
 .rw [qAB hx];refine qBX.mpr ⟨h,ss,λa O b S=>?_⟩;rw[qAO.mp S];rintro rfl;exact hx O
theorem gC :∀(B A:List Str),y∈B.foldl dY A↔y∈A\/y∈B
 |[],A=>ss
 |b::B,A=>by
  rw[qBr,gC B$ dY A b,jg,qAT,or_assoc]
theorem zHt:∀(B A:List Str),A.Nodup->(B.foldl dY A).Nodup
 |[],A,h=>h
 |b::B,A,h=>zHt B _ (zIw h)
def zCq(S:Str->List Str)(O:List Str):List Str:=O.foldl (λA m=>(S m).foldl dY$ dY A m) []
theorem kU(S:Str->List Str)(O:List Str)(m:Str):zCq S (O++[m])=(S m).foldl dY (dY (zCq S O) m):=by unfold zCq;rw[List.foldl_append];rfl
theorem zIx{S:Str->List Str} :∀(O A:List Str),y∈O.foldl (λA m=>(S m).foldl dY$ dY A m) A↔y∈A\/y∈O\/∃m∈O,y∈S m
 |[],A=>ss
 |m::O,A=>by
  rw[qBr,zIx O,gC,jg];constructor
  .rintro (((h|h)|h)|h|⟨q,h1,h2⟩)
   .exact .inl h
   .exact .inr$ .inl$ h▸qAf
   .exact .inr$ .inr ⟨m,qAf,h⟩
   .exact .inr$ .inl$ qAX _ h
   .exact .inr$ .inr ⟨q,qAX _ h1,h2⟩
  .rintro (h|h|⟨q,h1,h2⟩)
   .exact .inl$ .inl$ .inl h
   .rcases qAT.mp h with e|e
    .exact .inl$ .inl$ .inr e
    .exact .inr$ .inl e
   .rcases qAT.mp h1 with e|e
    .exact .inl$ .inr$ e▸h2
    .exact .inr$ .inr ⟨q,e,h2⟩
theorem zHw{S:Str->List Str}{O:List Str} :y∈zCq S O↔y∈O\/∃m∈O,y∈S m:=by
 unfold zCq;rw[zIx];simp
theorem zGs{S:Str->List Str}:∀(O A:List Str),A.Nodup->(O.foldl (λA m=>(S m).foldl dY$ dY A m) A).Nodup
 |[],A,h=>h
 |m::O,A,h=>zGs O _ (zHt _ _$ zIw h)
theorem zHs(S:Str->List Str)(O:List Str):(zCq S O).Nodup:=zGs O [] qBC
theorem zB3:∀{A B:List Str},A.Nodup->(∀x∈A,x∈B)->A.length<=B.length
 |[],B,_,_=>qAi _
 |a::A,B,h,hs=>by
  obtain⟨h1,h2⟩:=qBI.mp h;have O:=hs a qAf;have:=zB3 (B:=B.erase a) h2 λx S=>(List.mem_erase_of_ne λe=>h1$ by rw[<-e];exact S).mpr$ hs x$ qAX _ S;rw[List.length_erase_of_mem O]at this;have:=List.length_pos_of_mem O;rw[qAa];lia
abbrev dO(H:Hp)(e:Addr)(A:List Str):Prop:=H e=some (.dK$ dT1 A λ_=>.bl true)
theorem nj(A:List Str)(x:Str):dZ (dT1 A λ_=>.bl true) (.inr x) (.bl true)=dT1 (dY A x) λ_=>.bl true:=by
 unfold dY
 by_cases h:x∈A
 .rw [qAC h];unfold dZ;rw[zG0,zCh,qAC h];refine(qAC rR).trans ?_;unfold dT1;rw[qBO];refine List.map_congr_left λy _=>?_;show(if(Sum.inr y:Key)=Sum.inr x then((Sum.inr y:Key),V.bl true)else(Sum.inr y,V.bl true))=_;split<;>rfl
 .rw [qAB h,zD3 _ h];unfold dT1;rw[qAP];rfl
theorem lX:∀(B A:List Str),mrg (dT1 A λ_=>.bl true) (dT1 B λ_=>.bl true)=dT1 (B.foldl dY A) λ_=>.bl true
 |[],A=>rfl
 |b::B,A=>by
  show mrg (dZ (dT1 A λ_=>.bl true) (.inr b)$ .bl true) (dT1 B λ_=>.bl true)=_;rw[nj,lX B];rfl
section
inductive fN(vs:List V)(H:Hp)(Q:VK)(u_3:XK):Prop
 |mk:∀(d l:Addr) (kvs:List (Key×V)) (ms:List Str),vs=[.ref d,.ref l]->H d=some (.dK kvs)->Txs H l ms->ms.length<=4096->(∀H',Kp [] H H'->Q (.bl$ ms.all λm=>(dX kvs$ .inr m).isSome) H')->fN vs H Q u_3
abbrev zFq:Stmt:=top 47
theorem lm:dq ["done","names"] ["done","names"] (zAg zFq):=fnS
theorem lF(F:Fun K "has_all" "has_all" zFq f fd)(T:Txt K mg):dw P w K mg base CX0 1 f fd ["done","names"] fN:=by
 refine F.ok lm (λvs H Q E h=>?_) λaa A outer s H vs Q E hr h=>?_
 .obtain ⟨d,l,S,O,rfl,_⟩:=h;rfl
 .obtain ⟨d,l,S,O,rfl,hd,hl,hz,k⟩:=h;have hu:=zF2 hr;refine⟨_,(zAe$ zAw$ zAi (zE6 _ rF) rR T.z_all zI3$ zAa (zBn rF (zBp (sc:=zAg zFq) rF kK) (du.own (x:="name")$ dtk (i:=0) rF du.nil) (zAq$ pv 1) (λ_ _ _ _=>(pgB (i:=0))) (λ_ _ _ _=>zCm) λ_ _ _ _=>(rD$ zHp hu (pv 0)$ pv 1)) zAb),?_⟩;refine⟨_,rF,_,rF,⟨_,SqL.of hl⟩,λD hD=>zBc (O.map V.str) (λi ys W H'=>(∃o0,W=[o0,some (.ref d)])/\ys=((O.take i).map λm=>V.bl (dX S$ .inr m).isSome)/\H'=upd H D (.lst ys)) ⟨⟨_,rF⟩,rF,rF⟩ (λi ys W H' ⟨_,_,e⟩=>by subst e;exact SqL.of$ (a_$ b_ (show Fre H D from hD) hl).trans hl) ?_ ?_⟩
  .rintro i v ys W H' hv ⟨⟨o0,rfl⟩,rfl,rfl⟩;obtain⟨m,em,rfl⟩:=zA9 hv;refine⟨_,rF,_,rF,_,_,rF,dL.k (k:=Sum.inr m)$ (a_$ b_ (show Fre H D from hD) hd).trans hd,ac,?_,⟨_,rF⟩,?_,zB7⟩
   .rw [qAD,qAU,qAK];lia
   .rw [zAk em,qAP];rfl
  .rintro ys W H' ⟨_,rfl,rfl⟩;have eM:O.take (O.map V.str).length=O:=by rw[qAD,qAg]
   refine⟨D,O.map λm=>(dX S$ .inr m).isSome,rF,SqL.of ?_,?_⟩
   .rw [ac,eM,qBO];rfl
   .rw [qCg];exact k _$ Kp.new Kp.refl hD
inductive fX(vs:List V)(H:Hp)(Q:VK)(u_3:XK):Prop
 |mk:∀(l d:Addr)(ms D0 ns:List Str)(fa:Str->Addr)(S:Str->List Str),vs=[.ref l,.ref d]->Txs H l ms->H d=some (.dK$ dT1 D0 λn=>.ref$ fa n)->(∀m∈ms,m∈D0/\m∈ns/\dO H (fa m) (S m)/\∀x∈S m,x∈ns)->ns.length<=20->(∀m∈ms,(S m).length<=20)->(∀e H',Fre H e->dO H' e (zCq S ms)->Kp [] H H'->Q (.ref e) H')->fX vs H Q u_3
abbrev zJd:Stmt:=top 49
theorem zHi:dq ["near","far","found","name"] ["near","far"] (zAg zJd):=fnS
theorem oi(F:Fun K "joined" "joined" zJd f fd):dw P w K mg base CX0 1 f fd ["near","far"] fX:=by
 refine F.ok zHi (λvs H Q E h=>?_) λaf A outer s H vs Q E hr h=>?_
 .obtain ⟨l,d,O,D0,ns,fa,S,rfl,_⟩:=h;rfl
 .obtain ⟨l,d,O,D0,ns,fa,S,rfl,hl,hd,hm,hn,hS,k⟩:=h;have hu:=zF2 hr
  refine⟨_,(zAc (psS (i:=2) zHi.nd zBv) (zAc (zA7 qAc rF (zAq$ pv 0) (pgN (i:=3) zHi.nd)
    (zAc (zD4 hu (pv 2) (pv 3) zEs rF)$ zAe$ zA2$ zD6 PySem.F.plainAttrs_dict PySem.F.slot_dict_update PySem.F.type_dict_update sx (pv 2)$ zAa (zB8 hu (pv 1) (pv 3) λ_ _=>rfl) zAb))$ zAe$ zAw$ pv 2)),?_⟩
  refine gv ?_;intro _ _ _;refine λe he=>?_;have W:Fre H e:=he
  have aa:∀i x,x∈zCq S (O.take i)->x∈ns:=λi x hx=>by
   rcases zHw.mp hx with z|⟨m,z,z'⟩
   .exact (hm x$ qBj z).2.1
   .exact (hm m$ qBj z).2.2.2 x z'
  have ad:∀i,(zCq S$ O.take i).length<=20:=λi=>qAW (zB3 (zHs S _)$ aa i) hn
  refine⟨_,rF,_,rF,⟨_,SqL.of$ (Kp.new (M:=[]) Kp.refl W) l _ hl ss⟩,zA3 (λi σ H2=>(∃o3:Option V,σ=[some (.ref l),some (.ref d),some (.ref e),o3])/\Kp [] H H2/\dO H2 e (zCq S$ O.take i)) ⟨⟨_,rF⟩,Kp.new Kp.refl W,ac⟩ (λi σ H2 _ ⟨_,k2,_⟩=>SqL.of$ k2 l _ hl ss) ?_ ?_⟩
  .rintro i v σ H2 hv ⟨⟨o3,rfl⟩,k2,h2⟩;refine fJ ?_;intro _ _;obtain⟨m,em,rfl⟩:=zA9 hv;obtain⟨m1,m2,m3,m4⟩:=hm m$ qAJ em;have l2:=ad i;refine⟨_,rF,_,rF,_,_,rF,fA.k (k:=Sum.inr m) h2 (by rw[qAD,qAK];lia),?_⟩;rw[nj];have k3:Kp [] H (upd H2 e$ .dK$ dT1 (dY (zCq S$ O.take i) m) λ_=>.bl true):=Kp.new k2 W;have ae:fa m≠e:=b_ W m3;refine⟨_,rF,.inr$ .inr$ .inl ⟨rF,.inl ⟨_,ac⟩⟩,_,rF,_,rF,_,.ref$ fa m,rF,?_,_,fa m,_,_,rF,rF,ac,k3 _ _ m3 ss,ae.symm,?_,?_⟩
   .have:=dL.k (k:=Sum.inr m)$ k3 d _ hd ss;rw[zCh,qAC m1]at this;exact this
   .have:=hS m$ qAJ em;rw[qAD,qAD,qAK]
    have:(dY (zCq S$ O.take i) m).length<=(zCq S$ O.take i).length+1:=by
     unfold dY;split
     .lia
     .rw [qAN];exact qAG _
    lia
   .rw [lX];refine⟨⟨_,rF⟩,Kp.new k3 W,?_⟩;rw[zAk em,kU];exact ac
  .rintro σ H2 ⟨⟨o3,rfl⟩,k2,h2⟩;have eM:O.take (O.map V.str).length=O:=by rw[qAD,qAg]
   rw[eM]at h2;exact⟨_,rF,k e H2 W h2 k2⟩
end
structure Fp(H0 H:Hp)(e:Addr)(ns D:List Str)(fa:Str->Addr)(S f:Str->List Str):Prop where
 top:H e=some (.dK$ dT1 D λn=>.ref$ fa n)
 nd:D.Nodup
 sub:∀n∈D,n∈ns
 row:∀n∈D,dO H (fa n) (S n)
 snd:∀n∈D,(S n).Nodup
 sns:∀n∈D,∀x∈S n,x∈ns
 mem:∀n∈D,∀x,x∈S n↔x∈f n\/∃m∈f n,x∈S m
 cl:∀n∈D,∀x∈f n,x∈D
 ne:∀n∈D,fa n≠e
 fr:Fre H0 e
 frs:∀n∈D,Fre H0 (fa n)
theorem Fp.kp{H0:Hp}{e:Addr}{D:List Str}{O:Str->Addr}{S f:Str->List Str}(F:Fp H0 H e ns D O S f)(k:Kp [] H H'):Fp H0 H' e ns D O S f :=
 ⟨k e _ F.top ss,F.nd,F.sub,λn V=>k _ _ (F.row n V) ss,F.snd,F.sns,F.mem,F.cl,F.ne,F.fr,F.frs⟩
theorem Fp.more{H0:Hp}{e b:Addr}{D:List Str}{fa:Str->Addr}{S f:Str->List Str}{n:Str}(F:Fp H0 H e ns D fa S f)(hn:n∈ns)(hD:n∉D)(hf:∀x∈f n,x∈D)(hs:∀x∈f n,x∈ns)(hb:dO H b (zCq S$ f n))(nb:b≠e)(fb:Fre H0 b) :
  Fp H0 (upd H e$ .dK$ dZ (dT1 D λn=>.ref$ fa n) (.inr n)$ .ref b) e ns (D++[n]) (λx=>if x=n then b else fa x) (λx=>if x=n then zCq S (f n)else S x) f:=by
 have hx:∀x∈D,¬x=n:=λx h z=>hD$ z▸h
 have cs:∀x,x∈D++[n]->x∈D\/x=n:=λx h=>by
  rcases qAR.mp h with z|z
  .exact .inl z
  .exact .inr$ qAO.mp z
 have O:∀{x},x∈D->(if x=n then zCq S (f n)else S x)=S x:=λ{x} h=>qAB$ hx x h;have aa:(if n=n then zCq S (f n)else S n)=zCq S (f n):=qAC rF;refine⟨?_,?_,λx h=>?_,λx h=>?_,λx h=>?_,λx h y hy=>?_,λx h y=>?_,λx h y hy=>?_,λx h=>?_,F.fr,λx h=>?_⟩
 .rw [ac,zD3 _ hD];have:dT1 D (λn=>V.ref$ fa n)=dT1 D (λx=>V.ref$ if x=n then b else fa x):=zH9 λx h=>by rw[qAB$ hx x h]
  rw[this];unfold dT1;rw[qAP];simp
 .refine qBX.mpr ⟨F.nd,ss,λa ha c hc=>?_⟩;rw[qAO.mp hc];exact hx a ha
 .rcases cs x h with z|z
  .exact F.sub x z
  .rw [z];exact hn
 .rcases cs x h with z|z
  .show upd H e _ (if x=n then b else fa x)=some (.dK$ dT1 (if x=n then zCq S (f n)else S x) λ_=>.bl true);rw[qAB$ hx x z,qAB$ hx x z,a_$ F.ne x z];exact F.row x z
  .subst z;show upd H e _ (if x=x then b else fa x)=some (.dK$ dT1 (if x=x then zCq S (f x)else S x) λ_=>.bl true);rw[qAC rF,qAC rF,a_ nb];exact hb
 .rcases cs x h with z|z
  .show (if x=n then zCq S (f n)else S x).Nodup;rw[O z];exact F.snd x z
  .subst z;show(if x=x then zCq S (f x)else S x).Nodup;rw[qAC rF];exact zHs _ _
 .rcases cs x h with z|z
  .have hy:y∈(if x=n then zCq S (f n)else S x):=hy;rw[O z]at hy;exact F.sns x z y hy
  .subst z;have hy:y∈(if x=x then zCq S (f x)else S x):=hy;rw[qAC rF]at hy;rcases zHw.mp hy with q|⟨m,W,q2⟩
   .exact hs y q
   .exact F.sns m (hf m W) y q2
 .rcases cs x h with z|z
  .show y∈(if x=n then zCq S (f n)else S x)↔y∈f x\/∃m∈f x,y∈(if m=n then zCq S (f n)else S m);rw[O z,F.mem x z y];constructor
   .rintro (q|⟨m,W,q2⟩)
    .exact .inl q
    .exact .inr ⟨m,W,by rw[O$ F.cl x z m W];exact q2⟩
   .rintro (q|⟨m,W,q2⟩)
    .exact .inl q
    .rw [O$ F.cl x z m W]at q2;exact .inr ⟨m,W,q2⟩
  .subst z;show y∈(if x=x then zCq S (f x)else S x)↔y∈f x\/∃m∈f x,y∈(if m=x then zCq S (f x)else S m);rw[qAC rF,zHw];constructor
   .rintro (q|⟨m,W,q2⟩)
    .exact .inl q
    .exact .inr ⟨m,W,by rw[O$ hf m W];exact q2⟩
   .rintro (q|⟨m,W,q2⟩)
    .exact .inl q
    .rw [O$ hf m W]at q2;exact .inr ⟨m,W,q2⟩
 .rcases cs x h with z|z
  .exact qAp _$ F.cl x z y hy
  .subst z;exact qAp _$ hf y hy
 .rcases cs x h with z|z
  .show (if x=n then b else fa x)≠e;rw[qAB$ hx x z];exact F.ne x z
  .subst z;show(if x=x then b else fa x)≠e;rw[qAC rF];exact nb
 .rcases cs x h with z|z
  .show Fre H0 (if x=n then b else fa x);rw[qAB$ hx x z];exact F.frs x z
  .subst z;show Fre H0 (if x=x then b else fa x);rw[qAC rF];exact fb
theorem gJ(r:Str->Nat):∀(L:List Str),L≠[]->∃n∈L,∀m∈L,r n<=r m
 |[],h=>absurd rF h
 |[x],_=>⟨x,ss,λm hm=>by rw[qAO.mp hm];exact qAG _⟩
 |x::y::L,_=>by
  obtain⟨n,O,h⟩:=gJ r (y::L) ss
  by_cases c:r x<=r n
  .refine ⟨x,qAf,λm hm=>?_⟩;rcases qAT.mp hm with z|z
   .rw [z];exact qAG _
   .exact qAW c$ h m z
  .refine ⟨n,qAX _ O,λm hm=>?_⟩;rcases qAT.mp hm with z|z
   .rw [z];lia
   .exact h m z
theorem gY{p:α->Bool}{x:α}:∀{L:List α},x∈L->p x=false->(L.filter p).length<L.length
 |a::L,h,O=>by
  rcases qAT.mp h with z|z
  .subst z;rw[qBF,qAB (by rw[O];decide),qAa];exact Nat.lt_succ_of_le$ qBe _ _
  .have:=gY z O;rw[qBF,qAa];split
   .rw [qAa];lia
   .lia
theorem zJv(D:List Str)(g:Str->V)(x:Str):(dX (dT1 D g)$ .inr x).isSome=decide (x∈D):=by
 rw[zCh]
 by_cases h:x∈D
 .rw [qAC h,qAV h];rfl
 .rw [qAB h,qAZ h];rfl
section
inductive eU(vs:List V)(H:Hp)(Q:VK)(u_3:XK):Prop
 |mk:∀(l d:Addr)(ns:List Str)(la:Str->Addr)(f:Str->List Str)(r:Str->Nat),vs=[.ref l,.ref d]->Txs H l ns->ns.Nodup->ns.length<=20->H d=some (.dK$ dT1 ns λn=>.ref$ la n)->(∀n∈ns,Txs H (la n) (f n)/\(f n).length<=4096/\∀x∈f n,x∈ns/\r x<r n)->(∀e D fa S H',Fp H H' e ns D fa S f->(∀n∈ns,n∈D)->Kp [] H H'->Q (.ref e) H')->eU vs H Q u_3
abbrev zC8:Stmt:=top 48
theorem zCf:dq ["names","told","far","left","free","name"] ["names","told"] (zAg zC8):=fnS
def pY(σ:St)(H:Hp):Nat:=match (σ[3]?:Option (Option V))with
 |some (some$ .ref a)=>match H a with
  |some (.lst xs)=>xs.length
  |_=>0
 |_=>0
theorem iD(F:Fun K "all_ahead" "all_ahead" zC8 f fd)(T:Txt K mg)(ae:Cal P w K mg base "has_all" 1 ["done","names"] fN)(ag:Cal P w K mg base "joined" 1 ["near","far"] fX):dw P w K mg base CX0 2 f fd ["names","told"] eU:=by
 refine F.ok zCf (λvs H Q E h=>?_) λaA A outer s H vs Q E hr h=>?_
 .obtain ⟨l,d,ns,la,f,r,rfl,_⟩:=h;rfl
 .obtain ⟨l,d,ns,la,f,r,rfl,hl,hN,hn,hd,hf,k⟩:=h;have hu:=zF2 hr;have aa:=hr;have af:=hr
  refine⟨_,(zAc (psS (i:=2) zCf.nd zBv) (zAc (psS (i:=3) zCf.nd$ zA8 zBu rR T.z_list zCe$ zAa (pv 0) zAb)
   (zAc (zJf qAc (zG6 (pv 3) fun _=>rfl)
    (zAc (zGi (i:=4) rF (zBp (sc:=zAg zC8) rF kK) (du.own (x:= "name")$ dtk (i:=2) rF$ dtk (i:=1) rF du.nil) (zAq$ pv 3) (fun _ _ _ _=>(pgB (i:=0))) (fun _ _ _ _=>(zCl$ zBi$ zAh ae aa rF$ zAa (pv 1)$ zAa (zB8 hu (pv 2) (pv 0) fun _ _=>rfl) zAb)) (fun _ _ _ _=>(pv 0)) zCf.nd rF rF)
    (zAc (zBk (zBm$ zG6 (pv 4) fun _=>rfl)
     (zAe zAz)
     zAs)
    (zAc (zA7 qAc rF (zAq$ pv 4) (pgN (i:=5) zCf.nd)$ zAe$ zD4 hu (pv 2) (pv 5) (zAh ag af rF$ zAa (zB8 hu (pv 1) (pv 5) λ_ _=>rfl)$ zAa (pv 2) zAb) rF)$ zAe$ zGi (i:=3) rF (zBp (sc:=zAg zC8) rF kK) (du.own (x:="name")$ dtk (i:=2) rF du.nil) (zAq$ pv 3) (λ_ _ _ _=>(pgB (i:=0))) (λ_ _ _ _=>(zCl$ zEg$ zDa hu (pv 0)$ pv 1)) (λ_ _ _ _=>(pv 0)) zCf.nd rF rF))))$ zAe$ zAw$ pv 2))),?_⟩
  refine e_ ?_;intro _ _ _ _;refine λe he=>?_;have fe:Fre H e:=he;refine⟨_,rF,_,_,rF,.inl$ SqL.of$ (Kp.new (M:=[]) Kp.refl fe) l _ hl ss,λlf ad=>?_⟩;have k0:Kp [] H (upd H e$ .dK []):=Kp.new Kp.refl fe;have ap:Fre H lf:=k0.fre ad ss;have aq:e≠lf:=b_ (show Fre (upd H e$ .dK []) lf from ad) ac;show ie (λσ H Q=>fj 3 σ H λx H'=>∃k,uR K x H' k/\Q k H') _ _ _ _
  refine jc (λσ H2=>∃(lf:Addr)(D:List Str)(fa:Str->Addr)(S:Str->List Str)(o4 o5:Option V),σ=[some (.ref l),some (.ref d),some (.ref e),some (.ref lf),o4,o5]/\Kp [] H H2/\Fp H H2 e ns D fa S f/\Txs H2 lf (ns.filter λn=>decide$ n∉D)) pY
   ⟨lf,[],λ_=>0,λ_=>[],none,none,rF,Kp.new k0 ap,⟨(a_ aq).trans ac,qBC,(λn h=>nomatch h),(λn h=>nomatch h),(λn h=>nomatch h),(λn h=>nomatch h),(λn h=>nomatch h),(λn h=>nomatch h),(λn h=>nomatch h),fe,(λn h=>nomatch h)⟩,by
    have ef:(ns.filter λn=>decide$ n∉([]:List Str))=ns:=ss
    show upd _ lf _ lf=some (.lst$ (ns.filter λn=>decide$ n∉([]:List Str)).map V.str);rw[ef];exact ac⟩ ?_ (λσ H Q Q' hq hc=>by
    obtain⟨x,e,b,t,q⟩:=hc;exact⟨x,e,b,t,hq _ _ q⟩)
  rintro σ H2 ⟨lf,D,fa,S,o4,o5,rfl,k2,FP,ad⟩;refine⟨_,rF,_,.inl ⟨_,SqL.of ad,rF⟩,?_⟩;have ah:∀n,n∈(ns.filter λn=>decide$ n∉D)↔n∈ns/\n∉D:=λn=>by simp[qBZ]
  have ar:(ns.filter λn=>decide$ n∉D).length<=20:=qAW (qBe _ _) hn;generalize hL:(ns.filter λn=>decide$ n∉D)=L at *
  refine dE (λc=>?_) λc=>?_
  .have cL:L≠[]:=λz=>by rw[z]at c;simp at c
   refine⟨_,rF,_,rF,⟨_,SqL.of ad⟩,λB hB=>zBt (L.map V.str) (λi ys τ H3=>(∃o0,τ=[o0,some (.ref e),some (.ref d)])/\ys=((L.take i).filter λn=>(f n).all λm=>decide$ m∈D).map V.str/\Kp [] H2 H3/\H3 B=some (.lst ys)) ⟨⟨_,rF⟩,rF,Kp.new Kp.refl hB,ac⟩ (λi ys τ H3 ⟨_,_,k3,_⟩=>SqL.of$ k3 lf _ ad ss) ?_ ?_⟩
   .rintro i v ys τ H3 hv ⟨⟨o0,rfl⟩,rfl,k3,h3⟩;obtain⟨n,en,rfl⟩:=zA9 hv;have mn:=(ah n).mp$ qAJ en;obtain⟨n1,n2,n3⟩:=hf n mn.1;have ai:=k2.trans k3;refine⟨_,rF,_,rF,_,rF,_,.ref$ la n,rF,?_,e,la n,_,f n,rF,k3 e _ FP.top ss,ai _ _ n1 ss,n2,λH4 k4=>?_⟩
    .have:=dL.k (k:=Sum.inr n)$ ai d _ hd ss;rw[zCh,qAC mn.1]at this;exact this
    have am:((f n).all λm=>(dX (dT1 D λn=>V.ref$ fa n)$ .inr m).isSome)=(f n).all λm=>decide$ m∈D:=by
     congr 1;funext m;exact zJv D _ m
    rw[am];have h4:=k4 B _ h3 ss;have et:=zAk en;refine⟨_,rF,dE (λc=>?_) λc=>?_⟩
    .refine ⟨_,rF,h4,?_,⟨_,rF⟩,?_,Kp.new (k3.trans k4) hB,ac⟩
     .rw [qAD,qAK];have h1:=qBe (λn=>(f n).all λm=>decide$ m∈D)$ L.take i;rw[qAU]at h1;lia
     .rw [et,qBY,qAP];have:[n].filter (λn=>(f n).all λm=>decide$ m∈D)=[n]:=by rw[qBF,qAC c];rfl
      rw[this];rfl
    .refine ⟨⟨_,rF⟩,?_,k3.trans k4,?_⟩
     .rw [et,qBY];have:[n].filter (λn=>(f n).all λm=>decide$ m∈D)=[]:=by rw[qBF,qAB c];rfl
      rw[this,qAm]
     .exact h4
   .rintro ys τ H3 ⟨_,rfl,k3,h3⟩;have eT:L.take (L.map V.str).length=L:=by rw[qAD,qAg]
    rw[eT]at h3;have aj:∀n,n∈(L.filter λn=>(f n).all λm=>decide$ m∈D)↔n∈L/\∀m∈f n,m∈D:=λn=>by simp[qBZ]
    have aB:(L.filter λn=>(f n).all λm=>decide$ m∈D).length<=20:=qAW (qBe _ _) ar
    have au:(L.filter λn=>(f n).all λm=>decide$ m∈D).Nodup:=by
     have:L.Nodup:=by rw[<-hL];exact hN.sublist List.filter_sublist
     exact this.sublist List.filter_sublist
    have an:(L.filter λn=>(f n).all λm=>decide$ m∈D)≠[]:=by
     obtain⟨n,n1,n2⟩:=gJ r L cL;refine List.ne_nil_of_mem$ (aj n).mpr ⟨n1,λm hm=>?_⟩;have mn:=(ah n).mp n1;obtain⟨q1,q2⟩:=(hf n mn.1).2.2 m hm;apply qBh;intro z;have:=n2 m$ (ah m).mpr ⟨q1,z⟩;lia
    generalize aC:(L.filter λn=>(f n).all λm=>decide$ m∈D)=O at *
    have ai:=k2.trans k3;refine⟨_,rF,_,.inl ⟨_,SqL.of h3,rF⟩,?_⟩
    have e0:(!(O.map V.str).isEmpty)=true:=by
     cases O with
     |nil=>exact absurd rF an
     |cons _ _=>rfl
    rw[e0];refine dC ?_
    refine⟨_,rF,_,rF,⟨_,SqL.of h3⟩,zA3 (λi σ H4=>∃(fa:Str->Addr)(S:Str->List Str)(o5:Option V),σ=[some (.ref l),some (.ref d),some (.ref e),some (.ref lf),some (.ref B),o5]/\Kp [] H H4/\Fp H H4 e ns (D++O.take i) fa S f/\Txs H4 lf L/\Txs H4 B O) ⟨fa,S,_,rF,ai,by rw[qC6,qAm];exact FP.kp k3,k3 lf _ ad ss,h3⟩ (λi σ H4 _ ⟨_,_,_,_,_,_,_,h⟩=>SqL.of h) ?_ ?_⟩
    .rintro i v σ H4 hv ⟨ak,S4,av,rfl,k4,F4,W,al⟩;obtain⟨n,en,rfl⟩:=zA9 hv;have mF:=(aj n).mp$ qAJ en;have mn:=(ah n).mp mF.1;obtain⟨n1,n2,n3⟩:=hf n mn.1
     have nD:n∉D++O.take i:=λz=>by
      rcases qAR.mp z with y|y
      .exact mn.2 y
      .exact zE4 au en y
     have fD:∀x∈f n,x∈D++O.take i:=λx hx=>qAp _$ mF.2 x hx;refine⟨_,rF,_,rF,_,.ref$ la n,rF,?_,_,rF,la n,e,f n,D++O.take i,ns,ak,S4,rF,k4 _ _ n1 ss,F4.top,λm hm=>⟨fD m hm,(n3 m hm).1,F4.row m$ fD m hm,F4.sns m$ fD m hm⟩,hn,λm hm=>qAW (zB3 (F4.snd m$ fD m hm)$ F4.sns m$ fD m hm) hn,λb H5 fb hb k5=>?_⟩
     .have:=dL.k (k:=Sum.inr n)$ k4 d _ hd ss;rw[zCh,qAC mn.1]at this;exact this
     have F5:=F4.kp k5;have aw:Fre H b:=k4.fre fb ss;refine⟨_,rF,_,rF,_,_,rF,fA.k (k:=Sum.inr n) F5.top ?_,?_⟩
     .have:=zB3 F5.nd F5.sub;rw[qAD,qAK];lia
     .have FM:=F5.more mn.1 nD fD (λx hx=>(n3 x hx).1) hb (qAh$ b_ fb F4.top) aw;rw[qBK,<-zAk en]at FM;exact⟨_,_,_,rF,Kp.new (k4.trans k5) fe,FM,(a_$ zCp W F4.top λz=>nomatch z).trans$ k5 lf _ W ss,(a_$ zCp al F4.top λz=>nomatch z).trans$ k5 B _ al ss⟩
    .rintro σ H4 ⟨ak,S4,av,rfl,k4,F4,W,al⟩;have eF:O.take (O.map V.str).length=O:=by rw[qAD,qAg]
     rw[eF]at F4
     refine⟨_,rF,_,rF,⟨_,SqL.of W⟩,λG hG=>zBt (L.map V.str) (λi ys τ H5=>(∃o0,τ=[o0,some (.ref e)])/\ys=((L.take i).filter λn=>decide$ n∉D++O).map V.str/\H5=upd H4 G (.lst ys)) ⟨⟨_,rF⟩,rF,rF⟩ (λi ys τ H5 ⟨_,_,z⟩=>by subst z;exact SqL.of$ (a_$ b_ (show Fre H4 G from hG) W).trans W) ?_ ?_⟩
     .rintro i v ys τ H5 hv ⟨⟨o0,rfl⟩,rfl,rfl⟩;obtain⟨n,en,rfl⟩:=zA9 hv;refine⟨_,rF,_,rF,_,_,rF,dL.k (k:=Sum.inr n)$ (a_$ b_ (show Fre H4 G from hG) F4.top).trans F4.top,_,rF,?_⟩;rw[zJv];have et:=zAk en;refine dE (λc=>?_) λc=>?_
      .have c':n∉D++O:=λz=>by rw[qAV z]at c;exact nomatch c
       refine⟨_,rF,ac,?_,⟨_,rF⟩,?_,zB7⟩
       .rw [qAD,qAK];have h1:=qBe (λn=>decide$ n∉D++O)$ L.take i;rw[qAU]at h1;lia
       .rw [et,qBY,qAP];have:[n].filter (λn=>decide$ n∉D++O)=[n]:=by rw[qBF,qAC$ qAV c'];rfl
        rw[this];rfl
      .have c':n∈D++O:=by
        apply qBh;intro z;rw[qAZ z]at c;exact c rF
       have e2:(L.take$ i+1).filter (λn=>decide$ n∉D++O)=(L.take i).filter (λn=>decide$ n∉D++O):=by
        rw[et,qBY];have:[n].filter (λn=>decide$ n∉D++O)=[]:=by rw[qBF,qAB$ by rw[qAZ λz=>z c'];decide];rfl
        rw[this,qAm]
       refine⟨⟨_,rF⟩,?_,?_⟩
       .rw [e2]
       .rfl
     .rintro ys τ H5 ⟨_,rfl,rfl⟩;have eT:L.take (L.map V.str).length=L:=by rw[qAD,qAg]
      rw[eT];have aD:e≠G:=b_ (show Fre H4 G from hG) F4.top
      have ax:(L.filter λn=>decide$ n∉D++O)=ns.filter λn=>decide$ n∉D++O:=by
       rw[<-hL,List.filter_filter];refine List.filter_congr λn _=>?_
       by_cases z:n∈D
       .have:n∈D++O:=qAp _ z;rw[qAZ λy=>y this];rfl
       .rw [qAV z,Bool.and_true]
      refine⟨⟨G,D++O,ak,S4,_,_,rF,Kp.new k4$ k4.fre (show Fre H4 G from hG) ss,F4.kp$ Kp.new Kp.refl hG,?_⟩,?_⟩
      .rw [<-ax];exact ac
      .have m1:pY [some (V.ref l),some (.ref d),some (.ref e),some (.ref lf),o4,o5] H2=L.length:=by
        show(match H2 lf with|some (.lst xs)=>xs.length|_=>0)=_;rw[ad];simp
       have m2:∀o4 o5,pY [some (V.ref l),some (.ref d),some (.ref e),some (.ref G),o4,o5] (upd H4 G$ .lst$ (L.filter λn=>decide$ n∉D++O).map V.str)=(L.filter λn=>decide$ n∉D++O).length:=λo4 o5=>by
        show(match upd H4 G (.lst$ (L.filter λn=>decide$ n∉D++O).map V.str) G with|some (.lst xs)=>xs.length|_=>0)=_;rw[ac];simp
       rw[m1];refine Nat.lt_of_le_of_lt (qCU$ m2 _ _) ?_;obtain⟨n,ao⟩:=List.exists_mem_of_ne_nil O an;have ay:=((aj n).mp ao).1;exact gY ay$ qAZ λz=>z$ qAs _ ao
  .have cL:L=[]:=by
    cases L with
    |nil=>rfl
    |cons _ _=>exact absurd rF c
   refine⟨_,rF,k e D fa S H2 FP (λn az=>?_) k2⟩;apply qBh;intro z;have:=(ah n).mpr ⟨az,z⟩;rw[cL]at this;exact nomatch this
end
def jf(r p e:Addr):List (Str×V):=dH "above" (.ref e)$ dH "pairs" (.ref p)$ dH "row" (.ref r) []
theorem lG(r p e:Addr):(jf r p e).lookup ("row": Str)=some (.ref r):=by
 unfold jf;rw[zA6,qAB kK,zA6,qAB kK,zA6,qAC rF]
theorem rf(r p e:Addr):(jf r p e).lookup ("above": Str)=some (.ref e):=by
 unfold jf;rw[zA6,qAC rF]
theorem mw(r p e:Addr){m:Str}(h1:¬m="above")(h2:¬m="pairs")(h3:¬m="row"):(jf r p e).lookup m=none:=by
 unfold jf;rw[zA6,qAB h1,zA6,qAB h2,zA6,qAB h3];rfl
structure JC(K:PySem.W.Frag)(mg:Str->Option Value)(C:Addr):Prop where
 cl:Cls K C
 n_row:zGc K C "row"
 n_pairs:zGc K C "pairs"
 n_above:zGc K C "above"
 mgC:mg "Jobs"=some (.ref C)
structure JR where
 dx:Addr
 r:Addr
 p:Addr
 e:Addr
 ns:List Str
 zs:List (List Str×Addr)
 D:List Str
 fa:Str->Addr
 S:Str->List Str
structure dG(C:Addr)(H:Hp)(j:Addr)(J:JR):Prop where
 ob:H j=some (.ins C J.dx$ jf J.r J.p J.e)
 row:Txs H J.r J.ns
 prs:fF H J.p J.zs
 abv:H J.e=some (.dK$ dT1 J.D λn=>.ref$ J.fa n)
 all:∀n∈J.ns,n∈J.D
 sets:∀n∈J.D,dO H (J.fa n) (J.S n)
 few:J.ns.length<=20
 zfew:J.zs.length<=306
 nd:J.ns.Nodup
 zin:∀q∈J.zs,∀x∈q.1,x∈J.ns
 mem:∀n∈J.ns,∀x,x∈J.S n↔x∈told J.zs n\/∃m∈told J.zs n,x∈J.S m
theorem dG.kp{M:List Addr}{C:Addr}{j:Addr}{J:JR}(A:dG C H j J)(k:Kp M H H')(h:∀a o,H a=some o->a∈M->a≠j/\a≠J.r/\a≠J.p/\a≠J.e/\(∀q∈J.zs,a≠q.2)/\∀n∈J.D,a≠J.fa n):dG C H' j J where
 ob:=k _ _ A.ob λz=>(h _ _ A.ob z).1 rF
 row:=k _ _ A.row λz=>(h _ _ A.row z).2.1 rF
 prs:=⟨k _ _ A.prs.top λz=>(h _ _ A.prs.top z).2.2.1 rF,λq O=>k _ _ (A.prs.row q O) λz=>(h _ _ (A.prs.row q O) z).2.2.2.2.1 q O rF,A.prs.two⟩
 abv:=k _ _ A.abv λz=>(h _ _ A.abv z).2.2.2.1 rF
 all:=A.all
 sets:=λn S=>k _ _ (A.sets n S) λz=>(h _ _ (A.sets n S) z).2.2.2.2.2 n S rF
 few:=A.few
 zfew:=A.zfew
 nd:=A.nd
 zin:=A.zin
 mem:=A.mem
theorem dG.kp0{C:Addr}{j:Addr}{J:JR}(A:dG C H j J)(k:Kp [] H H'):dG C H' j J:=A.kp k λ_ _ _ z=>nomatch z
section
inductive fK(C:Addr)(vs:List V)(H:Hp)(Q:VK)(u_3:XK):Prop
 |mk:∀(j:Addr)(J:JR),vs=[.ref j]->dG C H j J->(∀l H',Fre H l->Txs H' l J.ns->Kp [] H H'->Q (.ref l) H')->fK C vs H Q u_3
abbrev zEp:Stmt:=iR (top 51) 1
theorem zJa:dq ["self"] ["self"] (zAg zEp):=fnS
theorem zJl(F:Fun K "names" "Jobs.names" zEp f fd)(T:Txt K mg)(U:JC K mg C):dw P w K mg base CX0 1 f fd ["self"] (fK C):=by
 refine F.ok zJa (λvs H Q E h=>?_) λV A outer s H vs Q E W h=>?_
 .obtain ⟨j,J,rfl,_⟩:=h;rfl
 .obtain ⟨j,J,rfl,O,k⟩:=h;refine⟨_,(zAe$ zAw$ zA8 zBu rR T.z_list zCe$ zAa (zHo (pv 0) rF) zAb),?_⟩;refine⟨_,rF,_,_,_,_,_,rF,O.ob,U.cl,U.n_row,lG _ _ _,_,_,rF,.inl$ SqL.of O.row,λl S=>?_⟩;exact k l _ S ac$ Kp.new Kp.refl S
theorem sh{j:Addr}{J:JR}(A:dG C H j J)(O:y∈J.ns):dL H J.e (.str y) (some$ .ref$ J.fa y):=by
 have:=dL.k (k:=Sum.inr y) A.abv;rw[zCh,qAC$ A.all y O]at this;exact this
theorem zEm{e:Addr}{B:List Str}(h:dO H e B)(x:Str):∃o,dL H e (.str x) o/\o.isSome=decide (x∈B):=⟨_,dL.k (k:=Sum.inr x) h,zJv B _ x⟩
inductive eL(C:Addr)(vs:List V)(H:Hp)(Q:VK)(u_3:XK):Prop
 |mk:∀(j:Addr)(J:JR)(x y:Str),vs=[.ref j,.str x,.str y]->dG C H j J->x∈J.ns->y∈J.ns->Q (.bl$ decide$ x∈J.S y) H->eL C vs H Q u_3
abbrev zC9:Stmt:=iR (top 51) 3
theorem zGu:dq ["self","one","other"] ["self","one","other"] (zAg zC9):=fnS
theorem zGw(F:Fun K "is_ahead" "Jobs.is_ahead" zC9 f fd)(T:Txt K mg)(U:JC K mg C)(S:Cal P w K mg base "check_job" 2 ["names","thing"] eE):dw P w K mg base CX0 3 f fd ["self","one","other"] (eL C):=by
 refine F.ok zGu (λvs H Q E h=>?_) λaa A outer s H vs Q E hr h=>?_
 .obtain ⟨j,J,x,y,rfl,_⟩:=h;rfl
 .obtain ⟨j,J,x,y,rfl,V,hx,W,k⟩:=h;have O:=hr;have hu:=zF2 hr
  refine⟨_,(zAc (zA2$ zAh S O rF$ zAa (zHo (pv 0) rF)$ zAa (pv 1) zAb) (zAc (zA2$ zAh S O rF$ zAa (zHo (pv 0) rF)$ zAa (pv 2) zAb)$ zAe$ zAw$ rD$ zHp hu (pv 1)$ zB8 hu (zHo (pv 0) rF) (pv 2) λ_ _=>rfl)),?_⟩
  refine gv ?_;intro _ _ _;refine⟨_,rF,_,_,_,_,_,rF,V.ob,U.cl,U.n_row,lG _ _ _,_,rF,x,_,_,rF,V.row,hx,?_⟩;refine⟨_,rF,_,_,_,_,_,rF,V.ob,U.cl,U.n_row,lG _ _ _,_,rF,y,_,_,rF,V.row,W,?_⟩;obtain⟨o,g1,g2⟩:=zEm (V.sets y$ V.all y W) x;refine⟨_,rF,_,rF,_,_,_,_,_,rF,V.ob,U.cl,U.n_above,rf _ _ _,_,rF,_,_,rF,sh V W,_,o,rF,g1,?_⟩;rw[g2];exact k
end
section
theorem zHa{p:α->Bool}{xs:List α}{x:α}(e:xs[i]?=some x)(h:p x=true):(xs.take$ i+1).filter p=(xs.take i).filter p++[x]:=by
 rw[zAk e,qBY,qBF,qAC h];rfl
theorem zJz{p:α->Bool}{xs:List α}{x:α}(e:xs[i]?=some x)(h:¬p x=true):(xs.take$ i+1).filter p=(xs.take i).filter p:=by
 rw[zAk e,qBY,qBF,qAB h];simp
theorem zJ0{p:α->Bool}{xs:List α}(h:xs.length<=4096):(((xs.take i).filter p)).length<sizeLine:=by
 have h1:=qBe p$ xs.take i;rw[qAU]at h1;rw[qAK];lia
end
end My
namespace TimP
open PySem PyProof.Rows Tim
variable{i n lo nrem:Nat}{x:Keyed}{st:SortSt}{α:Type}
theorem rV{l m:List Keyed}(h:∀p:Keyed->Bool,l.countP p=m.countP p):l.Perm m:=by
 letI:DecidableEq Keyed:=λa b=>Classical.propDecidable$ a=b
 exact List.perm_iff_count.mpr λx=>h (·==x)
theorem cd{a:Array Keyed}{j:Nat}(h:i<=j)(p:Keyed->Bool):(a.extract i j).toList.countP p+(a.toList.drop j).countP p=(a.toList.drop i).countP p:=by
 have e:a.toList.drop j=(a.toList.drop i).drop (j-i):=by rw[List.drop_drop];congr 1;lia
 rw[qBi,List.extract_eq_drop_take,e,<-qCB,qBb]
theorem ck{a:Array Keyed}{j:Nat}(h:i<=j)(p:Keyed->Bool):(a.extract i j).toList.countP p+(a.toList.take i).countP p=(a.toList.take j).countP p:=by
 have h1:=cd (a:=a) h p;have h2:=qAl (List.countP p)$ qBb i a.toList;have h3:=qAl (List.countP p)$ qBb j a.toList;rw[qCB]at h2 h3;lia
theorem zJj{a:Array Keyed}(e:a[i]?=some x):(a.extract i$ i+1).toList=[x]:=by
 have hi:=(qBM.mp e).1;have O:=(qBM.mp e).2;rw[qBi,List.extract_eq_drop_take,Nat.add_sub_cancel_left,qC7$ by simpa using hi];simp[O]
theorem xA(a:Array Keyed)(p:Keyed->Bool):(a.toList.drop a.size).countP p=0:=by rw[qCf ss];rfl
theorem zEi(a b:Array Keyed)(p:Keyed->Bool):(a++b).toList.countP p=a.toList.countP p+b.toList.countP p:=by rw[qCY,qCB]
theorem zJ2(a:Array Keyed)(x:Keyed)(p:Keyed->Bool):(a.push x).toList.countP p=a.toList.countP p+[x].countP p:=by rw[qCK,qCB]
theorem ku(a:Array Keyed)(p:Keyed->Bool):a.reverse.toList.countP p=a.toList.countP p:=by rw[Array.toList_reverse,List.countP_reverse]
section
variable{a b out:Array Keyed}{ia ib:Nat}
structure MI(a b out:Array Keyed)(ia ib:Nat):Prop where
 la:ia<=a.size
 lb:ib<=b.size
 ct:∀p,out.toList.countP p+(a.toList.drop ia).countP p+(b.toList.drop ib).countP p=a.toList.countP p+b.toList.countP p
def Fn(a b r:Array Keyed):Prop:=∀p,r.toList.countP p=a.toList.countP p+b.toList.countP p
theorem MI.tAs(M:MI a b out ia ib)(k:Nat)(h:ia+k<=a.size):MI a b (out++a.extract ia (ia+k)) (ia+k) ib:=⟨h,M.lb,λp=>by
 have h1:=M.ct p;have h2:=cd (a:=a) (show ia<=ia+k by lia) p;rw[zEi];lia⟩
theorem MI.tBs(M:MI a b out ia ib)(k:Nat)(h:ib+k<=b.size):MI a b (out++b.extract ib (ib+k)) ia (ib+k):=⟨M.la,h,λp=>by
 have h1:=M.ct p;have h2:=cd (a:=b) (show ib<=ib+k by lia) p;rw[zEi];lia⟩
theorem MI.tA(M:MI a b out ia ib)(e:a[ia]?=some x):MI a b (out.push x) (ia+1) ib:=⟨(qBM.mp e).1,M.lb,λp=>by
 have h1:=M.ct p;have h2:=cd (a:=a) (show ia<=ia+1 by lia) p;rw[zJj e]at h2;rw[zJ2];lia⟩
theorem MI.tB(M:MI a b out ia ib)(e:b[ib]?=some x):MI a b (out.push x) ia (ib+1):=⟨M.la,(qBM.mp e).1,λp=>by
 have h1:=M.ct p;have h2:=cd (a:=b) (show ib<=ib+1 by lia) p;rw[zJj e]at h2;rw[zJ2];lia⟩
theorem MI.f1(M:MI a b out ia ib):Fn a b (out++a.extract ia a.size++b.extract ib b.size):=λp=>by
 have h1:=M.ct p;have h2:=cd (a:=a) M.la p;have h3:=cd (a:=b) M.lb p;rw[xA]at h2 h3;rw[zEi,zEi];lia
theorem MI.f2(M:MI a b out ia ib):Fn a b (out++b.extract ib b.size++a.extract ia a.size):=λp=>by
 have h1:=M.f1 p;rw[zEi,zEi]at h1 ⊢;lia
structure MH(a b out:Array Keyed)(ia ib:Nat):Prop where
 la:ia<=a.size
 lb:ib<=b.size
 ct:∀p,out.toList.countP p+(a.toList.take ia).countP p+(b.toList.take ib).countP p=a.toList.countP p+b.toList.countP p
theorem MH.tAs(M:MH a b out ia ib)(k:Nat)(h:k<=ia):MH a b (out++(a.extract k ia).reverse) k ib:=⟨by have:=M.la;lia,M.lb,λp=>by
 have h1:=M.ct p;have h2:=ck (a:=a) h p;rw[zEi,ku];lia⟩
theorem MH.tBs(M:MH a b out ia ib)(k:Nat)(h:k<=ib):MH a b (out++(b.extract k ib).reverse) ia k:=⟨M.la,by have:=M.lb;lia,λp=>by
 have h1:=M.ct p;have h2:=ck (a:=b) h p;rw[zEi,ku];lia⟩
theorem MH.tA(M:MH a b out (ia+1) ib)(e:a[ia]?=some x):MH a b (out.push x) ia ib:=⟨by have:=M.la;lia,M.lb,λp=>by
 have h1:=M.ct p;have h2:=ck (a:=a) (show ia<=ia+1 by lia) p;rw[zJj e]at h2;rw[zJ2];lia⟩
theorem MH.tB(M:MH a b out ia (ib+1))(e:b[ib]?=some x):MH a b (out.push x) ia ib:=⟨M.la,by have:=M.lb;lia,λp=>by
 have h1:=M.ct p;have h2:=ck (a:=b) (show ib<=ib+1 by lia) p;rw[zJj e]at h2;rw[zJ2];lia⟩
theorem MH.f1(M:MH a b out ia ib):Fn a b (a.extract 0 ia++b.extract 0 ib++out.reverse):=λp=>by
 have h1:=M.ct p;have h2:=ck (a:=a) (qAi ia) p;have h3:=ck (a:=b) (qAi ib) p;rw[qC6,List.countP_nil]at h2 h3;rw[zEi,zEi,ku];lia
theorem MH.f2(M:MH a b out ia ib):Fn a b (b.extract 0 ib++a.extract 0 ia++out.reverse):=λp=>by
 have h1:=M.f1 p;rw[zEi,zEi]at h1 ⊢;lia
end
structure dP(st st':SortSt):Prop where
 kd:kindOf st'=kindOf st
 ar:arrOf st'=arrOf st
 pn:pendingOf st'=pendingOf st
 fl:failedOf st'=failedOf st
theorem dP.refl(st:SortSt):dP st st:=⟨rF,rF,rF,rF⟩
theorem dP.trans{a b c:SortSt}(h:dP a b)(k:dP b c):dP a c:=⟨k.kd.trans h.kd,k.ar.trans h.ar,k.pn.trans h.pn,k.fl.trans h.fl⟩
section
variable{prog:Program}{w:World}{A:Around}{E:Value->Shared->Prop}{s:Shared}{kd:SortKind}{κ:KeyKind}{a b:Array Keyed}
theorem zCo{a:Array Keyed}(O:∀x∈a.toList,Has κ x)(hi:i<a.size):∃p,a[i]?=some p/\Has κ p :=
 ⟨a[i],ss,O _ ss⟩
theorem gR{left:Bool}{key:Keyed}{arr:Array Keyed}{base O:Nat}{Q:Option Nat->SortSt->Prop}(C:CmpOk prog w A s kd κ)(hk:kindOf st=kd)(V:Has κ key)
  (W:∀i,i<n->∃q,arr[base+i]?=some q/\Has κ q) (hh:O<n) (h:∀k,k<=n->Q (some k) st):wpS (model prog w) A E s (gal left key arr base n O) Q st:=by
 have ask:∀(i:Nat){R:Option Bool->SortSt->Prop},i<n->(∀c,R (some c) st)->wpS (model prog w) A E s (byd left key arr base i) R st:=λi R hi hR=>xm C hk V (W i hi)$ hR _
 have bin:∀(l r:Nat),l<=r->r<=n->∀(F:Nat->Option (Option Nat)×Nat×Nat->StateT SortSt Sem (ForInStep$ Option (Option Nat)×Nat×Nat)),
   (∀x l r,F x (none,l,r)=(if l>=r then pure (ForInStep.done (none,l,r)) else do
    let c<-byd left key arr base (l+(r-l) / 2)
    match c with
    |some more=>if more=true then pure (ForInStep.yield (none,l+(r-l) / 2+1,r))else pure (ForInStep.yield (none,l,l+(r-l) / 2))
    |_=>pure (ForInStep.done (some none,l,r))))->∀G:Option (Option Nat)×Nat×Nat->StateT SortSt Sem (Option Nat),(∀l r,G (none,l,r)=pure (some r)) ->
   wpS (model prog w) A E s (forIn [:n] ((none,l,r):Option (Option Nat)×Nat×Nat) F >>= G) Q st:=by
  intro l r aa ad F hF G hG
  refine qAF$ qA3 (qA1 (I:=λx c S=>S=st/\∃l r,c=(none,l,r)/\l<=r/\r<=n/\r-l<=n-x) (Q:=λc S=>S=st/\∃l r,c=(none,l,r)/\r<=n) ?step ?fin ⟨rF,l,r,rF,aa,ad,Ll⟩) ?post
  case fin=>
   rintro c S ⟨rfl,l,r,rfl,h1,h2,h3⟩;exact⟨rF,l,r,rF,h2⟩
  case post=>
   rintro c S ⟨rfl,l,r,rfl,h1⟩;rw[hG];exact qAH$ h r h1
  case step=>
   rintro x c S _ hx ⟨rfl,l,r,rfl,h1,h2,h3⟩;rw[hF x l r]
   by_cases hge:l>=r
   .rw [qAC hge];exact qAH ⟨rF,l,r,rF,h2⟩
   .rw [qAB hge];refine qAF$ ask _ Ll λc=>?_;show wpS _ _ _ _ (if c=true then _ else _) _ _;split
    .exact qAH ⟨rF,_,_,rF,Ll,h2,Ll⟩
    .exact qAH ⟨rF,_,_,rF,Ll,Ll,Ll⟩
 refine qAF$ ask O hh λc0=>?_;show wpS _ _ _ _ (if c0=true then _ else _) _ _;split
 .refine qAF$ qA3 (qA1 (I:=λx c S=>S=st/\∃l o,c=(none,l,o)/\l<o/\O+l<n) (Q:=λc S=>S=st/\∃l o,c=(none,l,o)/\l<o/\O+l<n) ?step (λc S h=>h) ⟨rF,0,1,rF,Ll,Ll⟩) ?post
  case step=>
   rintro x c S _ hx ⟨rfl,l,o,rfl,h1,h2⟩;dsimp only
   by_cases ho:o>=n-O
   .rw [qAC ho];exact qAH ⟨rF,l,o,rF,h1,h2⟩
   .rw [qAB ho];refine qAF$ ask (O+o) Ll λc=>?_;show wpS _ _ _ _ (if(!c)=true then _ else _) _ _;split
    .exact qAH ⟨rF,l,o,rF,h1,h2⟩
    .exact qAH ⟨rF,o,2*o+1,rF,Ll,Ll⟩
  case post=>
   rintro c S ⟨rfl,l,o,rfl,h1,h2⟩;exact bin (O+l+1) (O+min o (n-O)) Ll Ll _ (λx l r=>rfl) _ λl r=>rfl
 .refine qAF$ qA3 (qA1 (I:=λx c S=>S=st/\∃l o,c=(none,l,o)/\l<o/\l<=O) (Q:=λc S=>S=st/\∃l o,c=(none,l,o)/\l<o/\l<=O) ?step (λc S h=>h) ⟨rF,0,1,rF,Ll,Ll⟩) ?post
  case step=>
   rintro x c S _ hx ⟨rfl,l,o,rfl,h1,h2⟩;dsimp only
   by_cases ho:o>=O+1
   .rw [qAC ho];exact qAH ⟨rF,l,o,rF,h1,h2⟩
   .rw [qAB ho];refine qAF$ ask (O-o) Ll λc=>?_;show wpS _ _ _ _ (if c=true then _ else _) _ _;split
    .exact qAH ⟨rF,l,o,rF,h1,h2⟩
    .exact qAH ⟨rF,o,2*o+1,rF,Ll,Ll⟩
  case post=>
   rintro c S ⟨rfl,l,o,rfl,h1,h2⟩;exact bin (O+1-min o (O+1)) (O-l) Ll Ll _ (λx l r=>rfl) _ λl r=>rfl
abbrev oB:=Option (Array Keyed)×Array Keyed×Nat×Nat×Nat×Nat×Nat
def tA(a b o:Array Keyed)(i j g p q:Nat):StateT SortSt Sem (ForInStep oB):=do
 let x<-elem' a i
 if(i+1+1==a.size)=true then pure (.done (some (o.push x++b.extract j b.size++a.extract (i+1) a.size),o.push x,i+1,j,g,p,q))
 else if(decide (p<7)&&decide (q<7))=true then pure (.done (none,o.push x,i+1,j,g,p,q))
 else pure (.yield (none,o.push x,i+1,j,g,p,q))
def tB(a b o:Array Keyed)(i j g p q:Nat):StateT SortSt Sem (ForInStep oB):=do
 let y<-elem' b j
 if(j+1==b.size)=true then pure (.done (some (o.push y++a.extract i a.size++b.extract (j+1) b.size),o.push y,i,j+1,g,p,q))
 else do
  let x<-elem' a i
  let r<-gal true x b (j+1) (b.size-(j+1)) 0
  match r with
  |some k=>
   if k>0 then
    if(j+1+k==b.size)=true then pure (.done (some (o.push y++b.extract (j+1) (j+1+k)++a.extract i a.size++b.extract (j+1+k) b.size),o.push y++b.extract (j+1) (j+1+k),i,j+1+k,g,p,k))
    else tA a b (o.push y++b.extract (j+1) (j+1+k)) i (j+1+k) g p k
   else tA a b (o.push y) i (j+1) g p k
  |_=>pure (.done (some (o.push y++a.extract i a.size++b.extract (j+1) b.size),o.push y,i,j+1,g,p,q))
def tT(a b o:Array Keyed)(i j g p q:Nat):StateT SortSt Sem (ForInStep oB):=do
 let y<-elem' b j
 let r<-gal false y a i (a.size-i) 0
 match r with
 |some k=>
  if k>0 then
   if(i+k+1==a.size)=true then pure (.done (some (o++a.extract i (i+k)++b.extract j b.size++a.extract (i+k) a.size),o++a.extract i (i+k),i+k,j,g,k,q))
   else if(i+k==a.size)=true then pure (.done (some (o++a.extract i (i+k)++a.extract (i+k) a.size++b.extract j b.size),o++a.extract i (i+k),i+k,j,g,k,q))
   else tB a b (o++a.extract i (i+k)) (i+k) j g k q
  else tB a b o i j g k q
 |_=>pure (.done (some (o++a.extract i a.size++b.extract j b.size),o,i,j,g,p,q))
theorem zAy{m:Nat}(h:¬(m==n)=true):m≠n:=by simpa using h
def TO(a b:Array Keyed)(m:Nat)(st3:SortSt)(R:ForInStep oB->SortSt->Prop):Prop :=
 (∀r o i j g p q,Fn a b r->R (.done (some r,o,i,j,g,p,q)) st3)/\(∀o i j g p q,MI a b o i j->i+1<a.size->j<b.size->m<=i+j->R (.done (none,o,i,j,g,p,q)) st3/\R (.yield (none,o,i,j,g,p,q)) st3)
section
variable{st3:SortSt}{o:Array Keyed}{i j g p q m:Nat}{R:ForInStep oB->SortSt->Prop}
theorem xy(V:∀x∈a.toList,Has κ x)(M:MI a b o i j)(hi:i+1<a.size)(W:j<b.size)(hm:m<=i+j)(O:TO a b m st3 R):wpS (model prog w) A E s (tA a b o i j g p q) R st3:=by
 obtain⟨x,ex,_⟩:=zCo V (show i<a.size by lia);have S:=M.tA ex;refine qAF$ zB2 ex ?_
 by_cases d1:(i+1+1==a.size)=true
 .rw [qAC d1];exact qAH$ O.1 _ _ _ _ _ _ _ S.f2
 .have:=zAy d1;rw[qAB d1];have q:=O.2 _ _ _ g p q S Ll W Ll;split
  .exact qAH q.1
  .exact qAH q.2
theorem xr(C:CmpOk prog w A s kd κ)(hk:kindOf st3=kd)(S:∀x∈a.toList,Has κ x)(hb:∀x∈b.toList,Has κ x)(M:MI a b o i j)(hi:i+1<a.size)(hj:j<b.size)(hm:m<=i+j)(O:TO a b m st3 R) :
  wpS (model prog w) A E s (tB a b o i j g p q) R st3:=by
 obtain⟨y,ey,aa⟩:=zCo hb hj;obtain⟨x,ex,V⟩:=zCo S (show i<a.size by lia);have W:=M.tB ey;refine qAF$ zB2 ey ?_
 by_cases d1:(j+1==b.size)=true
 .rw [qAC d1];exact qAH$ O.1 _ _ _ _ _ _ _ W.f1
 .have:=zAy d1;rw[qAB d1];refine qAF$ zB2 ex$ qAF$ gR C hk V (λi hi=>zCo hb Ll) Ll λk k1=>?_;have M3:=W.tBs k Ll;show wpS _ _ _ _ (if k>0 then _ else _) _ _
  by_cases hk0:k>0
  .rw [qAC hk0]
   by_cases d2:(j+1+k==b.size)=true
   .rw [qAC d2];exact qAH$ O.1 _ _ _ _ _ _ _ M3.f1
   .have:=zAy d2;rw[qAB d2];exact xy S M3 hi Ll Ll O
  .rw [qAB hk0];exact xy S W hi Ll Ll O
theorem xU(C:CmpOk prog w A s kd κ)(S:kindOf st3=kd)(V:∀x∈a.toList,Has κ x)(W:∀x∈b.toList,Has κ x)(M:MI a b o i j)(hi:i+1<a.size)(hj:j<b.size)(hm:m<=i+j)(O:TO a b m st3 R):wpS (model prog w) A E s (tT a b o i j g p q) R st3:=by
 obtain⟨y,ey,aa⟩:=zCo W hj;refine qAF$ zB2 ey$ qAF$ gR C S aa (λi hi=>zCo V Ll) Ll λk k1=>?_;have M3:=M.tAs k Ll;show wpS _ _ _ _ (if k>0 then _ else _) _ _
 by_cases hk0:k>0
 .rw [qAC hk0]
  by_cases d1:(i+k+1==a.size)=true
  .rw [qAC d1];exact qAH$ O.1 _ _ _ _ _ _ _ M3.f2
  .rw [qAB d1]
   by_cases d2:(i+k==a.size)=true
   .rw [qAC d2];exact qAH$ O.1 _ _ _ _ _ _ _ M3.f1
   .have:=zAy d1;have:=zAy d2;rw[qAB d2];exact xr C S V W M3 Ll hj Ll O
 .rw [qAB hk0];exact xr C S V W M hi hj hm O
end
inductive LoA(a b:Array Keyed)(n:Nat)(c:Option (Array Keyed)×Array Keyed×Nat×Nat×Nat):Prop
 |mk:∀out ia ib g,c=(none,out,ia,ib,g)->MI a b out ia ib->ia+1<a.size->ib<b.size->n<=ia+ib->LoA a b n c
inductive FnA(a b:Array Keyed)(c:Option (Array Keyed)×Array Keyed×Nat×Nat×Nat):Prop
 |mk:∀r out ia ib g,c=(some r,out,ia,ib,g)->Fn a b r->FnA a b c
inductive HiA(a b:Array Keyed)(x n:Nat)(c:Option (Array Keyed)×Nat×Nat×Array Keyed×Nat):Prop
 |mk:∀out i j g,c=(none,i,j,out,g)->MH a b out i j->1<=i->1<j->i+j+x<=n->HiA a b x n c
inductive FhA(a b:Array Keyed)(c:Option (Array Keyed)×Nat×Nat×Array Keyed×Nat):Prop
 |mk:∀r out i j g,c=(some r,i,j,out,g)->Fn a b r->FhA a b c
inductive LoB(a b:Array Keyed)(n:Nat)(c:Option (Array Keyed)×Array Keyed×Nat×Nat×Nat×Nat):Prop
 |mk:∀out ia ib p q,c=(none,out,ia,ib,p,q)->MI a b out ia ib->ia+1<a.size->ib<b.size->n<=ia+ib->LoB a b n c
inductive FnB(a b:Array Keyed)(c:Option (Array Keyed)×Array Keyed×Nat×Nat×Nat×Nat):Prop
 |mk:∀r out ia ib p q,c=(some r,out,ia,ib,p,q)->Fn a b r->FnB a b c
inductive HiB(a b:Array Keyed)(x n:Nat)(c:Option (Array Keyed)×Nat×Nat×Array Keyed×Nat×Nat):Prop
 |mk:∀out i j p q,c=(none,i,j,out,p,q)->MH a b out i j->1<=i->1<j->i+j+x<=n->HiB a b x n c
inductive FhB(a b:Array Keyed)(c:Option (Array Keyed)×Nat×Nat×Array Keyed×Nat×Nat):Prop
 |mk:∀r out i j p q,c=(some r,i,j,out,p,q)->Fn a b r->FhB a b c
inductive LoD(a b:Array Keyed)(n:Nat)(c:Option (Array Keyed)×Array Keyed×Nat×Nat×Nat×Nat×Nat):Prop
 |mk:∀out ia ib g p q,c=(none,out,ia,ib,g,p,q)->MI a b out ia ib->ia+1<a.size->ib<b.size->n<=ia+ib->LoD a b n c
inductive FnD(a b:Array Keyed)(c:Option (Array Keyed)×Array Keyed×Nat×Nat×Nat×Nat×Nat):Prop
 |mk:∀r out ia ib g p q,c=(some r,out,ia,ib,g,p,q)->Fn a b r->FnD a b c
inductive HiD(a b:Array Keyed)(x n:Nat)(c:Option (Array Keyed)×Nat×Nat×Array Keyed×Nat×Nat×Nat):Prop
 |mk:∀out i j g p q,c=(none,i,j,out,g,p,q)->MH a b out i j->1<=i->1<j->i+j+x<=n->HiD a b x n c
inductive FhD(a b:Array Keyed)(c:Option (Array Keyed)×Nat×Nat×Array Keyed×Nat×Nat×Nat):Prop
 |mk:∀r out i j g p q,c=(some r,i,j,out,g,p,q)->Fn a b r->FhD a b c
theorem xv{Q:Array Keyed->SortSt->Prop}(C:CmpOk prog w A s kd κ)(hk:kindOf st=kd)(ha:∀x∈a.toList,Has κ x)(hb:∀x∈b.toList,Has κ x)(na:1<=a.size)(nb:1<=b.size)
  (h:∀r S,dP st S->Fn a b r->Q r S):wpS (model prog w) A E s (mLo a b) Q st:=by
 refine qAF$ qBu$ qBD ⟨rF,?_⟩;obtain⟨y0,ey,hy⟩:=zCo hb (show 0<b.size by lia);refine qAF$ zB2 ey ?_;have M0:MI a b #[] 0 0:=⟨Ll,Ll,λp=>ss⟩;have M1:MI a b #[y0] 0 1:=M0.tB ey;show wpS _ _ _ _ (if(1==b.size)=true then _ else _) _ _
 by_cases c1:(1==b.size)=true
 .rw [qAC c1];exact qAH$ h _ _ (dP.refl _) M1.f1
 rw[qAB c1];show wpS _ _ _ _ (if(0+1==a.size)=true then _ else _) _ _
 by_cases c2:(0+1==a.size)=true
 .rw [qAC c2];exact qAH$ h _ _ (dP.refl _) M1.f2
 rw[qAB c2];have:=zAy c1;have:=zAy c2;refine qAF$ qBW ?_
 refine qAF$ qA3 (qA1 (I:=λx c S=>dP st S/\LoA a b (x+1) c) (Q:=λc S=>dP st S/\FnA a b c) ?step ?fin ⟨dP.refl _,_,_,_,_,rF,M1,Ll,Ll,Ll⟩) ?post
 case fin=>
  rintro c S ⟨_,out,ia,ib,g,rfl,M,h1,h2,h3⟩;lia
 case post=>
  rintro c S ⟨L,r,out,ia,ib,g,rfl,F⟩;exact qAH$ h r S L F
 case step=>
  rintro x c ad _ ai ⟨L1,ah,W,aa,g0,rfl,M,u1,u2,u3⟩;have ae:kindOf ad=kd:=L1.kd.trans hk;dsimp only
  refine qAF$ qA3 (qA1 (I:=λx c S=>S=ad/\LoB a b (W+aa+x) c) (Q:=λc S=>S=ad/\(FnB a b c\/LoB a b (W+aa+1) c)) ?step1 ?fin1 ⟨rF,_,_,_,_,_,rF,M,u1,u2,Ll⟩) ?post1
  case fin1=>
   rintro c S ⟨rfl,out,ia,ib,p,q,rfl,V,v1,v2,v3⟩;exact⟨rF,.inr ⟨out,ia,ib,p,q,rF,V,v1,v2,Ll⟩⟩
  case step1=>
   rintro x2 c S _ aj ⟨rfl,out,ia,ib,p,q,rfl,V,v1,v2,v3⟩;obtain⟨yb,eb,af⟩:=zCo hb v2;obtain⟨xa,ea,ag⟩:=zCo ha (show ia<a.size by lia);dsimp only;refine qAF$ zB2 eb$ qAF$ zB2 ea$ qAF$ w_lt C ae af ag ?_;generalize κ.blt (kk κ yb) (kk κ xa)=c;show wpS _ _ _ _ (if c=true then _ else _) _ _
   by_cases e:c=true
   .rw [qAC e];refine qAF$ zB2 eb ?_;have M2:=V.tB eb
    by_cases d1:(ib+1==b.size)=true
    .rw [qAC d1];exact qAH ⟨rF,.inl ⟨_,_,_,_,_,_,rF,M2.f1⟩⟩
    .have:=zAy d1;rw[qAB d1]
     by_cases d2:q+1>=g0
     .rw [qAC d2];exact qAH ⟨rF,.inr ⟨_,_,_,_,_,rF,M2,v1,Ll,Ll⟩⟩
     .rw [qAB d2];exact qAH ⟨rF,_,_,_,_,_,rF,M2,v1,Ll,Ll⟩
   .rw [qAB e];refine qAF$ zB2 ea ?_;have M2:=V.tA ea
    by_cases d1:(ia+1+1==a.size)=true
    .rw [qAC d1];exact qAH ⟨rF,.inl ⟨_,_,_,_,_,_,rF,M2.f2⟩⟩
    .have:=zAy d1;rw[qAB d1]
     by_cases d2:p+1>=g0
     .rw [qAC d2];exact qAH ⟨rF,.inr ⟨_,_,_,_,_,rF,M2,Ll,v2,Ll⟩⟩
     .rw [qAB d2];exact qAH ⟨rF,_,_,_,_,_,rF,M2,Ll,v2,Ll⟩
  case post1=>
   rintro c S ⟨rfl,⟨r,out,ia,ib,p,q,rfl,F⟩|⟨out,ia,ib,p,q,rfl,V,v1,v2,v3⟩⟩
   .exact qAH ⟨L1,_,_,_,_,_,rF,F⟩
   .dsimp only;refine qAF$ qBu$ qBD ⟨rF,?_⟩
    refine qAF$ qA3 (qA1 (I:=λx c S=>dP st S/\LoD a b (W+aa+1) c) (Q:=λc S=>dP st S/\(FnD a b c\/LoD a b (W+aa+1) c)) ?step2 ?fin2 ⟨L1,_,_,_,_,_,_,rF,V,v1,v2,v3⟩) ?post2
    case fin2=>
     rintro c S ⟨L,v⟩;exact⟨L,.inr v⟩
    case post2=>
     rintro c S ⟨L,⟨r,out,ia,ib,g,p,q,rfl,F⟩|⟨out,ia,ib,g,p,q,rfl,V,v1,v2,v3⟩⟩
     .exact qAH ⟨L,_,_,_,_,_,rF,F⟩
     .dsimp only;refine qAF$ qA7$ qAH ⟨L.trans ⟨rF,rF,rF,rF⟩,_,_,_,_,rF,V,v1,v2,Ll⟩
    case step2=>
     rintro x3 c O _ ak ⟨L2,out,ia,ib,g,p,q,rfl,M2,w1,w2,w3⟩;dsimp only
     have run:∀(g':Nat)(R:ForInStep oB->SortSt->Prop),(∀L3:dP st (SortSt.mk' (kindOf O) (arrOf O) (pendingOf O) g'$ failedOf O),TO a b (W+aa+1) (SortSt.mk' (kindOf O) (arrOf O) (pendingOf O) g'$ failedOf O) R)->wpS (model prog w) A E s (tT a b out ia ib g' p q) R (SortSt.mk' (kindOf O) (arrOf O) (pendingOf O) g'$ failedOf O):=λg' R hR=>by
      have L3:dP st (SortSt.mk' (kindOf O) (arrOf O) (pendingOf O) g'$ failedOf O):=L2.trans ⟨rF,rF,rF,rF⟩;exact xU C (L3.kd.trans hk) ha hb M2 w1 w2 w3$ hR L3
     by_cases d0:g>1
     .rw [qAC d0];exact qAF$ qA7$ run (g-1) _ λL3=>⟨λr o i j g p q F=>⟨L3,.inl ⟨_,_,_,_,_,_,_,rF,F⟩⟩,λo i j g p q V h1 h2 h3=>⟨⟨L3,.inr ⟨_,_,_,_,_,_,rF,V,h1,h2,h3⟩⟩,⟨L3,_,_,_,_,_,_,rF,V,h1,h2,h3⟩⟩⟩
     .rw [qAB d0];exact qAF$ qA7$ run g _ λL3=>⟨λr o i j g p q F=>⟨L3,.inl ⟨_,_,_,_,_,_,_,rF,F⟩⟩,λo i j g p q V h1 h2 h3=>⟨⟨L3,.inr ⟨_,_,_,_,_,_,rF,V,h1,h2,h3⟩⟩,⟨L3,_,_,_,_,_,_,rF,V,h1,h2,h3⟩⟩⟩
abbrev gH:=Option (Array Keyed)×Nat×Nat×Array Keyed×Nat×Nat×Nat
def uA(a b o:Array Keyed)(i j g p q:Nat):StateT SortSt Sem (ForInStep gH):=do
 let x<-elem' a (i-1)
 if(i-1==0)=true then pure (.done (some (a.extract 0 (i-1)++b.extract 0 j++(o.push x).reverse),i-1,j,o.push x,g,p,q))
 else if(decide (p<7)&&decide (q<7))=true then pure (.done (none,i-1,j,o.push x,g,p,q))
 else pure (.yield (none,i-1,j,o.push x,g,p,q))
def uB(a b o:Array Keyed)(i j g p q:Nat):StateT SortSt Sem (ForInStep gH):=do
 let y<-elem' b (j-1)
 if(j-1==1)=true then pure (.done (some (b.extract 0 (j-1)++a.extract 0 i++(o.push y).reverse),i,j-1,o.push y,g,p,q))
 else do
  let x<-elem' a (i-1)
  let r<-gal true x b 0 (j-1) (j-1-1)
  match r with
  |some k=>
   if j-1-k>0 then
    if(k==1)=true then pure (.done (some (b.extract 0 k++a.extract 0 i++(o.push y++(b.extract k$ j-1).reverse).reverse),i,k,o.push y++(b.extract k$ j-1).reverse,g,p,j-1-k))
    else if(k==0)=true then pure (.done (some (a.extract 0 i++b.extract 0 k++(o.push y++(b.extract k$ j-1).reverse).reverse),i,k,o.push y++(b.extract k$ j-1).reverse,g,p,j-1-k))
    else uA a b (o.push y++(b.extract k$ j-1).reverse) i k g p (j-1-k)
   else uA a b (o.push y) i (j-1) g p (j-1-k)
  |_=>pure (.done (some (a.extract 0 i++b.extract 0 (j-1)++(o.push y).reverse),i,j-1,o.push y,g,p,q))
def uT(a b o:Array Keyed)(i j g p q:Nat):StateT SortSt Sem (ForInStep gH):=do
 let y<-elem' b (j-1)
 let r<-gal false y a 0 i (i-1)
 match r with
 |some k=>
  if i-k>0 then
   if(k==0)=true then pure (.done (some (a.extract 0 k++b.extract 0 j++(o++(a.extract k i).reverse).reverse),k,j,o++(a.extract k i).reverse,g,i-k,q))
   else uB a b (o++(a.extract k i).reverse) k j g (i-k) q
  else uB a b o i j g (i-k) q
 |_=>pure (.done (some (a.extract 0 i++b.extract 0 j++o.reverse),i,j,o,g,p,q))
def TH(a b:Array Keyed)(m:Nat)(st3:SortSt)(R:ForInStep gH->SortSt->Prop):Prop :=
 (∀r o i j g p q,Fn a b r->R (.done (some r,i,j,o,g,p,q)) st3)/\(∀o i j g p q,MH a b o i j->1<=i->1<j->i+j<=m->R (.done (none,i,j,o,g,p,q)) st3/\R (.yield (none,i,j,o,g,p,q)) st3)
section
variable{st3:SortSt}{o:Array Keyed}{i j g p q m:Nat}{R:ForInStep gH->SortSt->Prop}
theorem w9(V:∀x∈a.toList,Has κ x)(M:MH a b o i j)(hi:1<=i)(W:1<j)(hm:i+j<=m+1)(O:TH a b m st3 R):wpS (model prog w) A E s (uA a b o i j g p q) R st3:=by
 have aa:=M.la;obtain⟨n,rfl⟩:∃n,i=n+1:=⟨i-1,Ll⟩;obtain⟨x,ex,_⟩:=zCo V (show n<a.size by lia);have S:=M.tA ex;refine qAF$ zB2 ex ?_;show wpS _ _ _ _ (if(n==0)=true then _ else _) _ _
 by_cases d1:(n==0)=true
 .rw [qAC d1];exact qAH$ O.1 _ _ _ _ _ _ _ S.f1
 .have:=zAy d1;rw[qAB d1];have q:=O.2 _ _ _ g p q S Ll W Ll;split
  .exact qAH q.1
  .exact qAH q.2
theorem xf(C:CmpOk prog w A s kd κ)(hk:kindOf st3=kd)(S:∀x∈a.toList,Has κ x)(hb:∀x∈b.toList,Has κ x)(M:MH a b o i j)(hi:1<=i)(hj:1<j)(hm:i+j<=m+1)(O:TH a b m st3 R) :
  wpS (model prog w) A E s (uB a b o i j g p q) R st3:=by
 have aa:=M.la;have ad:=M.lb;obtain⟨n,rfl⟩:∃n,j=n+1:=⟨j-1,Ll⟩;obtain⟨y,ey,ae⟩:=zCo hb (show n<b.size by lia);obtain⟨x,ex,V⟩:=zCo S (show i-1<a.size by lia);have W:=M.tB ey;refine qAF$ zB2 ey ?_;show wpS _ _ _ _ (if(n==1)=true then _ else _) _ _
 by_cases d1:(n==1)=true
 .rw [qAC d1];exact qAH$ O.1 _ _ _ _ _ _ _ W.f2
 .have:=zAy d1;rw[qAB d1];refine qAF$ zB2 ex$ qAF$ gR C hk V (λi hi=>zCo hb$ show 0+i<b.size by have:i<n:=hi;lia) (show n-1<n by lia) λk k1=>?_;have k1:k<=n:=k1;have M3:=W.tBs k k1;show wpS _ _ _ _ (if n-k>0 then _ else _) _ _
  by_cases hk0:n-k>0
  .rw [qAC hk0]
   by_cases d2:(k==1)=true
   .rw [qAC d2];exact qAH$ O.1 _ _ _ _ _ _ _ M3.f2
   .rw [qAB d2]
    by_cases d3:(k==0)=true
    .rw [qAC d3];exact qAH$ O.1 _ _ _ _ _ _ _ M3.f1
    .have:=zAy d2;have:=zAy d3;rw[qAB d3];exact w9 S M3 hi Ll Ll O
  .rw [qAB hk0];exact w9 S W hi Ll (show i+n<=m+1 by lia) O
theorem xS(C:CmpOk prog w A s kd κ)(O:kindOf st3=kd)(S:∀x∈a.toList,Has κ x)(V:∀x∈b.toList,Has κ x)(M:MH a b o i j)(hi:1<=i)(hj:1<j)(hm:i+j<=m+1)(W:TH a b m st3 R):wpS (model prog w) A E s (uT a b o i j g p q) R st3:=by
 have ad:=M.la;have ae:=M.lb;obtain⟨y,ey,aa⟩:=zCo V (show j-1<b.size by lia);refine qAF$ zB2 ey$ qAF$ gR C O aa (λu hi=>zCo S$ show 0+u<a.size by have:u<i:=hi;lia) (show i-1<i by lia) λk k1=>?_;have k1:k<=i:=k1;have M3:=M.tAs k k1;show wpS _ _ _ _ (if i-k>0 then _ else _) _ _
 by_cases hk0:i-k>0
 .rw [qAC hk0]
  by_cases d1:(k==0)=true
  .rw [qAC d1];exact qAH$ W.1 _ _ _ _ _ _ _ M3.f1
  .have:=zAy d1;rw[qAB d1];exact xf C O S V M3 Ll hj Ll W
 .rw [qAB hk0];exact xf C O S V M hi hj hm W
end
theorem wM{Q:Array Keyed->SortSt->Prop}(C:CmpOk prog w A s kd κ)(hk:kindOf st=kd)(ha:∀x∈a.toList,Has κ x)(hb:∀x∈b.toList,Has κ x)(na:1<=a.size)(nb:1<=b.size)
  (h:∀r S,dP st S->Fn a b r->Q r S):wpS (model prog w) A E s (mHi a b) Q st:=by
 refine qAF$ qBu$ qBD ⟨rF,?_⟩;obtain⟨n,hn⟩:∃n,a.size=n+1:=⟨a.size-1,Ll⟩;obtain⟨x0,ex,hx⟩:=zCo ha (show n<a.size by lia);have en:a.size-1=n:=Ll
 refine qAF$ zB2 (p:=x0) (by rw[en];exact ex) ?_;have M0:MH a b #[] (n+1) b.size:=⟨Ll,Ll,λp=>by rw[<-hn,qBN (show a.toList.length<=a.size by simp),qBN$ show b.toList.length<=b.size by simp];simp⟩;have M1:MH a b #[x0] n b.size:=M0.tA ex;rw[<-en]at M1;show wpS _ _ _ _ (if(a.size-1==0)=true then _ else _) _ _
 by_cases c1:(a.size-1==0)=true
 .rw [qAC c1];exact qAH$ h _ _ (dP.refl _) M1.f1
 rw[qAB c1]
 by_cases c2:(b.size==1)=true
 .rw [qAC c2];exact qAH$ h _ _ (dP.refl _) M1.f2
 rw[qAB c2];have:=zAy c1;have:=zAy c2;refine qAF$ qBW ?_
 refine qAF$ qA3 (qA1 (I:=λx c S=>dP st S/\HiA a b x (a.size+b.size) c) (Q:=λc S=>dP st S/\FhA a b c) ?step ?fin ⟨dP.refl _,_,_,_,_,rF,M1,Ll,Ll,Ll⟩) ?post
 case fin=>
  rintro c S ⟨_,out,i,j,g,rfl,M,h1,h2,h3⟩;lia
 case post=>
  rintro c S ⟨L,r,out,i,j,g,rfl,F⟩;exact qAH$ h r S L F
 case step=>
  rintro x c aa _ ah ⟨L1,ag,i0,j0,g0,rfl,M,u1,u2,u3⟩;have ad:kindOf aa=kd:=L1.kd.trans hk;dsimp only
  refine qAF$ qA3 (qA1 (I:=λx c S=>S=aa/\HiB a b x (i0+j0) c) (Q:=λc S=>S=aa/\(FhB a b c\/HiB a b 1 (i0+j0) c)) ?step1 ?fin1 ⟨rF,_,_,_,_,_,rF,M,u1,u2,Ll⟩) ?post1
  case fin1=>
   rintro c S ⟨rfl,out,i,j,p,q,rfl,V,v1,v2,v3⟩;exact⟨rF,.inr ⟨out,i,j,p,q,rF,V,v1,v2,Ll⟩⟩
  case step1=>
   rintro x2 c S _ ai ⟨rfl,out,i,j,p,q,rfl,V,v1,v2,v3⟩;have aj:=V.la;have ak:=V.lb;obtain⟨n,rfl⟩:∃n,i=n+1:=⟨i-1,Ll⟩;obtain⟨m,rfl⟩:∃m,j=m+1:=⟨j-1,Ll⟩;obtain⟨yb,eb,ae⟩:=zCo hb (show m<b.size by lia);obtain⟨xa,ea,af⟩:=zCo ha (show n<a.size by lia);dsimp only;refine qAF$ zB2 eb$ qAF$ zB2 ea$ qAF$ w_lt C ad ae af ?_;generalize κ.blt (kk κ yb) (kk κ xa)=c;show wpS _ _ _ _ (if c=true then _ else _) _ _
   by_cases e:c=true
   .rw [qAC e];refine qAF$ zB2 ea ?_;have M2:=V.tA ea;show wpS _ _ _ _ (if(n==0)=true then _ else _) _ _
    by_cases d1:(n==0)=true
    .rw [qAC d1];exact qAH ⟨rF,.inl ⟨_,_,_,_,_,_,rF,M2.f1⟩⟩
    .have:=zAy d1;rw[qAB d1]
     by_cases d2:p+1>=g0
     .rw [qAC d2];exact qAH ⟨rF,.inr ⟨_,_,_,_,_,rF,M2,Ll,v2,Ll⟩⟩
     .rw [qAB d2];exact qAH ⟨rF,_,_,_,_,_,rF,M2,Ll,v2,Ll⟩
   .rw [qAB e];refine qAF$ zB2 eb ?_;have M2:=V.tB eb;show wpS _ _ _ _ (if(m==1)=true then _ else _) _ _
    by_cases d1:(m==1)=true
    .rw [qAC d1];exact qAH ⟨rF,.inl ⟨_,_,_,_,_,_,rF,M2.f2⟩⟩
    .have:=zAy d1;rw[qAB d1]
     by_cases d2:q+1>=g0
     .rw [qAC d2];exact qAH ⟨rF,.inr ⟨_,_,_,_,_,rF,M2,v1,Ll,Ll⟩⟩
     .rw [qAB d2];exact qAH ⟨rF,_,_,_,_,_,rF,M2,v1,Ll,Ll⟩
  case post1=>
   rintro c S ⟨rfl,⟨r,out,i,j,p,q,rfl,F⟩|⟨out,i,j,p,q,rfl,V,v1,v2,v3⟩⟩
   .exact qAH ⟨L1,_,_,_,_,_,rF,F⟩
   .dsimp only;refine qAF$ qBu$ qBD ⟨rF,?_⟩
    refine qAF$ qA3 (qA1 (I:=λx c S=>dP st S/\HiD a b 1 (i0+j0) c) (Q:=λc S=>dP st S/\(FhD a b c\/HiD a b 1 (i0+j0) c)) ?step2 ?fin2 ⟨L1,_,_,_,_,_,_,rF,V,v1,v2,v3⟩) ?post2
    case fin2=>
     rintro c S ⟨L,v⟩;exact⟨L,.inr v⟩
    case post2=>
     rintro c S ⟨L,⟨r,out,i,j,g,p,q,rfl,F⟩|⟨out,i,j,g,p,q,rfl,V,v1,v2,v3⟩⟩
     .exact qAH ⟨L,_,_,_,_,_,rF,F⟩
     .dsimp only;refine qAF$ qA7$ qAH ⟨L.trans ⟨rF,rF,rF,rF⟩,_,_,_,_,rF,V,v1,v2,Ll⟩
    case step2=>
     rintro x3 c O _ al ⟨L2,out,i,j,g,p,q,rfl,M2,w1,w2,w3⟩;dsimp only
     have run:∀(g':Nat)(R:ForInStep gH->SortSt->Prop),(∀W:dP st (SortSt.mk' (kindOf O) (arrOf O) (pendingOf O) g'$ failedOf O),TH a b (i0+j0-1) (SortSt.mk' (kindOf O) (arrOf O) (pendingOf O) g'$ failedOf O) R)->wpS (model prog w) A E s (uT a b out i j g' p q) R (SortSt.mk' (kindOf O) (arrOf O) (pendingOf O) g'$ failedOf O):=λg' R hR=>by
      have W:dP st (SortSt.mk' (kindOf O) (arrOf O) (pendingOf O) g'$ failedOf O):=L2.trans ⟨rF,rF,rF,rF⟩;exact xS C (W.kd.trans hk) ha hb M2 w1 w2 Ll$ hR W
     by_cases d0:g>1
     .rw [qAC d0];exact qAF$ qA7$ run (g-1) _ λW=>⟨λr o i j g p q F=>⟨W,.inl ⟨_,_,_,_,_,_,_,rF,F⟩⟩,λo i j g p q V h1 h2 h3=>⟨⟨W,.inr ⟨_,_,_,_,_,_,rF,V,h1,h2,Ll⟩⟩,⟨W,_,_,_,_,_,_,rF,V,h1,h2,Ll⟩⟩⟩
     .rw [qAB d0];exact qAF$ qA7$ run g _ λW=>⟨λr o i j g p q F=>⟨W,.inl ⟨_,_,_,_,_,_,_,rF,F⟩⟩,λo i j g p q V h1 h2 h3=>⟨⟨W,.inr ⟨_,_,_,_,_,_,rF,V,h1,h2,Ll⟩⟩,⟨W,_,_,_,_,_,_,rF,V,h1,h2,Ll⟩⟩⟩
end
section
variable{prog:Program}{w:World}{A:Around}{E:Value->Shared->Prop}{s:Shared}{kd:SortKind}{κ:KeyKind}
structure Fr(st st':SortSt):Prop where
 kd:kindOf st'=kindOf st
 pn:pendingOf st'=pendingOf st
 fl:failedOf st'=failedOf st
 perm:(arrOf st').Perm (arrOf st)
theorem Fr.refl(st:SortSt):Fr st st:=⟨rF,rF,rF,Array.Perm.refl _⟩
theorem Fr.trans{a b c:SortSt}(h:Fr a b)(k:Fr b c):Fr a c:=⟨k.kd.trans h.kd,k.pn.trans h.pn,k.fl.trans h.fl,k.perm.trans h.perm⟩
theorem Fr.size{a b:SortSt}(h:Fr a b):(arrOf b).size=(arrOf a).size:=h.perm.size_eq
theorem Fr.rev(st:SortSt)(i j k:Nat):Fr st (setArr st$ mirror (arrOf st) i j k):=⟨rF,rF,rF,mirror_perm _ _ _ _⟩
def All(κ:KeyKind)(st:SortSt):Prop:=∀x∈(arrOf st).toList,Has κ x
theorem All.fr{a b:SortSt}(h:All κ a)(f:Fr a b):All κ b:=λx O=>h x$ (qC3.mp f.perm).mem_iff.mp O
theorem All.at(h:All κ st)(hi:i<(arrOf st).size):∃p,(arrOf st)[i]?=some p/\Has κ p:=zCo h hi
theorem j8{j:Nat}{Q:Option Bool->SortSt->Prop}(C:CmpOk prog w A s kd κ)(S:kindOf st=kd)(O:All κ st)(hi:i<(arrOf st).size)(V:j<(arrOf st).size)(h:∀c,Q (some c) st):wpS (model prog w) A E s (ltAt' i j) Q st:=uY C S (O.at hi) (O.at V)$ h _
theorem ux{O:Nat}{Q:α->SortSt->Prop}(C:CmpOk prog w A s kd κ)(hk:kindOf st=kd)(al:All κ st)(hn:lo+nrem<=(arrOf st).size)(h1:1<=O)(h2:O<=nrem)
  (F:Nat->Option (Option Nat)×Nat->StateT SortSt Sem (ForInStep$ Option (Option Nat)×Nat)) (hF:∀x n,F x (none,n)=(do
   let c<-ltAt' (lo+n) (lo+n-1)
   match c with
   |some c=>if c=true then pure (ForInStep.done (none,n))else pure (ForInStep.yield (none,n+1))
   |_=>pure (ForInStep.done (some none,n)))) (G:Option (Option Nat)×Nat->StateT SortSt Sem α)
  (W:∀n,O<=n->n<=nrem->wpS (model prog w) A E s (G (none,n)) Q st) :
  wpS (model prog w) A E s (forIn [O:nrem] ((none,O):Option (Option Nat)×Nat) F >>= G) Q st:=by
 refine qAF$ qA1 (I:=λx c S=>S=st/\c=(none,x)/\x<=nrem) ?step ?fin ⟨rF,rF,h2⟩
 case fin=>
  rintro c S ⟨rfl,rfl,h3⟩;rw[show max O nrem=nrem by lia];exact W nrem h2$ qAG _
 case step=>
  rintro x c S V aa ⟨rfl,rfl,h3⟩;rw[hF];refine qAF$ j8 C hk al Ll Ll λc=>?_;show wpS _ _ _ _ (if c=true then _ else _) _ _;split
  .exact qAH$ W x V h3
  .exact qAH ⟨rF,rF,Ll⟩
theorem im{Q:Option Nat->SortSt->Prop}(C:CmpOk prog w A s kd κ)(O:kindOf st=kd)(V:All κ st)(W:lo+nrem<=(arrOf st).size)(h1:1<=n)(h2:n<=nrem)
  (F:Nat->Option (Option Nat)×Nat->StateT SortSt Sem (ForInStep$ Option (Option Nat)×Nat)) (hF:∀x n,F x (none,n)=(do
   let c<-ltAt' (lo+n) (lo+n-1)
   match c with
   |some c=>if c=true then pure (ForInStep.done (none,n))else pure (ForInStep.yield (none,n+1))
   |_=>pure (ForInStep.done (some none,n)))) (G:Option (Option Nat)×Nat->StateT SortSt Sem (Option Nat)) (hG:∀n,G (none,n)=pure (some n))
  (h:∀m S,Fr st S->1<=m->m<=nrem->Q (some m) S) :
  wpS (model prog w) A E s (reverseSlice' lo (lo+n) >>= λ_=>forIn [n:nrem] ((none,n):Option (Option Nat)×Nat) F >>= G) Q st:=by
 have f:=Fr.rev st lo (lo+n)$ (lo+n-lo) / 2;refine qAF$ qCh ?_;refine ux C (f.kd.trans O) (V.fr f) (by rw[f.size];exact W) h1 h2 F hF G λm m1 m2=>?_;rw[hG];exact qAH$ h m _ f Ll m2
theorem pK{O:Nat}{Q:α->SortSt->Prop}(C:CmpOk prog w A s kd κ)(hk:kindOf st=kd)(al:All κ st)(hn:lo+nrem<=(arrOf st).size)(h1:1<=O)(h2:O<=nrem)
  (F:Nat->Option (Option Nat)×Nat×Nat->StateT SortSt Sem (ForInStep$ Option (Option Nat)×Nat×Nat)) (hF:∀x n q,F x (none,n,q)=(ltAt' (lo+n) (lo+n-1) >>= λc=>match c with
   |some c=>(if c=true then(if q>0 then(reverseSlice' (lo+n-(q+1)) (lo+n) >>= λ_=>pure$ ForInStep.yield (none,n+1,0))else pure (ForInStep.yield (none,n+1,0)))
    else(ltAt' (lo+n-1) (lo+n) >>= λd=>match d with
     |some d=>(if d=true then pure (ForInStep.done (none,n,q))else pure (ForInStep.yield (none,n+1,q+1)))
     |_=>pure (ForInStep.done (some none,n,q))))
   |_=>pure (ForInStep.done (some none,n,q)))) (G:Option (Option Nat)×Nat×Nat->StateT SortSt Sem α)
  (hG:∀n q S,Fr st S->O<=n->n<=nrem->wpS (model prog w) A E s (G (none,n,q)) Q S) :
  wpS (model prog w) A E s (forIn [O:nrem] ((none,O,0):Option (Option Nat)×Nat×Nat) F >>= G) Q st:=by
 refine qAF$ qA1 (I:=λx c S=>Fr st S/\∃q,c=(none,x,q)/\x<=nrem) ?step ?fin ⟨Fr.refl _,0,rF,h2⟩
 case fin=>
  rintro c S ⟨f,q,rfl,h3⟩;rw[show max O nrem=nrem by lia];exact hG nrem q S f h2$ qAG _
 case step=>
  rintro x c S aa ad ⟨f,q,rfl,h3⟩;have hz:(arrOf S).size=(arrOf st).size:=f.size;have V:=al.fr f;have W:=f.kd.trans hk;rw[hF];refine qAF$ j8 C W V Ll Ll λc=>?_;show wpS _ _ _ _ (if c=true then _ else _) _ _
  by_cases e:c=true
  .rw [qAC e]
   by_cases hq:q>0
   .rw [qAC hq];exact qAF$ qCh$ qAH ⟨f.trans$ Fr.rev _ _ _ _,0,rF,Ll⟩
   .rw [qAB hq];exact qAH ⟨f,0,rF,Ll⟩
  .rw [qAB e];refine qAF$ j8 C W V Ll Ll λd=>?_;show wpS _ _ _ _ (if d=true then _ else _) _ _
   by_cases e2:d=true
   .rw [qAC e2];exact qAH$ hG x q S f aa h3
   .rw [qAB e2];exact qAH ⟨f,q+1,rF,Ll⟩
theorem sC{Q:Option Nat->SortSt->Prop}(C:CmpOk prog w A s kd κ)(V:kindOf st=kd)(W:All κ st)(hn:lo+nrem<=(arrOf st).size)(h1:1<=nrem)
  (h:∀m S,Fr st S->1<=m->m<=nrem->Q (some m) S):wpS (model prog w) A E s (countRun' lo nrem) Q st:=by
 refine ux C V W hn (qAG 1) h1 _ (λx n=>rfl) _ λn n1 n2=>?_;show wpS _ _ _ _ (if(n==nrem)=true then _ else _) _ _
 by_cases c:(n==nrem)=true
 .rw [qAC c];exact qAH$ h n st (Fr.refl _) n1 n2
 rw[qAB c];have c':=zAy c;show wpS _ _ _ _ (if n>1 then _ else _) _ _
 by_cases g:n>1
 .rw [qAC g];refine qAF$ j8 C V W Ll Ll λc=>?_;show wpS _ _ _ _ (if c=true then _ else _) _ _
  by_cases e:c=true
  .rw [qAC e];exact qAH$ h n st (Fr.refl _) n1 n2
  .rw [qAB e];have f1:=Fr.rev st lo (lo+n)$ (lo+n-lo) / 2;refine qAF$ qCh ?_;refine qAF$ qBu$ qBD ⟨rF,?_⟩;refine pK C (f1.kd.trans V) (W.fr f1) (by rw[f1.size];exact hn) Ll Ll _ (λx n q=>rfl) _ λm q aa f2 m1 m2=>?_;have f2:=f1.trans f2;show wpS _ _ _ _ (if q>0 then _ else _) _ _
   by_cases hq:q>0
   .rw [qAC hq];have O:=f2.trans$ Fr.rev aa (lo+m-(q+1)) (lo+m)$ (lo+m-(lo+m-(q+1))) / 2;refine qAF$ qCh ?_;exact im C (O.kd.trans V) (W.fr O) (by rw[O.size];exact hn) Ll m2 _ (λx n=>rfl) _ (λn=>rfl) λm' S f'=>h m' S$ O.trans f'
   .rw [qAB hq];exact im C (f2.kd.trans V) (W.fr f2) (by rw[f2.size];exact hn) Ll m2 _ (λx n=>rfl) _ (λn=>rfl) λm' S f'=>h m' S$ f2.trans f'
 .rw [qAB g];have en:n=1:=Ll
  subst en;refine qAF$ qBu$ qBD ⟨rF,?_⟩;refine pK C V W hn Ll Ll _ (λx n q=>rfl) _ λm q aa f2 m1 m2=>?_;show wpS _ _ _ _ (if q>0 then _ else _) _ _
  by_cases hq:q>0
  .rw [qAC hq];have O:=f2.trans$ Fr.rev aa (lo+m-(q+1)) (lo+m)$ (lo+m-(lo+m-(q+1))) / 2;refine qAF$ qCh ?_;exact im C (O.kd.trans V) (W.fr O) (by rw[O.size];exact hn) Ll m2 _ (λx n=>rfl) _ (λn=>rfl) λm' S f'=>h m' S$ O.trans f'
  .rw [qAB hq];exact im C (f2.kd.trans V) (W.fr f2) (by rw[f2.size];exact hn) Ll m2 _ (λx n=>rfl) _ (λn=>rfl) λm' S f'=>h m' S$ f2.trans f'
theorem xz{ok:Nat}{Q:Bool->SortSt->Prop}(C:CmpOk prog w A s kd κ)(hk:kindOf st=kd)(al:All κ st)(hn:lo+n<=(arrOf st).size)
  (h:∀S,Fr st S->Q true S):wpS (model prog w) A E s (binarySort' lo n ok) Q st:=by
 refine qAF$ qA3 (qA1 (I:=λk c S=>c=(none,())/\Fr st S) (Q:=λc S=>c=(none,())/\Fr st S) ?step (λc S h=>h) ⟨rF,Fr.refl _⟩) ?post
 case post=>
  rintro c S ⟨rfl,f⟩;exact qAH$ h S f
 case step=>
  rintro k c S aa ad ⟨rfl,f⟩;have hz:(arrOf S).size=(arrOf st).size:=f.size
  refine qAF$ qA3 (qA1 (I:=λx c O=>O=S/\∃l r,c=(none,l,r)/\l<=r/\r<=k) (Q:=λc O=>O=S/\∃l r,c=(none,l,r)/\l<=r/\r<=k) ?s2 (λc S h=>h) ⟨rF,0,k,rF,Ll,Ll⟩) ?p2
  case s2=>
   rintro x c O _ hx ⟨rfl,l,r,rfl,V,W⟩;dsimp only
   by_cases g:l>=r
   .rw [qAC g];exact qAH ⟨rF,l,r,rF,V,W⟩
   .rw [qAB g];refine qAF$ j8 C (f.kd.trans hk) (al.fr f) Ll Ll λc=>?_;show wpS _ _ _ _ (if c=true then _ else _) _ _;split
    .exact qAH ⟨rF,l,(l+r) / 2,rF,Ll,Ll⟩
    .exact qAH ⟨rF,(l+r) / 2+1,r,rF,Ll,Ll⟩
  case p2=>
   rintro c O ⟨rfl,l,r,rfl,V,W⟩;show wpS _ _ _ _ (moveDown' (lo+k) (lo+l) >>= λ_=>pure$ ForInStep.yield (none,())) _ _;rw[moveDown'_eq];exact qAF$ qA7$ qAH ⟨rF,f.trans ⟨rF,rF,rF,bubble_perm _ _ _⟩⟩
theorem xp{M:Model}{σ:Type}{st S:σ}{Q:PUnit->σ->Prop}(h:Q ⟨⟩ S):wpS M A E s (set S:StateT σ Sem PUnit) Q st:=by
 unfold wpS;rw[StateT.run_set];exact qAE ⟨rF,h⟩
theorem pC:∀(m:List Keyed)(O:Array Keyed)(S k:Nat),S+k+m.length<=O.size ->
  ((m.zipIdx k).foldl (λa x=>match x with|(p,j)=>a.setIfInBounds (S+j) p) O).toList=O.toList.take (S+k)++m++O.toList.drop (S+k+m.length)
 |[],O,S,k,_=>ss
 |p::r,O,S,k,h=>by
  rw[qAa]at h;have V:S+k<O.size:=Ll
  rw[List.zipIdx_cons,qBr];show((r.zipIdx$ k+1).foldl _$ O.setIfInBounds (S+k) p).toList=_;rw[pC r (O.setIfInBounds (S+k) p) S (k+1)$ by rw[qDF];lia];have e:(O.setIfInBounds (S+k) p).toList=O.toList.set (S+k) p:=ss
  have W:S+k<O.toList.length:=by simpa using V
  rw[e,show S+(k+1)=S+k+1 by lia,qAa,show S+k+(r.length+1)=S+k+1+r.length by lia]
  have e1:(O.toList.set (S+k) p).take (S+k+1)=O.toList.take (S+k)++[p]:=by
   rw[qC1,qCE W,List.take_set_of_le$ qAG _];rfl
  have e2:(O.toList.set (S+k) p).drop (S+k+1+r.length)=O.toList.drop (S+k+1+r.length):=List.drop_set_of_lt Ll;rw[e1,e2];simp
theorem zJu{a:Array Keyed}(h:∀x∈a.toList,Has κ x)(i j:Nat):∀x∈(a.extract i j).toList,Has κ x:=λx O=>by
 rw[qBi,List.extract_eq_drop_take]at O;exact h x$ qCz$ qBj O
theorem oA{S O pw nb ah:Nat}{Q:Bool->SortSt->Prop}(C:CmpOk prog w A s kd κ)(hk:kindOf st=kd)(al:All κ st)(ai:(pendingOf st)[i]?=some (S,O,pw))(aj:(pendingOf st)[i+1]?=some (S+O,nb,ah))
  (h1:1<=O) (h2:1<=nb) (hz:S+O+nb<=(arrOf st).size) (af:failedOf st=none)
  (h:∀ad,kindOf ad=kindOf st->failedOf ad=none->pendingOf ad=((pendingOf st).setIfInBounds i (S,O+nb,pw)).eraseIdxIfInBounds (i+1)->(arrOf ad).Perm (arrOf st)->Q true ad):wpS (model prog w) A E s (mergeAt' i) Q st:=by
 obtain⟨W,e1⟩:∃W:SortSt,W=setPending st (((pendingOf st).setIfInBounds i (S,O+nb,pw)).eraseIdxIfInBounds$ i+1):=⟨_,rF⟩;have ka:kindOf W=kindOf st:=by rw[e1]
 have fa:failedOf W=failedOf st:=by rw[e1]
 have pa:pendingOf W=((pendingOf st).setIfInBounds i (S,O+nb,pw)).eraseIdxIfInBounds (i+1):=by rw[e1]
 have aa:arrOf W=arrOf st:=by rw[e1]
 have plain:Q true W:=h W ka (fa.trans af) pa (by rw[aa]);refine qAF$ qBW ?_;show wpS _ _ _ _ (match ((pendingOf st)[i]?,(pendingOf st)[i+1]?)with|_=>_) _ _;rw[ai,aj];refine qAF$ xp ?_;show wpS _ _ _ _ _ _ (setPending st$ ((pendingOf st).setIfInBounds i (S,O+nb,pw)).eraseIdxIfInBounds$ i+1);rw[<-e1];obtain⟨y0,ak,am⟩:=al.at (show S+O<(arrOf st).size by lia);refine qAF$ zB2 ak ?_;refine qAF$ gR C (ka.trans hk) am (λj hj=>al.at Ll) (show 0<O by lia) λk ao=>?_;show wpS _ _ _ _ (if(O-k==0)=true then _ else _) _ _
 by_cases c1:(O-k==0)=true
 .rw [qAC c1];exact qAH plain
 rw[qAB c1];have c1:=zAy c1;obtain⟨z,ez,an⟩:=al.at (show S+k+(O-k)-1<(arrOf st).size by lia);refine qAF$ zB2 ez ?_;refine qAF$ gR C (ka.trans hk) an (λj hj=>al.at Ll) (show nb-1<nb by lia) λm ap=>?_;show wpS _ _ _ _ (if(m==0)=true then _ else _) _ _
 by_cases c2:(m==0)=true
 .rw [qAC c2];exact qAH plain
 rw[qAB c2];have c2:=zAy c2;have zX:((arrOf st).extract (S+k)$ S+O).size=O-k:=by simp;lia
 have zY:((arrOf st).extract (S+O)$ S+O+m).size=m:=by simp;lia
 have fin:∀(r:Array Keyed)(V:SortSt),dP W V->Fn ((arrOf st).extract (S+k)$ S+O) ((arrOf st).extract (S+O)$ S+O+m) r ->
   wpS (model prog w) A E s (modify (λs:SortSt=>SortSt.mk' (kindOf s) (r.toList.zipIdx.foldl (λa x=>match x with|(p,j)=>a.setIfInBounds (S+k+j) p)$ arrOf s) (pendingOf s) (gallopOf s)$ failedOf s) >>= λ_=>(get:StateT SortSt Sem SortSt) >>= λs=>pure (failedOf s).isNone) Q V:=λr V L F=>by
  have ae:arrOf V=arrOf st:=L.ar.trans aa;have ag:failedOf V=none:=L.fl.trans$ fa.trans af
  have lr:r.toList.length=O-k+m:=by
   have:=F λ_=>true;simp only[List.countP_true,qB2,zX,zY]at this;simpa using this
  have sp:=pC r.toList (arrOf V) (S+k) 0 (by rw[ae];lia);rw[ae,qCx,lr]at sp;refine qAF$ qA7$ qAF$ qBW ?_;have e3:(failedOf V).isNone=true:=by rw[ag];rfl
  show wpS _ _ _ _ (pure (failedOf V).isNone) _ _;rw[e3,ae];generalize hR:(r.toList.zipIdx.foldl (λa x=>match x with|(p,j)=>a.setIfInBounds (S+k+j) p)$ arrOf st)=R at sp;refine qAH$ h _ (L.kd.trans ka) ag (L.pn.trans pa) ?_;show R.Perm (arrOf st);refine qC3.mpr$ rV λp=>?_;have h1:=F p;have h2:=cd (a:=arrOf st) (show S+k<=S+O by lia) p;have h3:=cd (a:=arrOf st) (show S+O<=S+O+m by lia) p;have h4:=qAl (List.countP p)$ qBb (S+k) (arrOf st).toList;rw[qCB]at h4;rw[sp,qCB,qCB,show S+k+(O-k+m)=S+O+m by lia];lia
 show wpS _ _ _ _ (if O-k<=m then _ else _) _ _
 by_cases c3:O-k<=m
 .rw [qAC c3];exact qAF$ xv (a:=(arrOf st).extract (S+k)$ S+O) (b:=(arrOf st).extract (S+O)$ S+O+m) C (ka.trans hk) (zJu al _ _) (zJu al _ _) (by rw[zX];lia) (by rw[zY];lia) λr V L F=>fin r V L F
 .rw [qAB c3];exact qAF$ wM (a:=(arrOf st).extract (S+k)$ S+O) (b:=(arrOf st).extract (S+O)$ S+O+m) C (ka.trans hk) (zJu al _ _) (zJu al _ _) (by rw[zX];lia) (by rw[zY];lia) λr V L F=>fin r V L F
end
def Ch:List (Nat×Nat×Nat)->Nat->Nat->Prop
 |[],s,e=>s=e
 |(a,n,_)::r,s,e=>a=s/\1<=n/\Ch r (s+n) e
theorem Ch.app{P Q:List (Nat×Nat×Nat)}:∀{s e:Nat},Ch (P++Q) s e↔∃m,Ch P s m/\Ch Q m e:=by
 induction P with
 |nil=>intro s e;exact⟨λh=>⟨s,rF,h⟩,λ⟨m,h1,h2⟩=>by have h1:s=m:=h1;rw[h1];exact h2⟩
 |cons x P O=>
  obtain⟨a,n,q⟩:=x;intro s e;constructor
  .rintro ⟨h1,h2,h3⟩;obtain⟨m,k1,k2⟩:=O.mp h3;exact⟨m,⟨h1,h2,k1⟩,k2⟩
  .rintro ⟨m,⟨h1,h2,h3⟩,h4⟩;exact⟨h1,h2,O.mpr ⟨m,h3,h4⟩⟩
theorem Ch.bnd:∀{P:List (Nat×Nat×Nat)} {s e:Nat},Ch P s e->s+P.length<=e
 |[],s,e,h=>qCU h
 |(a,n,t)::r,s,e,h=>by
  have:=Ch.bnd h.2.2;have:=h.2.1;rw[qAa];lia
theorem nA(P:List α)(x y v:α)(T:List α):((P++x::y::T).set P.length v).eraseIdx (P.length+1)=P++v::T:=by
 induction P with
 |nil=>rfl
 |cons p P O=>
  show p::((P++x::y::T).set P.length v).eraseIdx (P.length+1)=p::(P++v::T);rw[O]
theorem two_at :∀{L:List α}{i:Nat},i+1<L.length->∃P x y T,L=P++x::y::T/\P.length=i
 |[],i,h=>by simp at h
 |[_],i,h=>by simp at h
 |a::b::L,0,_=>⟨[],a,b,L,rF,rF⟩
 |a::b::L,i+1,h=>by
  obtain⟨P,x,y,T,e,l⟩:=two_at (L:=b::L) (i:=i) (by simp at h ⊢;lia);exact⟨a::P,x,y,T,by rw[e];rfl,by simp[l]⟩
theorem qR:∀{L O:List (Nat×Nat×Nat)} {s e:Nat},O.map (λq=>(q.1,q.2.1))=L.map (λq=>(q.1,q.2.1))->Ch L s e->Ch O s e
 |[],[],_,_,_,h=>h
 |[],_::_,_,_,h,_=>by simp at h
 |_::_,[],_,_,h,_=>by simp at h
 |(a,n,t)::r,(b,m,u)::W,s,e,h,c=>by
  simp at h;obtain⟨⟨h1,h2⟩,h3⟩:=h;obtain⟨c1,S,V⟩:=c;subst h1;subst h2;exact⟨c1,S,qR (by simpa using h3) V⟩
theorem se{f:Nat×Nat×Nat->Nat×Nat×Nat}(O:∀q,(f q).1=q.1/\(f q).2.1=q.2.1)(p:Array (Nat×Nat×Nat))(i:Nat):(p.modify i f).toList.map (λq=>(q.1,q.2.1))=p.toList.map (λq=>(q.1,q.2.1)):=by
 apply List.ext_getElem?;intro k;rw[qAY,qAY,qAo,qAo,Array.getElem?_modify];split
 .cases h:p[k]? with
  |none=>rfl
  |some q=>
   have:=O q;simp[this.1,this.2]
 .rfl
section
variable{prog:Program}{w:World}{A:Around}{E:Value->Shared->Prop}{s:Shared}{kd:SortKind}{κ:KeyKind}{a₀:Array Keyed}
structure Rn(kd:SortKind)(a₀:Array Keyed)(lo:Nat)(st:SortSt):Prop where
 kd:kindOf st=kd
 fl:failedOf st=none
 perm:(arrOf st).Perm a₀
 ch:Ch (pendingOf st).toList 0 lo
theorem Rn.all(R:Rn kd a₀ lo st)(h:∀x∈a₀.toList,Has κ x):All κ st:=λx O=>h x$ (qC3.mp R.perm).mem_iff.mp O
theorem mU{Q:Bool->SortSt->Prop}(C:CmpOk prog w A s kd κ)(ha:∀x∈a₀.toList,Has κ x)(R:Rn kd a₀ lo st)(hl:lo<=a₀.size)(hi:i+1<(pendingOf st).size)
  (h:∀S,Rn kd a₀ lo S->(pendingOf S).size+1=(pendingOf st).size->Q true S):wpS (model prog w) A E s (mergeAt' i) Q st:=by
 obtain⟨P,⟨O,V,pw⟩,⟨sb,W,aa⟩,T,e,l⟩:=two_at (L:=(pendingOf st).toList) (i:=i) (by simpa using hi);have hz:(arrOf st).size=a₀.size:=R.perm.size_eq;have ch:=R.ch;rw[e]at ch;obtain⟨m,c1,d1,d2,d3,d4,d5⟩:=Ch.app.mp ch;subst d1;subst d3;have b2:=d5.bnd
 have e1:(pendingOf st)[i]?=some (O,V,pw):=by
  rw[<-qAo,e,<-l];simp
 have e2:(pendingOf st)[i+1]?=some (O+V,W,aa):=by
  rw[<-qAo,e,<-l,qBJ Ll];simp
 refine oA C R.kd (R.all ha) e1 e2 d2 d4 Ll R.fl λS k1 k2 k3 k4=>?_
 have ep:(pendingOf S).toList=P++(O,V+W,pw)::T:=by
  have hb:i+1<((pendingOf st).setIfInBounds i (O,V+W,pw)).size:=by rw[qDF];exact hi
  rw[k3,Array.eraseIdxIfInBounds,dif_pos hb,Array.toList_eraseIdx,Array.toList_setIfInBounds,e,<-l];exact nA P _ _ _ T
 refine h S ⟨k1.trans R.kd,k2,k4.trans R.perm,?_⟩ ?_
 .rw [ep];refine Ch.app.mpr ⟨O,c1,rF,Ll,?_⟩;rw[show O+(V+W)=O+V+W by lia];exact d5
 .have h1:=qAl List.length ep;have h2:=qAl List.length e;simp at h1 h2;lia
theorem Rn.modify(R:Rn kd a₀ lo st){f:Nat×Nat×Nat->Nat×Nat×Nat}(O:∀q,(f q).1=q.1/\(f q).2.1=q.2.1)(i:Nat):Rn kd a₀ lo (setPending st$ (pendingOf st).modify i f):=⟨R.kd,R.fl,R.perm,qR (se O (pendingOf st) i) R.ch⟩
theorem qX(c:Prop)[Decidable c](a:Nat):(if c then a-1 else a)<=a:=by split<;>lia
theorem w_sort{Q:Unit->SortSt->Prop}(C:CmpOk prog w A s kd κ)(ha:∀x∈a₀.toList,Has κ x)(hk:kindOf st=kd)(hf:failedOf st=none)(hp:(arrOf st).Perm a₀)(al:pendingOf st=#[])(h1:1<=a₀.size)
  (h:∀S,failedOf S=none->(arrOf S).Perm a₀->Q () S):wpS (model prog w) A E s sortRuns' Q st:=by
 have ai:(arrOf st).size=a₀.size:=hp.size_eq;have aj:(arrOf st).size=a₀.size:=ai;unfold arrOf at aj;refine qAF$ qBW ?_;have R0:Rn kd a₀ 0 st:=⟨hk,hf,hp,by rw[al];rfl⟩;refine qAF$ qA3 (qA1 (I:=λx c S=>∃lo,c=(none,lo)/\Rn kd a₀ lo S/\lo<=a₀.size/\(x<=lo\/lo=a₀.size)) (Q:=λc S=>∃lo,c=(none,lo)/\Rn kd a₀ a₀.size S) ?step ?fin ⟨0,rF,R0,Ll,.inl Ll⟩) ?post
 case fin=>
  rintro c S ⟨lo,rfl,R,l1,l2⟩
  have:lo=a₀.size:=by
   have:max 0 (arrOf st).size=a₀.size:=Ll
   rcases l2 with z|z
   .lia
   .exact z
  subst this;exact⟨_,rF,R⟩
 case step=>
  rintro x c ag _ hx ⟨lo,rfl,R,l1,l2⟩;show wpS _ _ _ _ (if lo>=(arrOf st).size then _ else _) _ _
  by_cases g:lo>=(arrOf st).size
  .rw [qAC g];have:lo=a₀.size:=Ll
   subst this;exact qAH ⟨_,rF,R⟩
  rw[qAB g];have ak:(arrOf ag).size=a₀.size:=R.perm.size_eq;refine qAF$ sC C R.kd (R.all ha) (by rw[ai,ak];lia) Ll λm aa f2 m1 m2=>?_;have ae:∀{S:SortSt},Fr ag S->Rn kd a₀ lo S:=λ{S} f=>⟨f.kd.trans R.kd,f.fl.trans R.fl,f.perm.trans R.perm,by rw[f.pn];exact R.ch⟩
  have push:∀{n:Nat}{O:SortSt},1<=n->Rn kd a₀ lo O->Rn kd a₀ (lo+n) (setPending O$ (pendingOf O).push (lo,n,0)):=λ{n O} n1 V=>by
   refine⟨V.kd,V.fl,V.perm,?_⟩;show Ch ((pendingOf O).push (lo,n,0)).toList 0 (lo+n);rw[qCK];exact Ch.app.mpr ⟨lo,V.ch,rF,n1,rF⟩
  have af:∀(O:SortSt)(pw:Nat),Rn kd a₀ lo O->∀(R:ForInStep (Option Unit×Unit)->SortSt->Prop),(∀S,Rn kd a₀ lo S->R (.done (none,())) S/\R (.yield (none,())) S) ->
    wpS (model prog w) A E s ((get:StateT SortSt Sem SortSt) >>= λv=>match (if(pendingOf v).size>1 then(pendingOf v)[(pendingOf v).size-2]? else none)with
       |some (_,_,ah)=>(if ah<=pw then pure (ForInStep.done (none,()))else(mergeAt' ((pendingOf v).size-2) >>= λb=>if(!b)=true then pure (ForInStep.done (some (),()))else pure (ForInStep.yield (none,()))))
       |_=>pure (ForInStep.done (none,()))) R O:=by
   intro O pw V Rr hR;refine qAF$ qBW ?_
   by_cases c1:(pendingOf O).size>1
   .rw [qAC c1];rcases ho:(pendingOf O)[(pendingOf O).size-2]? with _|⟨o1,o2,o3⟩
    .exact qAH (hR O V).1
    .show wpS _ _ _ _ (if o3<=pw then _ else _) _ _
     by_cases c2:o3<=pw
     .rw [qAC c2];exact qAH (hR O V).1
     .rw [qAB c2];exact qAF$ mU C ha V l1 Ll λad R5 _=>qAH (hR ad R5).2
   .rw [qAB c1];exact qAH (hR O V).1
  have W:∀{n:Nat}{ad:SortSt},1<=n->Rn kd a₀ (lo+n) ad->lo+n<=a₀.size->∃l,((none,lo+n):Option Unit×Nat)=(none,l)/\Rn kd a₀ l ad/\l<=a₀.size/\(x+1<=l\/l=a₀.size):=λ{n ad} n1 R5 n2=>⟨_,rF,R5,n2,.inl Ll⟩
  by_cases c1:m<minRun' (arrOf st).size (arrOf st).size 0
  .refine (show wpS _ _ _ _ (if m<minRun' (arrOf st).size (arrOf st).size 0 then _ else _) _ _ from ?_);rw[qAC c1];refine qAF$ qBu$ qBD ⟨rF,?_⟩;refine qAF$ xz (n:=min ((arrOf st).size-lo)$ minRun' (arrOf st).size (arrOf st).size 0) C (f2.kd.trans R.kd) ((R.all ha).fr f2) (by rw[f2.size,ak];lia) λst3 f3=>?_;show wpS _ _ _ _ (if false=true then _ else _) _ _;rw[qAB dD];have R3:=ae$ f2.trans f3;have n1:1<=min ((arrOf st).size-lo) (minRun' (arrOf st).size (arrOf st).size 0):=Ll
   have n2:lo+min ((arrOf st).size-lo) (minRun' (arrOf st).size (arrOf st).size 0)<=a₀.size:=Ll
   refine qAF$ qBW ?_;rcases hb:(pendingOf st3).back? with _|⟨s1,q1,t1⟩
   .exact qAF$ qA7$ qAH$ W n1 (push n1 R3) n2
   .refine qAF$ qA3 (qA1 (I:=λy c S=>c=(none,())/\Rn kd a₀ lo S) (Q:=λc S=>c=(none,())/\Rn kd a₀ lo S) ?s2 (λc S h=>h) ⟨rF,R3⟩) ?p2
    case p2=>
     rintro c O ⟨rfl,V⟩;exact qAF$ qA7$ qAF$ qA7$ qAH$ W n1 (push n1$ V.modify (f:=λx=>match x with|(t,len,_)=>(t,len,power' (arrOf st).size (2*s1+q1) (2*s1+q1+q1+min ((arrOf st).size-lo) (minRun' (arrOf st).size (arrOf st).size 0)) (arrOf st).size)) (λq=>⟨rF,rF⟩)$ (pendingOf O).size-1) n2
    case s2=>
     rintro y c O _ hy ⟨rfl,V⟩;exact af O _ V _ λS R'=>⟨⟨rF,R'⟩,⟨rF,R'⟩⟩
  .refine (show wpS _ _ _ _ (if m<minRun' (arrOf st).size (arrOf st).size 0 then _ else _) _ _ from ?_);rw[qAB c1];have R3:=ae f2;have n2:lo+m<=a₀.size:=Ll
   refine qAF$ qBW ?_;rcases hb:(pendingOf aa).back? with _|⟨s1,q1,t1⟩
   .exact qAF$ qA7$ qAH$ W m1 (push m1 R3) n2
   .refine qAF$ qA3 (qA1 (I:=λy c S=>c=(none,())/\Rn kd a₀ lo S) (Q:=λc S=>c=(none,())/\Rn kd a₀ lo S) ?s2 (λc S h=>h) ⟨rF,R3⟩) ?p2
    case p2=>
     rintro c O ⟨rfl,V⟩;exact qAF$ qA7$ qAF$ qA7$ qAH$ W m1 (push m1$ V.modify (f:=λx=>match x with|(t,len,_)=>(t,len,power' (arrOf st).size (2*s1+q1) (2*s1+q1+q1+m) (arrOf st).size)) (λq=>⟨rF,rF⟩)$ (pendingOf O).size-1) n2
    case s2=>
     rintro y c O _ hy ⟨rfl,V⟩;exact af O _ V _ λS R'=>⟨⟨rF,R'⟩,⟨rF,R'⟩⟩
 case post=>
  rintro c ag ⟨lo,rfl,R⟩;refine qAF$ qA3 (qA1 (I:=λx c S=>c=(none,())/\Rn kd a₀ a₀.size S) (Q:=λc S=>c=(none,())/\Rn kd a₀ a₀.size S) ?s3 (λc S h=>h) ⟨rF,R⟩) ?p3
  case p3=>
   rintro c S ⟨rfl,R'⟩;exact qAH$ h S R'.fl R'.perm
  case s3=>
   rintro y c aa _ hy ⟨rfl,R2⟩;refine qAF$ qBW ?_;show wpS _ _ _ _ (if(pendingOf aa).size<=1 then _ else _) _ _
   by_cases c1:(pendingOf aa).size<=1
   .rw [qAC c1];exact qAH ⟨rF,R2⟩
   .rw [qAB c1];refine qAF$ mU C ha R2 (qAG _) ?_ λad R5 _=>qAH ⟨rF,R5⟩;exact Nat.lt_of_le_of_lt (Nat.add_le_add_right (qX _ _) 1) (show(pendingOf aa).size-2+1<(pendingOf aa).size by lia)
end
end TimP
namespace ST
open PySem PyProof.Rows PySem.W
section
variable{prog:Program}{w:World}{A:Around}{E:Value->Shared->Prop}{s:Shared}
theorem qK{κ:PyProof.Rows.KeyKind}{kd:SortKind}{a:Addr}{vs:List Value}{n:Nat}{P:Fin->Shared->Prop}(ho:s.heap.get? a=some (seqObj "list" vs.toArray n))(hz:vs.length<=4096)
  (hS:∀h',(∀b o,b≠a->s.heap.get? b=some o->h'.get? b=some o)->fQ prog w A κ kd vs {s with heap:=h'})
  (h:∀out:Array Value,out.toList.Perm vs->P (.done$ .ret .none) {s with heap:=sortedHeap s.heap a vs out}) :
  wpAny (model prog w) A (Builtin.«list.sort» ⟨[.ref a],[]⟩) P E s:=by
 rw[list_sort_plain];have aa:(4096:Nat)<=sizeLine:=kK
 have ha:a<s.heap.objs.size:=qAI ho;have hsz:vs.toArray.size=vs.length:=ss
 refine qAA$ listItems_at ho rF ?_;refine qAA$ listUpdate_at ho rF ?_ Ll$ qAi _;have h1:(s.heap.update a$ Obj.mapSeq λ_=>#[]).get? a=some (seqObj "list" #[] _):=get?_update_seq ho λ_=>#[];refine qAA$ seqEpoch_at h1 rF ?_;refine qAA (wpAny_newTuple ?_$ by show vs.toArray.toList.length<=_;simp;lia);refine qAA$ wpAny_newList ?_$ qAi _;refine qAy ?_;have h6:=qAM (seqObj "list" #[] 0)$ qAM (seqObj "tuple" vs.toArray 0) h1;change wpAny (model prog w) A _ P E {s with heap:=((s.heap.update a$ Obj.mapSeq λ_=>#[]).push$ seqObj "tuple" vs.toArray 0).push (seqObj "list" #[] 0)};dsimp only
 have V:=hS (((s.heap.update a$ Obj.mapSeq λ_=>#[]).push$ seqObj "tuple" vs.toArray 0).push$ seqObj "list" #[] 0) λb o hb q=>by
  refine qAM _$ qAM _ ?_;rw[qBq _ _$ qAh hb];exact q
 by_cases c:vs.toArray.size<2
 .rw [qAC c,qAC c];refine qAA$ qAE ?_;rw[StateT.run_pure];refine qAA$ qAE ?_;dsimp only;refine qAA$ seqEpoch_at h6 rF ?_;refine qAA (listUpdate_at h6 rF ?_ (qAi _)$ by rw[Array.size_map];show(pairsOf vs).size<=_;rw[pairsOf_size];lia);simp only[bne_self_eq_false,qCe,qB7];have e:(arrOf$ SortSt.mk' general' (vs.toArray.zip vs.toArray) #[] 7 none).Perm (pairsOf vs):=Array.Perm.refl _;exact qAE$ h _$ zI7 e
 .rw [qAB c,qAB c];refine qAA$ V.kind Ll _ _ ?_
  have W:=TimP.w_sort (E:=E) (a₀:=pairsOf vs) (st:=SortSt.mk' kd (vs.toArray.zip vs.toArray) #[] 7 none) (Q:=λ_ S=>failedOf S=none/\(arrOf S).Perm (pairsOf vs)) V.cmp (λp hp=>by
   rw[pairsOf_toList]at hp;exact V.has _ (mem_zip_self hp).2) rF rF (Array.Perm.refl _) rF (by rw[pairsOf_size];lia) λS q1 O=>⟨q1,O⟩
  refine qAA$ qAv W ?_ λ_ _ e=>e;rintro⟨⟨⟩,S⟩ s' ⟨rfl,q1,O⟩;dsimp only;refine qAA$ seqEpoch_at h6 rF ?_;have zz:=(zI7 O).length_eq;refine qAA (listUpdate_at h6 rF ?_ (qAi _)$ by simp at zz ⊢;lia);rw[q1];simp only[bne_self_eq_false,qCe,qB7];exact qAE$ h _$ zI7 O
theorem w_sortedCP{κ:PyProof.Rows.KeyKind}{kd:SortKind}{v:Value}{Q:Value->Shared->Prop}{J:List Value->Shared->Prop}(hc:wpAny (model prog w) A.in1 (collect v) J E s)
  (W:∀vs S,J vs S->vs.length<=4096/\(∀h',Up S.heap h'->fQ prog w A.in1.in1 κ kd vs {S with heap:=h'}) /\
   ∀(out:List Value) c h',out.Perm vs->h'.get? S.heap.objs.size=some (seqObj "list" out.toArray c)->Up S.heap h'->Q (.ref S.heap.objs.size) {S with heap:=h'}) :
  wpAny (model prog w) A (call (.builtin "sorted") [v]) Q E s:=by
 refine Calls.call_function_entry kind_sorted plain_sorted entry_sorted (args_sorted1 _) ?_;unfold Builtin.«sorted»;refine qAA (m:=checkCount "sorted" 1 1 _)$ qAE ?_;refine qAA$ qAv hc (λvs S j=>?_) λ_ _ x=>x;obtain⟨j1,j2,j3⟩:=W vs S j;have aa:(4096:Nat)<=sizeLine:=kK
 refine qAA$ wpAny_newList ?_ Ll;have O:(S.heap.push$ seqObj "list" vs.toArray 0).get? S.heap.objs.size=some (seqObj "list" vs.toArray 0):=qAk _ rF;change wpAny _ _ _ _ _ {S with heap:=S.heap.push (seqObj "list" vs.toArray 0)};have V:∀b o,S.heap.get? b=some o->b≠S.heap.objs.size:=λb o q=>qAQ$ qAI q;refine qAA$ qAy$ qBy slot_list_sort ⟨_,O,rF⟩ entry_list_sort ?body$ args_list_sort _
 case body=>
  refine qK (s:={S with heap:=S.heap.push (seqObj "list" vs.toArray 0)}) O j1 (λh' q=>j2 h' λb o e=>q b o (V b o e)$ qAM _ e) λout p1=>?_;obtain⟨⟨c,g1⟩,g2⟩:=qg (out:=out) O;refine⟨_,rF,qAE ⟨_,rF,j3 out.toList c _ p1 (by simpa using g1) λb o e=>g2 b o (V b o e)$ qAM _ e⟩⟩
end
end ST
namespace L2
open PySem PySem.Spec PyProof.Rows
section
variable{X:Cx}{pins:List (Addr×Obj)}{s:Shared}{σ:St}{H:Hp}
theorem zIn{k:Nat}(hr:dF k X.A):zCz X (.builtin "sorted") (λxs H Q=>∃(a:Addr) (ys:List (List Str×Addr)),xs=[.ref a]/\H a=some (TSt X.prog X.w a ys)/\(∀p∈ys,qL X.K H p)/\(∀p∈ys,p.1≠[])/\ys.length<=306 /\ ∀(b:Addr) (zs:List (List Str×Addr)),H b=none->zs.Perm ys->Q (.ref b) (upd H b$ .lst$ zs.map λp=>V.ref p.2)):=by
 intro pins s σ H xs us Q I r h;obtain⟨a,ys,rfl,ha,hk,aa,hc,q⟩:=h;obtain⟨u,rfl,rx⟩:=zI5 r
 cases rx
 obtain⟨⟨o,es,ep,t,z1,z2,z3,z4,z5,z6,z7,z8⟩,_⟩:=I.hok a _ ha;have Z:ST.SetX (PySem.strKind X.prog X.w) s.heap a ys o es ep t:=⟨z1,z2,z3,z4,z5,z6,z7,λp hp=>I.rowT$ hk p hp,z8⟩
 refine ST.w_sortedCP (kd:=tuples' true) (κ:=ST.tupK λb=>(ys.find? λp=>p.2==b).map (·.1))
  (J:=λvs S=>vs.Perm (ys.map λp=>Value.ref p.2)/\(∀b o,s.heap.get? b=some o->S.heap.get? b=some o)/\S.gens=s.gens/\S.os=s.os)
  (ST.w_collect (A:=X.A.in1) hr.hd Z hc λs' vs O W v3 v4 _=>⟨O,W,v3,v4⟩) λvs S ⟨O,W,v3,v4⟩=>?_
 have ad:vs.length=ys.length:=by rw[O.length_eq,qAD]
 refine⟨Ll,λh' up=>ST.tups_sortable O (λp hp=>ST.key_kept (I.rowT$ hk p hp) λo e=>up _ o$ W _ o e) aa,λout c h' p1 p3 up=>?_⟩;obtain⟨zs,e1,e2⟩:=om _$ p1.trans O;subst e2;have I1:Inv X pins σ H S:=I.call' (ch:=[]) v4 (Un.kept W) (I.hok.kept W) (by rw[v3];exact I.bare) (λ_ z=>nomatch z)
 have hz:(zs.map λp=>V.ref p.2).length<=sizeLine:=by
  rw[qAD,e1.length_eq];exact qAW hc kK
 exact⟨.ref S.heap.objs.size,_,I1.laid (t':=S.toks) up (qAG _)$ show zBq X.prog X.w _ h' _ (.lst$ zs.map λp=>V.ref p.2)from⟨hz,_,c,gF zs,p3⟩,rF,q _ zs (I1.hok.fresh$ qAG _) e1⟩
end
end L2
namespace My
open PySem L2
variable{P:Program}{w:World}{K:PySem.W.Frag}{mg:Str->Option Value}{base:Heap}{C:Addr}
variable{X:Cx}{n x:Str}{pos:Pos}{qs:List (List Str×Addr)}{f C d:Addr}{fd:FuncData}{H H':Hp}{ns:List Str}{sp:Sp}
theorem zG5(f:Str)(v:V):∀fs:List (Str×V),(dH f v fs).length<=fs.length+1
 |[]=>qAG _
 |(g,x)::r=>by
  unfold dH;split
  .exact qB6 _
  .have:=zG5 f v r;simp only[qAa];lia
theorem lp{P:Program}{w:World}{K:PySem.W.Frag}{k:Nat}(O:dF k X.A)(S:X.prog=P:=by rfl)(hw:X.w=w:=by rfl)(W:X.K=K:=by rfl):zCz X (.type "set") (λxs H Q=>∃(l:Addr) (ks:List (List Str×Addr)),xs=[.ref l]/\SqL K H l (ks.map λp=>V.ref p.2)/\(∀p∈ks,qL K H p)/\ks.length<=306 /\ ∀a ys,H a=none->(∀p∈ys,p∈ks)->(∀p∈ks,p.1∈ys.map (·.1))->(ys.map (·.1)).Nodup->ys.length<=ks.length->Q (.ref a) (upd H a$ TSt P w a ys)):=by
 subst S hw W;exact nS O
theorem zIo{P:Program}{w:World}{K:PySem.W.Frag}{k:Nat}(O:dF k X.A)(S:X.prog=P:=by rfl)(hw:X.w=w:=by rfl)(W:X.K=K:=by rfl):zCz X (.builtin "sorted") (λxs H Q=>∃(a:Addr) (ys:List (List Str×Addr)),xs=[.ref a]/\H a=some (TSt P w a ys)/\(∀p∈ys,qL K H p)/\(∀p∈ys,p.1≠[])/\ys.length<=306 /\ ∀(b:Addr) (zs:List (List Str×Addr)),H b=none->zs.Perm ys->Q (.ref b) (upd H b$ .lst$ zs.map λp=>V.ref p.2)):=by
 subst S hw W;exact zIn O
theorem i4{K:PySem.W.Frag}{es:List Expr}{k:Nat}{t:TGs}{n:Nat}(hc:X.calm=true)(h:PGs X es t)
  (S:(assignEach es X.env).length=n:=by rfl) (O:(assignEach es X.env).findIdx? (·.1)=none:=by rfl) (V:X.K=K:=by rfl):PG X (.Tuple es k pos) (uQ K n t):=by
 subst V;exact zIv hc h S O
theorem zJq :x∈told qs n↔∃q∈qs,snd q=n/\fst q=x:=by
 unfold told;simp only[qAe,qBZ,qC5];exact⟨λ⟨q,⟨a,b⟩,c⟩=>⟨q,a,b,c⟩,λ⟨q,a,b,c⟩=>⟨q,⟨a,b⟩,c⟩⟩
theorem lA{q O:List Str×Addr}(h:q.1=O.1):fst q=fst O/\snd q=snd O:=by unfold fst snd;rw[h];exact⟨rF,rF⟩
section
structure qI(ns:List Str)(qs:List (List Str×Addr))(r:Str->Nat):Prop where
 nm:∀n∈ns,zIp n
 nd:ns.Nodup
 few:ns.length<=20
 qfew:qs.length<=306
 qin:∀q∈qs,∀x∈q.1,x∈ns
 rk:∀q∈qs,r (fst q)<r (snd q)
structure xR(H:Hp)(J:JR):Prop where
 r:Fre H J.r
 p:Fre H J.p
 e:Fre H J.e
 z:∀q∈J.zs,Fre H q.2
 s:∀n∈J.D,Fre H (J.fa n)
inductive iE(C:Addr)(vs:List V)(H:Hp)(Q:VK)(u_3:XK):Prop
 |mk:∀(x dx l m:Addr)(ns:List Str) (qs:List (List Str×Addr)) (r:Str->Nat),vs=[.ref x,.ref l,.ref m]->H x=some (.ins C dx [])->Txs H l ns->fF H m qs->qI ns qs r->(∀J H',dG C H' x J->xR H J->J.ns=ns->(∀k,k∈J.zs.map (·.1)↔k∈qs.map (·.1))->Kp [x] H H'->Q .non H')->iE C vs H Q u_3
abbrev zCk:Stmt:=iR (top 51) 0
theorem zGv:dq ["self","names","orders"] ["self","names","orders"] (zAg zCk):=fnS
theorem iV(F:Fun K "__init__" "Jobs.__init__" zCk f fd)(T:Txt K mg)(U:JC K mg C)(ae:Cal P w K mg base "check_names" 2 ["names"] eh)(af:Cal P w K mg base "check_parts" 3 ["names","orders"] eC)
  (ak:Cal P w K mg base "all_ahead" 2 ["names","told"] eU) (ag:Cal P w K mg base "told_ahead" 1 ["names","orders"] eJ):dw P w K mg base CX0 4 f fd ["self","names","orders"] (iE C):=by
 refine F.ok zGv (λvs H Q E h=>?_) λaV A outer s H vs Q E hr h=>?_
 .obtain ⟨x,dx,l,m,ns,qs,r,rfl,_⟩:=h;rfl
 .obtain ⟨x,dx,l,m,ns,qs,r,rfl,hx,hl,hm,G,k⟩:=h;have aa:=hr;have ad:=hr.mono (j:=2) dD;have ah:=hr.mono (j:=2) dD;have O:=hr.mono (j:=1) dD
  refine⟨_,(zAc (zA2$ zAh ae ad rF$ zAa (pv 1) zAb) (zAc (zA2$ zAh af aa rF$ zAa (pv 1)$ zAa (pv 2) zAb)
   (zAc (kC (pv 0) (zA8 zBu rR T.z_list zCe$ zAa (pv 1) zAb) rF)
   (zAc (kC (pv 0) (zAi (zIo (P:=P) (w:=w) (K:=K) O) rR T.z_sorted nG$ zAa (zA8 (lp (P:=P) (w:=w) (K:=K) O) rR T.z_set vH$ zAa (zBn rF (zBp (sc:=zAg zCk) rF kK) (du.own (x:= "one")$ du.own (x:= "other") du.nil) (zAq$ pv 2) (fun _ _ _ _=>(i4 (K:=K) (n:=2) rF$ zBf (pgB (i:=0))$ zBf (pgB (i:=1)) zD5)) (fun _ _ _ _=>zCm) fun _ _ _ _=>(zCa$ zAa (pv 0)$ zAa (pv 1) zAb)) zAb) zAb) rF)$ zAe$ kC (pv 0) (zAh ak ah rF$ zAa (zHo (pv 0) rF)$ zAa (zAh ag O rF$ zAa (zHo (pv 0) rF)$ zAa (zHo (pv 0) rF) zAb) zAb) rF)))),?_⟩
  refine vd ?_;intro _ _ _ _ _;refine⟨_,rF,l,ns,rF,hl,G.few,G.nm,G.nd,λH1 k1=>?_⟩;have an:=hm.kp k1 ss ss;refine⟨_,rF,_,rF,l,m,ns,qs,rF,k1 l _ hl ss,an,G.qin,?_⟩;have az:=k1 x _ hx ss;refine⟨_,rF,_,_,rF,.inl$ SqL.of$ k1 l _ hl ss,λr1 aq=>?_⟩;have aA:x≠r1:=b_ aq az;refine⟨_,rF,_,_,_,_,rF,(a_ aA).trans az,U.cl,U.n_row,dD,?_⟩
  have ao:∀o1 o2,fF (upd (upd H1 r1 o1) x o2) m qs:=λo1 o2=>
   ⟨(a_$ zCp an.top az λz=>nomatch z).trans$ (a_$ b_ aq an.top).trans an.top,λq W=>(a_$ zCp (an.row q W) az λz=>nomatch z).trans$ (a_$ b_ aq$ an.row q W).trans$ an.row q W,an.two⟩
  have al:∀o2,Txs (upd (upd H1 r1$ .lst$ ns.map V.str) x o2) r1 ns:=λo2=>(a_ aA.symm).trans ac;have k2:∀o1 o2,Kp [x] H (upd (upd H1 r1 o1) x o2):=λo1 o2=>Kp.put (Kp.new (k1.weak ss)$ k1.fre aq ss) ss;have ar:∀o1 o2,(upd (upd H1 r1 o1) x o2) x=some o2:=λo1 o2=>ac;have ao:=ao (.lst$ ns.map V.str)$ .ins C dx$ dH "row" (.ref r1) [];have al:=al$ .ins C dx$ dH "row" (.ref r1) [];have k2:=k2 (.lst$ ns.map V.str)$ .ins C dx$ dH "row" (.ref r1) [];have ar:=ar (.lst$ ns.map V.str)$ .ins C dx$ dH "row" (.ref r1) [];generalize aW:upd (upd H1 r1$ .lst$ ns.map V.str) x (.ins C dx$ dH "row" (.ref r1) [])=H2 at ao al k2 ar ⊢
  refine⟨_,rF,_,rF,⟨_,SqL.of ao.top⟩,λB hB=>zBc (qs.map λq=>V.ref q.2) (λi ys τ H3=>∃ks:List (List Str×Addr),(∃o0 o1,τ=[o0,o1])/\ys=(ks.map λq=>V.ref q.2)/\ks.map (·.1)=(qs.take i).map (·.1)/\(∀q∈ks,H3 q.2=some (.tup$ q.1.map V.str))/\(∀q∈ks,Fre H2 q.2)/\Kp [] H2 H3/\H3 B=some (.lst ys)) ⟨[],⟨_,_,rF⟩,rF,rF,(λq h=>nomatch h),(λq h=>nomatch h),Kp.new Kp.refl hB,ac⟩ (λi ys τ H3 ⟨_,_,_,_,_,_,k3,_⟩=>SqL.of$ k3 m _ ao.top ss) ?_ ?_⟩
  .rintro i v ys τ H3 hv ⟨ks,⟨o0,o1,rfl⟩,rfl,ek,hk,fk,k3,h3⟩;obtain⟨q,eq,rfl⟩:=iI hv;have mq:=qAJ eq;obtain⟨a,b,aB⟩:=ao.two q mq
   have aI:H3 q.2=some (.tup [.str a,.str b]):=by
    have:=k3 q.2 _ (ao.row q mq) ss;rw[aB]at this;exact this
   refine⟨_,_,rF,.inl$ .inl aI,rF,_,_,rF,_,_,rF,rF,?_⟩;have au:ks.length=(qs.take i).length:=by have:=qAl List.length ek;simpa using this
   refine⟨_,rF,_,rF,(by walk_at"ln"),λt ht=>?_⟩;have ft:Fre H3 t:=ht;have aJ:B≠t:=b_ ft h3;refine⟨(a_ aJ).trans h3,?_,ks++[([a,b],t)],⟨_,_,rF⟩,?_,?_,λq' av=>?_,λq' av=>?_,?_,?_⟩
   .rw [qAD,au,qAU,qAK];have:=G.qfew;lia
   .rw [qAP];rfl
   .rw [qAP,ek,zAk eq,qAP,qAt,qAt,aB]
   .rcases qAR.mp av with z|z
    .exact (a_$ zCp (hk q' z) h3 λy=>nomatch y).trans$ (a_$ b_ ft$ hk q' z).trans$ hk q' z
    .rw [qAO.mp z];exact(a_ aJ.symm).trans ac
   .rcases qAR.mp av with z|z
    .exact fk q' z
    .rw [qAO.mp z];exact k3.fre ft ss
   .exact Kp.new (Kp.new k3$ k3.fre ft ss) hB
   .exact ac
  .rintro ys τ H3 ⟨ks,_,rfl,ek,hk,fk,k3,h3⟩;have eT:qs.take (qs.map λq=>V.ref q.2).length=qs:=by rw[qAD,qAg]
   rw[eT]at ek;have au:ks.length=qs.length:=by have:=qAl List.length ek;simpa using this
   have aE:∀q∈ks,∃a b,q.1=[a,b]:=λq W=>by
    have:q.1∈ks.map (·.1):=qAe.mpr ⟨q,W,rF⟩;rw[ek]at this;obtain⟨q',av,e⟩:=qAe.mp this;rw[<-e];exact ao.two q' av
   refine⟨B,ks,rF,SqL.of h3,λq W=>.inl$ .inl$ hk q W,by rw[au];have:=G.qfew;lia,λsa yk aN y1 y2 y3 y4=>?_⟩;have aC:Fre H3 sa:=aN;refine⟨sa,yk,rF,ac,λq W=>.inl$ .inl$ (a_$ b_ aC$ hk q$ y1 q W).trans$ hk q$ y1 q W,λq W=>?_,by have:=G.qfew;lia,λp zs hp z1=>?_⟩
   .obtain ⟨a,b,e⟩:=aE q$ y1 q W;rw[e];simp
   have fp:Fre (upd H3 sa$ TSt P w sa yk) p:=hp;have zk:∀q∈zs,q∈ks:=λq W=>y1 q$ z1.mem_iff.mp W
   have zq:∀q∈zs,∃q'∈qs,q'.1=q.1:=λq W=>by
    have:q.1∈ks.map (·.1):=qAe.mpr ⟨q,zk q W,rF⟩;rw[ek]at this;exact qAe.mp this
   have aF:∀q∈zs,∀x∈q.1,x∈ns:=λq W x hx=>by
    obtain⟨q',h1,h2⟩:=zq q W;exact G.qin q' h1 x (by rw[h2];exact hx)
   have aO:∀q∈zs,r (fst q)<r (snd q):=λq W=>by
    obtain⟨q',h1,h2⟩:=zq q W;obtain⟨e1,e2⟩:=lA h2;rw[<-e1,<-e2];exact G.rk q' h1
   have aK:zs.length<=306:=by rw[z1.length_eq];have:=G.qfew;lia
   have aL:∀k,k∈zs.map (·.1)↔k∈qs.map (·.1):=λk=>by
    rw[<-ek,(z1.map (·.1)).mem_iff]
    exact⟨λh=>by
     obtain⟨q,h1,h2⟩:=qAe.mp h;exact qAe.mpr ⟨q,y1 q h1,h2⟩,λh=>by
     obtain⟨q,h1,h2⟩:=qAe.mp h;rw[<-h2];exact y2 q h1⟩
   have k4:Kp [] H2 (upd (upd H3 sa$ TSt P w sa yk) p$ .lst$ zs.map λq=>V.ref q.2):=by
    have h1:Kp [] H2 (upd H3 sa$ TSt P w sa yk):=Kp.new k3$ k3.fre aC ss;exact Kp.new h1$ h1.fre fp ss
   have ai:fF (upd (upd H3 sa$ TSt P w sa yk) p$ .lst$ zs.map λq=>V.ref q.2) p zs:=⟨ac,λq W=>by
    have h1:upd H3 sa (TSt P w sa yk) q.2=some (.tup$ q.1.map V.str):=(a_$ b_ aC$ hk q$ zk q W).trans$ hk q$ zk q W;exact(a_$ b_ fp h1).trans h1,λq W=>aE q$ zk q W⟩
   generalize aX:upd (upd H3 sa$ TSt P w sa yk) p (.lst$ zs.map λq=>V.ref q.2)=H4 at k4 ai ⊢;have aG:=k4 x _ ar ss;refine⟨_,rF,_,_,_,_,rF,aG,U.cl,U.n_pairs,(by have:=zG5 "row" (V.ref r1) [];simp only[qBB]at this;lia),?_⟩;have ap:(upd H4 x$ .ins C dx$ dH "pairs" (.ref p)$ dH "row" (.ref r1) []) x=some (.ins C dx$ dH "pairs" (.ref p)$ dH "row" (.ref r1) []):=ac;have am:Txs (upd H4 x$ .ins C dx$ dH "pairs" (.ref p)$ dH "row" (.ref r1) []) r1 ns:=(a_ aA.symm).trans$ k4 r1 _ al ss;have aj:fF (upd H4 x$ .ins C dx$ dH "pairs" (.ref p)$ dH "row" (.ref r1) []) p zs:=⟨(a_$ zCp ai.top aG λz=>nomatch z).trans ai.top,λq W=>(a_$ zCp (ai.row q W) aG λz=>nomatch z).trans$ ai.row q W,ai.two⟩;have k5:Kp [x] H (upd H4 x$ .ins C dx$ dH "pairs" (.ref p)$ dH "row" (.ref r1) []):=Kp.put (k2.trans$ k4.weak ss) ss;generalize aP:upd H4 x (.ins C dx$ dH "pairs" (.ref p)$ dH "row" (.ref r1) [])=H5 at ap am aj k5 ⊢
   have aw:(dH "pairs" (.ref p)$ dH "row" (.ref r1) []).lookup ("row": Str)=some (.ref r1):=by
    rw[zA6,qAB kK,zA6,qAC rF]
   have aH:(dH "pairs" (.ref p)$ dH "row" (.ref r1) []).lookup ("pairs": Str)=some (.ref p):=by
    rw[zA6,qAC rF]
   refine⟨_,rF,_,_,_,_,_,rF,ap,U.cl,U.n_row,aw,_,rF,_,_,_,_,_,rF,ap,U.cl,U.n_row,aw,_,rF,_,_,_,_,_,rF,ap,U.cl,U.n_pairs,aH,r1,p,ns,zs,rF,am,aj,G.nd,G.few,Ll,aF,λd la H6 DD k6=>?_⟩;refine⟨r1,d,ns,la,told zs,r,rF,k6 r1 _ am ss,G.nd,G.few,DD.top,λn hn=>⟨DD.row n hn,qAW (jC zs n) Ll,λy hy=>?_⟩,λe D fa S H7 FF all k7=>?_⟩
   .obtain ⟨q,h1,h2,h3⟩:=zJq.mp hy;obtain⟨a,b,aB⟩:=aj.two q h1;refine⟨?_,by rw[<-h2,<-h3];exact aO q h1⟩;rw[<-h3];refine aF q h1 _ ?_;unfold fst;rw[aB];simp
   have ax:Kp [] H5 H7:=k6.trans k7;have ay:=ax x _ ap ss;refine⟨_,rF,_,_,_,_,rF,ay,U.cl,U.n_above,?_,?_⟩
   .have h1:=zG5 "row" (V.ref r1) [];have h2:=zG5 "pairs" (V.ref p)$ dH "row" (V.ref r1) [];simp only[qBB]at h1;lia
   have aD:∀a,Fre H2 a->Fre H a:=λa ha=>k2.fre ha (nm1 λz=>by
    subst z;have:H2 a=some _:=ar;unfold Fre at ha;rw[ha]at this;exact nomatch this)
   have aQ:Kp [] H2 (upd H3 sa$ TSt P w sa yk):=Kp.new k3$ k3.fre aC ss;have aR:Fre H2 p:=aQ.fre fp ss
   have aM:∀a,Fre H5 a->Fre H2 a:=λa ha=>by
    have h1:Fre H4 a:=by
     have aS:a≠x:=λz=>by
      subst z;unfold Fre at ha;rw[ha]at ap;exact nomatch ap
     have:H5 a=H4 a:=by rw[<-aP];exact a_ aS
     unfold Fre at ha ⊢;rw[<-this];exact ha
    exact k4.fre h1 ss
   have aT:Fre H2 e:=aM e$ k6.fre FF.fr ss;have aU:∀n∈D,Fre H2 (fa n):=λn hn=>aM _$ k6.fre (FF.frs n hn) ss;refine k ⟨dx,r1,p,e,ns,zs,D,fa,S⟩ _ ⟨ac,?_,⟨?_,λq W=>?_,aj.two⟩,?_,all,λn hn=>?_,G.few,aK,G.nd,aF,λn hn y=>FF.mem n (all n hn) y⟩ ⟨k1.fre aq ss,aD p aR,aD e aT,λq W=>aD q.2$ fk q$ zk q W,λn hn=>aD _$ aU n hn⟩ rF aL$ Kp.put (k5.trans$ ax.weak ss) ss
   .exact (a_ aA.symm).trans$ ax r1 _ am ss
   .have h1:=ax p _ aj.top ss;exact(a_$ zCp h1 ay λz=>nomatch z).trans h1
   .have h1:=ax _ _ (aj.row q W) ss;exact(a_$ zCp h1 ay λz=>nomatch z).trans h1
   .exact (a_$ zCp FF.top ay λz=>nomatch z).trans FF.top
   .exact (a_$ zCp (FF.row n hn) ay λz=>nomatch z).trans$ FF.row n hn
end
def zCc:List Str:=zEx.cps.toList.map λc=>⟨#[c]⟩
theorem zFd:zCc.length=26:=by
 unfold zCc;rw[zEw];simp
theorem kN:zCc.Nodup:=by decide +kernel
theorem oV(h:x∈zCc):zIp x:=by
 unfold zCc at h;rw[zEw]at h;obtain⟨c,hc,rfl⟩:=qAe.mp h;obtain⟨i,hi,rfl⟩:=qAe.mp hc;have:=qBH.mp hi;refine⟨qAG 1,by show 1<=8;decide,λd hd=>?_⟩;have:d=97+i:=by simpa using hd
 lia
theorem jX{found:List Str}(h:found.length<=20):(zCc.filter λx=>decide$ x∉found)≠[]:=λz=>by
 have:zCc.length<=found.length:=zB3 kN λx O=>by
  apply qBh;intro y;have:x∈zCc.filter λx=>decide$ x∉found:=qBZ.mpr ⟨O,qAV y⟩;rw[z]at this;exact nomatch this
 rw[zFd]at this;lia
section
inductive fR(vs:List V)(H:Hp)(Q:VK)(u_3:XK):Prop
 |mk:∀(p:Addr)(m:Int),vs=[.ref p,.int m]->zB9 H p->0<=m->m<=20->(∀(l:Addr)(ns:List Str)(H':Hp),Fre H l->Txs H' l ns->ns.length=m.toNat->ns.Nodup->(∀n∈ns,zIp n)->zB9 H' p->Kp [p] H H'->Q (.ref l) H')->fR vs H Q u_3
abbrev zJc:Stmt:=top 56
theorem zDi:dq ["_law_purse_here","_law_many","_law_letters","_law_found","_law_k","_law_word","_law_j"] ["_law_purse_here","_law_many"] (zAg zJc):=fnS
theorem qo(F:Fun K "_law_names" "_law_names" zJc f fd)(T:Txt K mg)(aa:Cal P w K mg base "_law_take" 1 ["_law_purse_here","_law_many"] eV):dw P w K mg base CX0 2 f fd ["_law_purse_here","_law_many"] fR:=by
 refine F.ok zDi (λvs H Q E h=>?_) λai A outer s H vs Q E hr h=>?_
 .obtain ⟨p,m,rfl,_⟩:=h;rfl
 .obtain ⟨p,m,rfl,hP,h0,h1,k⟩:=h;have O:=hr
  refine⟨_,(zAc (psS (i:=2) zDi.nd zAu) (zAc (psS (i:=3) zDi.nd$ zAj zAb)
   (zAc (zA7 qAc rF (zEr rF T.z_range$ zAa (pv 1) zAb) (pgN (i:=4) zDi.nd)
    (zAc (psS (i:=5) zDi.nd zAu)
    (zAc (zA7 qAc rF (zEr rF T.z_range$ zAa (zAn zCy zAd$ zAn zFv (zAh aa O rF$ zAa (pv 0)$ zAa zAd zAb)$ zAh aa O rF$ zAa (pv 0)$ zAa zAd zAb) zAb) (pgN (i:=6) zDi.nd)$ zAe$ psS (i:=5) zDi.nd$ zAn lh (pv 5)$ zBd wb (pv 2) (zAh aa O rF$ zAa (pv 0)$ zAa zAd zAb) λ_ _=>rfl)
    (zAc (zBk (zAr zFw (pv 5) (pv 3) rR)
     (zAe$ psS (i:=5) zDi.nd$ zBd zA0 (zBn rF (zBp (sc:=zAg zJc) rF kK) (du.own (x:="_law_letter")$ dtk (i:=3) rF du.nil) (qq$ pv 2) (λ_ _ _ _=>(pgB (i:=0))) (λ_ _ _ _=>(zCl$ zAr (zD7 (K:=K)) (pv 0) (pv 1) rR)) λ_ _ _ _=>(pv 0)) zAd λ_ _=>rfl)
     zAs)$ zAe$ zA2$ zD6 qAx qBz qB0 zCb (pv 3)$ zAa (pv 5) zAb))))$ zAe$ zAw$ pv 3))),?_⟩
  refine e_ ?_;intro _ _ _ _;refine⟨(by walk_at"ln"),λl hl=>?_⟩;have fl:Fre H l:=hl;have ae:p≠l:=by obtain⟨a,b,e,_⟩:=hP;exact b_ fl e
  have ag:zB9 (upd H l$ .lst []) p:=hP.kp (M:=[]) (Kp.new Kp.refl fl) ss
  refine⟨_,rF,_,rF,Ll,Ll,zDw (lo:=0) (n:=m.toNat) (λi σ H2=>∃(o4 o5 o6:Option V)(S:List Str),σ=[some (.ref p),some (.int m),some (.str zEx),some (.ref l),o4,o5,o6]/\zB9 H2 p/\Kp [p] H H2/\Txs H2 l S/\S.length=i/\S.Nodup/\∀s∈S,zIp s)
   ⟨none,none,none,[],rF,ag,Kp.new Kp.refl fl,ac,rF,qBC,λs h=>nomatch h⟩ ?_ ?_⟩
  .rintro i σ H2 hi ⟨o4,o5,o6,S,rfl,P2,K2,R2,e2,n2,q2⟩;refine e_ ?_;intro _ _ _ _;refine⟨_,rF,p,2,rF,P2,dD,dD,λd1 H3 a0 a1 P3 K3=>?_⟩;refine⟨_,rF,p,8,rF,P3,dD,dD,λd2 H4 b0 b1 P4 K4=>?_⟩;have aj:0<=d1*d2:=Int.mul_nonneg a0 b0
   have ak:d1*d2<=7:=by
    have:d1*d2<=1*7:=Int.mul_le_mul Ll Ll b0 dD;lia
   have ah:Kp [p] H2 H4:=K3.trans K4
   refine⟨_,_,rF,rF,(by walk_at"ml"),_,_,rF,rF,_,rF,Ll,Ll,zDw (lo:=0) (n:=(1+d1*d2).toNat) (λn σ H7=>∃(o4 o6:Option V)(x:Str),σ=[some (.ref p),some (.int m),some (.str zEx),some (.ref l),o4,some (.str x),o6]/\zB9 H7 p/\Kp [p] H2 H7/\m_ n x)
    ⟨_,_,_,rF,P4,ah,rF,(λc h=>absurd (show c∈([]:List Nat)from h) ss)⟩ ?_ ?_⟩
   .rintro n σ H7 hn ⟨o4,o6,x,rfl,P8,K7,W⟩;refine⟨_,rF,_,rF,_,rF,p,26,rF,P8,dD,dD,λd4 H8 e0 e1 P9 K8=>?_⟩;refine⟨_,_,_,rF,rF,dD,kG e0 e1,_,_,rF,rF,?_,?_⟩
    .rw [W.1];show n+1<=sizeLine;rw[qAK];lia
    .exact ⟨_,_,_,rF,P9,K7.trans K8,W.more Ll Ll⟩
   .rintro σ H7 ⟨o4,o6,x,rfl,P8,K7,W⟩;have h7:Txs H7 l S:=K7 l _ R2$ nm1 ae.symm;have NX:zIp x:=⟨by have:=W.1;lia,by have:=W.1;lia,W.2⟩;refine⟨_,rF,_,rF,_,_,rF,.inl$ SqL.of h7,rF,zDd S,_,rF,?_⟩;rw[qAB qAd,zH5];refine km (λσ H8=>∃(y:Str),σ=[some (.ref p),some (.int m),some (.str zEx),some (.ref l),o4,some (.str y),o6]/\Kp [] H7 H8/\zIp y/\y∉S) (λN hN=>dE (λc=>?_) λc=>?_) ?_
    .-- _law_word=[..][0]
     refine⟨_,rF,_,rF,λB hB=>j6 (z:=zEx) (λi ys τ H8=>(∃o0,τ=[o0,some (.ref l)])/\ys=((zCc.take i).filter λx=>decide$ x∉S).map V.str/\H8=upd H7 B (.lst ys)) ⟨⟨_,rF⟩,rF,rF⟩ ?_ ?_⟩
     .rintro i c ys τ H8 hc ⟨⟨o0,rfl⟩,rfl,rfl⟩;have en:zCc[i]?=some ⟨#[c]⟩:=by unfold zCc;rw[qAY,hc];rfl
      refine⟨_,rF,_,rF,_,_,rF,.inl$ SqL.of$ (a_$ b_ (show Fre H7 B from hB) h7).trans h7,rF,zDd S,_,rF,?_⟩;rw[qAC rF,zH5]
      have ed:(!decide ((⟨#[c]⟩:Str)∈S))=decide ((⟨#[c]⟩:Str)∉S):=by
       by_cases z:(⟨#[c]⟩:Str)∈S
       .simp [z]
       .simp [z]
      rw[ed];refine dE (λc=>?_) λc=>?_
      .refine ⟨_,rF,ac,?_,⟨_,rF⟩,?_,zB7⟩
       .rw [qAD];exact zJ0 (by rw[zFd];decide)
       .rw [zHa (p:=λx=>decide$ x∉S) en c,qAP];rfl
      .refine ⟨⟨_,rF⟩,?_,?_⟩
       .rw [zJz (p:=λx=>decide$ x∉S) en c]
       .rfl
     .rintro ys τ H8 ⟨_,rfl,rfl⟩;have eT:zCc.take zEx.length=zCc:=qBN (by rw[zFd];decide);rw[eT];have af:=jX (found:=S) Ll
      have ad:∀y,y∈(zCc.filter λx=>decide$ x∉S)->zIp y/\y∉S:=λy hy=>by
       have:=qBZ.mp hy;exact⟨oV this.1,qBm this.2⟩
      generalize (zCc.filter λx=>decide$ x∉S)=L at af ad
      obtain⟨y,r,rfl⟩:∃y r,L=y::r:=by
       cases L with
       |nil=>exact absurd rF af
       |cons y r=>exact⟨y,r,rF⟩
      refine⟨_,_,_,.str y,rF,rF,SqL.of ac,zEj dD rF,?_⟩;exact hN _ _ ⟨y,rF,Kp.new Kp.refl hB,(ad y qAf).1,(ad y qAf).2⟩
    .exact hN _ _ ⟨x,rF,Kp.refl,NX,λz=>c$ qAV z⟩
    .rintro σ H8 ⟨y,rfl,K8,NY,ny⟩;have h8:Txs H8 l S:=K8 l _ h7 ss;refine⟨_,rF,.inl ⟨rF,_,SqL.of h8⟩,_,rF,_,_,_,rF,rF,h8,?_,?_⟩
     .rw [qAK,qAD];lia
     .refine ⟨_,_,_,S++[y],rF,(P8.kp K8 ss).kp (M:=[l]) (Kp.put Kp.refl ss)$ nm1 ae,Kp.new (K2.trans$ K7.trans$ K8.weak ss) fl,?_,by simp[e2],?_,λs hs=>?_⟩
      .show upd H8 l _ l=some (.lst$ (S++[y]).map V.str);rw[ac,qAP];rfl
      .refine qBX.mpr ⟨n2,ss,λa ha b hb=>?_⟩;rw[qAO.mp hb];rintro rfl;exact ny ha
      .rcases qAR.mp hs with z|z
       .exact q2 s z
       .rw [qAO.mp z];exact NY
  .rintro σ H2 ⟨o4,o5,o6,S,rfl,P2,K2,R2,e2,n2,q2⟩;exact⟨_,rF,k l S H2 fl R2 e2 n2 q2 P2 K2⟩
end
structure ITs(H:Hp)(l:Addr)(ts:List ((Int×Int)×Addr)):Prop where
 top:H l=some (.lst$ ts.map λt=>V.ref t.2)
 row:∀t∈ts,H t.2=some (.tup [.int t.1.1,.int t.1.2])
theorem ITs.kp{M:List Addr}{l:Addr}{ts:List ((Int×Int)×Addr)}(I:ITs H l ts)(k:Kp M H H')(h1:l∉M)(h2:∀t∈ts,t.2∉M):ITs H' l ts:=⟨k l _ I.top h1,λt O=>k _ _ (I.row t O)$ h2 t O⟩
theorem qD(i:Nat):i*(i+1)+2*(i+1)=(i+1)*(i+2):=by
 rw[<-Nat.add_mul,Nat.mul_comm]
theorem xq(w:Int):inV (.int w) [.int 1,.int 2]=(decide (w=1)||decide (w=2)):=by
 show((1==w)||((2==w)||false))=_
 by_cases h1:w=1
 .subst h1;rfl
 .by_cases h2:w=2
  .subst h2;rfl
  .rw [qAZ h1,qAZ h2,qBG.mpr$ qAh h1,qBG.mpr$ qAh h2];rfl
def lV(m:Int)(ts:List ((Int×Int)×Addr)):Prop:=∀t∈ts,0<=t.1.1/\t.1.1<t.1.2/\t.1.2<m
theorem dJ{a:Addr}{o:HO}(h:H a=none):∃H',upd H a o=H'/\Kp [] H H'/\H' a=some o:=⟨_,rF,Kp.new Kp.refl h,ac⟩
structure PB(H0:Hp)(p l:Addr)(m:Int)(H:Hp)(ts:List ((Int×Int)×Addr)):Prop where
 pu:zB9 H p
 kp:Kp [p] H0 H
 it:ITs H l ts
 fr:∀t∈ts,Fre H0 t.2
 ok:lV m ts
 pl:p≠l
 fl:Fre H0 l
section
variable{H0 H H':Hp}{p l t:Addr}{m a b:Int}{ts:List ((Int×Int)×Addr)}(B:PB H0 p l m H ts)
include B
theorem PB.go(k:Kp [p] H H')(P:zB9 H' p):PB H0 p l m H' ts:=⟨P,B.kp.trans k,B.it.kp k (nm1 B.pl.symm) λt O=>nm1 (by obtain⟨x,y,e,_⟩:=B.pu;exact zCp (B.it.row t O) e λz=>nomatch z),B.fr,B.ok,B.pl,B.fl⟩
theorem PB.go0(k:Kp [] H H'):PB H0 p l m H' ts:=B.go k.of0$ B.pu.kp k ss
theorem PB.fre(f:H t=none):Fre H0 t:=B.kp.fre f (nm1$ by obtain⟨x,y,e,_⟩:=B.pu;exact(b_ f e).symm)
theorem PB.add(S:H t=some (.tup [.int a,.int b]))(W:Fre H0 t)(h1:0<=a)(h2:a<b)(h3:b<m):PB H0 p l m (upd H l$ .lst$ ts.map (λt=>V.ref t.2)++[.ref t]) (ts++[((a,b),t)]):=by
 have g:∀q∈ts++[((a,b),t)],H q.2=some (.tup [.int q.1.1,.int q.1.2])/\Fre H0 q.2/\0<=q.1.1/\q.1.1<q.1.2/\q.1.2<m:=λq O=>by
  rcases qAR.mp O with z|z
  .exact ⟨B.it.row q z,B.fr q z,B.ok q z⟩
  .rw [qAO.mp z];exact⟨S,W,h1,h2,h3⟩
 exact⟨B.pu.kp (M:=[l]) (Kp.put Kp.refl ss)$ nm1 B.pl,Kp.new B.kp B.fl,⟨by rw[ac,qAP];rfl,λq O=>(a_$ zCp (g q O).1 B.it.top λy=>nomatch y).trans (g q O).1⟩,λq O=>(g q O).2.1,λq O=>(g q O).2.2,B.pl,B.fl⟩
theorem PB.ext(c:Bool)(W:H t=some (.tup [.int a,.int b]))(ft:Fre H0 t)(h:c=true->0<=a/\a<b/\b<m):∃O,PB H0 p l m (upd H l$ .lst$ ts.map (λt=>V.ref t.2)++(List.replicate (if c=true then(1:Int)else 0).toNat [V.ref t]).flatten) O/\O.length<=ts.length+1:=by
 cases c with
 |true=>exact⟨_,B.add W ft (h rF).1 (h rF).2.1 (h rF).2.2,by rw[qAN];exact qAG _⟩
 |false=>
  refine⟨ts,?_,qB6 _⟩;show PB H0 p l m (upd H l$ .lst$ ts.map (λt=>V.ref t.2)++[]) ts;rw[qAm];exact⟨B.pu.kp (M:=[l]) (Kp.put Kp.refl ss)$ nm1 B.pl,Kp.new B.kp B.fl,⟨ac,λq S=>(a_$ zCp (B.it.row q S) B.it.top λy=>nomatch y).trans$ B.it.row q S⟩,B.fr,B.ok,B.pl,B.fl⟩
end
section
inductive gi(vs:List V)(H:Hp)(Q:VK)(u_3:XK):Prop
 |mk:∀(p:Addr)(m way thin:Int),vs=[.ref p,.int m,.int way,.int thin]->zB9 H p->0<=m->m<=20->2<=thin->thin<=12->(∀(l:Addr) (ts:List ((Int×Int)×Addr)) (H':Hp),Fre H l->ITs H' l ts->(∀t∈ts,Fre H t.2)->ts.length<=190->lV m ts->zB9 H' p->Kp [p] H H'->Q (.ref l) H')->gi vs H Q u_3
abbrev iX:Stmt:=top 57
theorem zDh:dq ["_law_purse_here","_law_many","_law_way","_law_thin","_law_pairs_here","_law_j","_law_far","_law_i","_law_near"] ["_law_purse_here","_law_many","_law_way","_law_thin"] (zAg iX):=fnS
theorem rG(F:Fun K "_law_pairs" "_law_pairs" iX f fd)(T:Txt K mg)(ad:Cal P w K mg base "_law_take" 1 ["_law_purse_here","_law_many"] eV):dw P w K mg base CX0 2 f fd ["_law_purse_here","_law_many","_law_way","_law_thin"] gi:=by
 refine F.ok zDh (λvs H Q E h=>?_) λap A outer s H vs Q E hr h=>?_
 .obtain ⟨p,m,W,O,rfl,_⟩:=h;rfl
 .obtain ⟨p,m,W,O,rfl,hP,h0,h1,t0,t1,k⟩:=h;have S:=hr
  refine⟨_,(zAc (psS (i:=4) zDh.nd$ zAj zAb) (zAc (zA7 qAc rF (oM rF T.z_range$ zAa zAd$ zAa (pv 1) zAb) (pgN (i:=5) zDh.nd)
    (zAc (psS (i:=6) zDh.nd zAd)
    (zAc (zBk (zAr zD8 (pv 2) zAd$ zAv _)
     (zAc (psS (i:=6) zDh.nd$ zAh ad S rF$ zAa (pv 0)$ zAa (zAn zCy (zAn zE9 (pv 1)$ pv 5) zAd) zAb)$ zAe$ zA2$ zD6 qAx qCi qCj zEv (pv 4)$ zAa (zAn lH (zAj$ zAa (zCa$ zAa (zAn zE9 (pv 5) zAd)$ zAa (zAn zCy (zAn zE9 (pv 5) zAd)$ pv 6) zAb) zAb)$ zA8 zEz rR T.z_int zIb$ zAa (zCs jh (pv 6) zAd$ zAv _) zAb) zAb)
     zAs)
    (zAc (zBk (zAr zD8 (pv 2) zAd$ zAv _)
     (zAc (psS (i:=6) zDh.nd$ zAh ad S rF$ zAa (pv 0)$ zAa (zAn zCy (pv 5) zAd) zAb)$ zAe$ zA2$ zD6 qAx qCi qCj zEv (pv 4)$ zAa (zAn lH (zAj$ zAa (zCa$ zAa (zAn zE9 (pv 5)$ pv 6)$ zAa (pv 5) zAb) zAb)$ zA8 zEz rR T.z_int zIb$ zAa (zCs jh (pv 6) zAd$ zAv _) zAb) zAb)
     zAs)
    (zAe (zA7 qAc rF (zEr rF T.z_range$ zAa (zAn zFv (pv 5)$ zA8 zEz rR T.z_int zIb$ zAa (zCs zGr (pv 2) (zAj$ zAa zAd$ zAa zAd zAb) rR) zAb) zAb) (pgN (i:=7) zDh.nd)
     (zAc (psS (i:=8) zDh.nd$ wY (zCs zFu (pv 2) zAd$ zAv _)$ gp$ zCs zD8 (zAn zCy (zAn zJi (pv 7)$ pv 3) zAd) (zAn zJi (pv 5)$ pv 3)$ zAv _)
     (zAe (zBk (PW.pt$ zHl (zBi$ pv 8)$ zGg$ zAr zD8 (zCs zD8 (zAh ad S rF$ zAa (pv 0)$ zAa (pv 3) zAb) zAd$ zAv _) (zCs zFu (pv 2) zAd$ zAv _)$ zAv _)
      (zAe$ zA2$ zD6 qAx qBz qB0 zCb (pv 4)$ zAa (zCa$ zAa (pv 7)$ zAa (pv 5) zAb) zAb)
      zAs)))))))))$ zAe$ zAw$ pv 4)),?_⟩
  refine gv ?_;intro _ _ _;refine⟨(by walk_at"ln"),λl hl=>?_⟩;have ai:p≠l:=by obtain⟨a,b,e,_⟩:=hP;exact b_ hl e
  have Kl:∀{M},Kp M H (upd H l$ .lst []):=Kp.new Kp.refl hl
  refine⟨_,rF,_,_,rF,⟨dD,dD,Ll,Ll⟩,zDw (lo:=1) (n:=(m-1).toNat) (λi σ H2=>∃(o5 o6 o7 o8:Option V) (ts:List ((Int×Int)×Addr)),σ=[some (.ref p),some (.int m),some (.int W),some (.int O),some (.ref l),o5,o6,o7,o8]/\PB H p l m H2 ts/\ts.length*2<=i*(i+1)) ⟨none,none,none,none,[],rF,⟨hP.kp (Kl (M:=[])) ss,Kl,⟨ac,(λt h=>nomatch h)⟩,(λt h=>nomatch h),(λt h=>nomatch h),ai,hl⟩,qAi _⟩ ?_ ?_⟩
  .rintro i σ H2 hi ⟨o5,o6,o7,o8,ts,rfl,B,e2⟩;refine e_ ?_;intro _ _ _ _;have ao:i<=18:=Ll
   have aj:ts.length*2<=19*20:=qAW e2$ Nat.mul_le_mul Ll Ll;refine⟨_,rF,rF,_,rF,km (λσ H3=>∃(v6:Int) (af:List ((Int×Int)×Addr)),σ=[some (.ref p),some (.int m),some (.int W),some (.int O),some (.ref l),some (.int$ 1+(i:Int)),some (.int v6),o7,o8]/\PB H p l m H3 af/\af.length<=ts.length+1/\(W≠1->af.length<=ts.length)) (λN hN=>dE (λc=>?_) λc=>hN _ _ ⟨0,ts,rF,B,qB6 _,λ_=>qAG _⟩) ?_⟩
   .have cw:W=1:=by simpa using c
    refine⟨_,rF,_,rF,_,rF,_,_,rF,rF,_,_,rF,rF,p,m-(1+(i:Int))+1,rF,B.pu,Ll,Ll,λd H3 d0 d1 P3 K3=>?_⟩;have B:=B.go K3 P3;refine⟨_,rF,.inl ⟨rF,_,SqL.of B.it.top⟩,_,rF,_,_,rF,rF,_,rF,_,_,rF,rF,_,rF,_,_,rF,rF,(by walk_at"ln"),λt ht=>?_⟩;have ft:=B.fre ht;obtain⟨H4,e4,k4,h4⟩:=dJ (o:=.tup [.int (1+(i:Int)-1),.int (1+(i:Int)-1+d)]) ht;rw[e4];refine⟨(by walk_at"ln"),λq hq=>?_⟩;obtain⟨H5,e5,k5,h5⟩:=dJ (o:=.lst [.ref t]) hq;rw[e5];refine⟨_,rF,_,_,rF,rF,.inr ⟨_,rF,_,_,_,rF,rF,h5,by split<;>decide,by split<;>decide,by rw[qAK];show 1*_<=_;split<;>decide,λr ag=>?_⟩⟩;obtain⟨H6,e6,k6,h6⟩:=dJ (o:=.lst (List.replicate (if decide (0<d)=true then(1:Int)else 0).toNat [V.ref t]).flatten) ag;rw[e6];have B:=(B.go0 k4).go0$ k5.trans k6;obtain⟨aa,B2,l2⟩:=B.ext (decide$ 0<d) ((k5.trans k6) _ _ h4 ss) ft λz=>by have:=qBm z;lia
    refine⟨_,_,_,_,rF,rF,B.it.top,h6,?_,hN _ _ ⟨d,aa,rF,B2,Ll,λz=>absurd cw z⟩⟩;rw[qAD,iW,qAK];have:(if decide (0<d)=true then(1:Int)else 0).toNat<=1:=by split<;>decide
    simp only[qAa,qBB];lia
   .rintro σ H4 ⟨v6,af,rfl,B,e3,e4⟩;refine⟨_,rF,rF,_,rF,km (λσ H3=>∃(v6:Int) (aa:List ((Int×Int)×Addr)),σ=[some (.ref p),some (.int m),some (.int W),some (.int O),some (.ref l),some (.int$ 1+(i:Int)),some (.int v6),o7,o8]/\PB H p l m H3 aa/\aa.length<=ts.length+1/\(W≠1->W≠2->aa.length<=ts.length)) (λN hN=>dE (λc=>?_) λc=>hN _ _ ⟨v6,af,rF,B,e3,λz _=>e4 z⟩) ?_⟩
    .have cw:W=2:=by simpa using c
     have e5:=e4 Ll;refine⟨_,rF,_,rF,_,_,rF,rF,p,1+(i:Int)+1,rF,B.pu,Ll,Ll,λd H3 d0 d1 P3 K3=>?_⟩;have B:=B.go K3 P3;refine⟨_,rF,.inl ⟨rF,_,SqL.of B.it.top⟩,_,rF,_,rF,_,_,rF,rF,_,rF,(by walk_at"ln"),λt ht=>?_⟩;have ft:=B.fre ht;obtain⟨H4,e4,k4,h4⟩:=dJ (o:=.tup [.int (1+(i:Int)-d),.int (1+(i:Int))]) ht;rw[e4];refine⟨(by walk_at"ln"),λq hq=>?_⟩;obtain⟨H5,e5,k5,h5⟩:=dJ (o:=.lst [.ref t]) hq;rw[e5];refine⟨_,rF,_,_,rF,rF,.inr ⟨_,rF,_,_,_,rF,rF,h5,by split<;>decide,by split<;>decide,by rw[qAK];show 1*_<=_;split<;>decide,λr ag=>?_⟩⟩;obtain⟨H6,e6,k6,h6⟩:=dJ (o:=.lst (List.replicate (if decide (0<d)=true then(1:Int)else 0).toNat [V.ref t]).flatten) ag;rw[e6];have B:=(B.go0 k4).go0$ k5.trans k6;obtain⟨aa,B2,l2⟩:=B.ext (decide$ 0<d) ((k5.trans k6) _ _ h4 ss) ft λz=>by have:=qBm z;lia
     refine⟨_,_,_,_,rF,rF,B.it.top,h6,?_,hN _ _ ⟨d,aa,rF,B2,Ll,λ_ z=>absurd cw z⟩⟩;rw[qAD,iW,qAK];have:(if decide (0<d)=true then(1:Int)else 0).toNat<=1:=by split<;>decide
     simp only[qAa,qBB];lia
    .rintro σ H5 ⟨v6,aa,rfl,B,e5,e6⟩;refine⟨_,rF,_,rF,(by walk_at"ln"),λb hb=>?_⟩;obtain⟨H6,e7,k6,h6⟩:=dJ (o:=.lst [.int 1,.int 2]) hb;rw[e7];refine⟨_,_,rF,.inl$ SqL.of h6,rF,rF,.inr ⟨_,rF,?_⟩⟩;rw[qAC rF,xq]
     have ah:(if(!(decide (W=1)||decide (W=2)))=true then(1:Int)else 0)=0\/((if(!(decide (W=1)||decide (W=2)))=true then(1:Int)else 0)=1/\W≠1/\W≠2):=by
      by_cases z:W=1
      .left;simp[z]
      .by_cases y:W=2
       .left;simp[y]
       .right;simp[z,y]
     generalize (if(!(decide (W=1)||decide (W=2)))=true then(1:Int)else 0)=nn at ah ⊢;have hm:(1+(i:Int))*nn=0\/((1+(i:Int))*nn=1+i/\aa.length<=ts.length):=ah.imp (λz=>by rw[z];lia) λ⟨z,y,x⟩=>⟨by rw[z];lia,e6 y x⟩;refine⟨_,_,rF,rF,.inl ⟨Ll,Ll⟩,_,rF,Ll,Ll,zDw (lo:=0) (n:=((1+(i:Int))*nn).toNat) (λa σ H6=>∃(o7 o8:Option V) (ae:List ((Int×Int)×Addr)),σ=[some (.ref p),some (.int m),some (.int W),some (.int O),some (.ref l),some (.int$ 1+(i:Int)),some (.int v6),o7,o8]/\PB H p l m H6 ae/\ae.length<=aa.length+a) ⟨_,_,aa,rF,B.go0 k6,qAG _⟩ ?_ ?_⟩
     .rintro a σ H7 ha ⟨ak,al,ae,rfl,B,e8⟩;refine fJ ?_;intro _ _;have aq:(a:Int)<1+i:=Ll
      refine sT (λσ H8=>∃bN:Bool,σ=[some (.ref p),some (.int m),some (.int W),some (.int O),some (.ref l),some (.int$ 1+(i:Int)),some (.int v6),some (.int$ 0+(a:Int)),some (.bl bN)]/\H8=H7) (λN hN=>⟨_,rF,rF,_,rF,dE (λc=>hN _ _ ⟨true,rF,rF⟩) λc=>⟨_,rF,_,rF,_,_,rF,rF,⟨Ll,Ll⟩,_,_,rF,rF,_,rF,_,rF,_,_,rF,rF,⟨Ll,Ll⟩,rF,hN _ _ ⟨_,rF,rF⟩⟩⟩) ?_;rintro σ H8 ⟨bN,rfl,rfl⟩;refine⟨_,rF,_,rF,dE (λc=>⟨_,rF,_,rF,p,O,rF,B.pu,Ll,Ll,λd H9 d0 d1 P9 K9=>?_⟩) λc=>⟨_,_,ae,rF,B,Ll⟩⟩;have B:=B.go K9 P9;refine⟨rF,_,rF,rF,rF,_,rF,dE (λc=>⟨_,rF,.inl ⟨rF,_,SqL.of B.it.top⟩,_,rF,_,rF,(by walk_at"ln"),λt ht=>?_⟩) λc=>⟨_,_,ae,rF,B,Ll⟩⟩;have ft:=B.fre ht;obtain⟨ar,am,an,h10⟩:=dJ (o:=.tup [.int (0+(a:Int)),.int (1+(i:Int))]) ht;rw[am];have B:=B.go0 an;refine⟨_,_,_,rF,rF,B.it.top,by rw[qAD,qAK];lia,_,_,_,rF,B.add h10 ft Ll Ll Ll,?_⟩;rw[qAN];simp only[qAa,qBB];lia
     .rintro σ H7 ⟨ak,al,ae,rfl,B,e8⟩;refine⟨_,_,_,_,ae,rF,B,?_⟩;have:=qD i;show _<=(i+1)*(i+2);rw[<-this];lia
  .rintro σ H2 ⟨o5,o6,o7,o8,ts,rfl,B,e2⟩;have aj:(m-1).toNat*((m-1).toNat+1)<=19*20:=Nat.mul_le_mul Ll Ll;exact⟨_,rF,k l ts H2 B.fl B.it B.fr Ll B.ok B.pu B.kp⟩
end
theorem zH6{α:Type}[BEq α][LawfulBEq α]:∀{L:List α}{i:Nat}{x:α},L.Nodup->L[i]?=some x->L.idxOf x=i
 |[],i,x,_,h=>by simp at h
 |y::L,0,x,_,h=>by
  have:y=x:=qAb h;subst this;simp
 |y::L,i+1,x,S,h=>by
  rw[qCZ]at h;obtain⟨h1,h2⟩:=qBI.mp S;have O:y≠x:=λz=>h1$ z▸qAJ h;rw[List.idxOf_cons,qBG.mpr O];show L.idxOf x+1=i+1;rw[zH6 h2 h]
theorem gW{α S:Type}{f:α->S}:∀{L:List α},L.Nodup->(∀a∈L,∀b∈L,f a=f b->a=b)->(L.map f).Nodup
 |[],_,_=>qBC
 |x::L,h,hi=>by
  obtain⟨h1,h2⟩:=qBI.mp h;rw[qAt];refine qBI.mpr ⟨λz=>?_,gW h2 λa V b W=>hi a (qAX _ V) b$ qAX _ W⟩;obtain⟨y,O,e⟩:=qAe.mp z;rw[hi y (qAX _ O) x qAf e]at O;exact h1 O
theorem zHu{K:PySem.W.Frag}{c e:Addr}{xs:List V}{Q:VK}(h1:SqL K H c xs)(h2:SqL K H e [])(h:∀O:Bool,(O=true->xs≠[])->Q (.bl O) H):dU K 8 false (.ref c) (.ref e) H Q\/dR K true (.ref c) (.ref e) H Q:=by
 by_cases z:xs=[]
 .subst z;exact .inl ⟨c,e,_,_,rF,rF,h1,h2,rF,(λi x y h=>by simp at h),h false λz=>nomatch z⟩
 .refine .inr ⟨c,e,_,_,rF,rF,h1,h2,λy=>z$ qBx.mp y,h true λ_=>z⟩
structure gz(Is:List Int)(m:Nat):Prop where
 len:Is.length=m
 nd:Is.Nodup
 lt:∀x∈Is,0<=x/\x<m
theorem gz.put{O:List Int}{m:Nat}(S:gz O m)(d:Nat):gz (O.take d++(m:Int)::O.drop d) (m+1):=by
 have V:=ST.ins_perm O d (m:Int);refine⟨by rw[V.length_eq,qAa,S.len],V.nodup_iff.mpr$ qBI.mpr ⟨λz=>?_,S.nd⟩,λx W=>?_⟩
 .have:=(S.lt _ z).2;lia
 .rcases qAT.mp (V.mem_iff.mp W)with z|z
  .subst z;lia
  .have:=S.lt x z;lia
def fV(ns:List Str)(S:List Int):List Str:=S.map λk=>ns.getD k.toNat Str.empty
theorem qu{O:List Int}(V:ns.Nodup)(S:gz O ns.length):(fV ns O).Nodup:=by
 refine gW S.nd λa W b hb e=>?_;have h1:=S.lt a W;have h2:=S.lt b hb;have e1:ns.getD a.toNat Str.empty=ns[a.toNat]' Ll:=by rw[qBg,qAq Ll];rfl
 have e2:ns.getD b.toNat Str.empty=ns[b.toNat]' Ll:=by rw[qBg,qAq Ll];rfl
 rw[e1,e2]at e;have:=(List.getElem_inj V).mp e;lia
theorem kg{O:List Int}(S:gz O ns.length){i:Int}(h0:0<=i)(h1:i<ns.length):∃s n,O[i.toNat]?=some s/\0<=s/\ns[s.toNat]?=some n/\(fV ns O)[i.toNat]?=some n:=by
 have hi:i.toNat<O.length:=by rw[S.len];lia
 have hs:=S.lt O[i.toNat]$ qB8 hi;have V:O[i.toNat].toNat<ns.length:=Ll
 refine⟨O[i.toNat],ns[O[i.toNat].toNat],qAq hi,hs.1,qAq V,?_⟩;unfold fV;rw[qAY,qAq hi];show some (ns.getD _ _)=_;rw[qBg,qAq V];rfl
theorem iQ{α O:Type}(f:α->O)(L:List α)(d:Nat)(x:α):(L.map f).take d++f x::(L.map f).drop d=(L.take d++x::L.drop d).map f:=by
 rw[qAP,qAt,qBk,qBl]
theorem wK{ts:List ((Int×Int)×Addr)}{i:Nat}{v:V}(h:(ts.map λq=>V.ref q.2)[i]?=some v):∃q,ts[i]?=some q/\v= .ref q.2:=by
 rw[qAY]at h;obtain⟨n,e,r⟩:=qBU.mp h;exact⟨n,e,r.symm⟩
section
inductive iB(vs:List V)(H:Hp)(Q:VK)(u_3:XK):Prop
 |mk:∀(p:Addr)(mo:Int),vs=[.ref p,.int mo]->0<=mo->mo<=20->zB9 H p->(∀(t l m:Addr)(ns:List Str) (qs:List (List Str×Addr)) (r:Str->Nat) (H':Hp),(ns.length:Int)<=mo->qs.length<=192->H' t=some (.tup [.ref l,.ref m])->Fre H t->Fre H l->Fre H m->(∀q∈qs,Fre H q.2)->Txs H' l ns->fF H' m qs->qI ns qs r->zB9 H' p->Kp [p] H H'->Q (.ref t) H')->iB vs H Q u_3
abbrev iP:Stmt:=top 58
theorem zDz:dq ["_law_purse_here","_law_most","_law_many","_law_names_here","_law_way","_law_thin","_law_pairs_here","_law_k","_law_spots"] ["_law_purse_here","_law_most"] (zAg iP):=fnS
theorem sW(F:Fun K "_law_jobs" "_law_jobs" iP f fd)(T:Txt K mg)(W:Cal P w K mg base "_law_take" 1 ["_law_purse_here","_law_many"] eV)(aj:Cal P w K mg base "_law_names" 2 ["_law_purse_here","_law_many"] fR)
  (ak:Cal P w K mg base "_law_pairs" 2 ["_law_purse_here","_law_many","_law_way","_law_thin"] gi):dw P w K mg base CX0 3 f fd ["_law_purse_here","_law_most"] iB:=by
 refine F.ok zDz (λvs H Q E h=>?_) λbf A outer s H vs Q E hr h=>?_
 .obtain ⟨p,mo,rfl,_⟩:=h;rfl
 .obtain ⟨p,mo,rfl,bg,bh,hP,k⟩:=h;have ae:=hr;have af:=hr;have O:=hr.mono (j:=1) dD
  refine⟨_,(zAc (psS (i:=2) zDz.nd$ zAh W O rF$ zAa (pv 0)$ zAa (zAn zCy (pv 1) zAd) zAb) (zAc (psS (i:=3) zDz.nd$ zAh aj ae rF$ zAa (pv 0)$ zAa (pv 2) zAb)
   (zAc (psS (i:=4) zDz.nd$ zAh W O rF$ zAa (pv 0)$ zAa zAd zAb)
   (zAc (psS (i:=5) zDz.nd$ zBd zA0 (zAj$ zAa zAd$ zAa zAd$ zAa zAd$ zAa zAd$ zAa zAd zAb) (zAh W O rF$ zAa (pv 0)$ zAa zAd zAb) fun _ _=>rfl)
   (zAc (psS (i:=6) zDz.nd$ zAh ak af rF$ zAa (pv 0)$ zAa (pv 2)$ zAa (pv 4)$ zAa (pv 5) zAb)
   (zAc (zA7 qAc rF (zEr rF T.z_range$ zAa (zAn zFv (zA8 zEz rR T.z_int zIb$ zAa (zCs (zEt O) (pv 6) (zAj zAb)$ zAv _) zAb)$ zAh W O rF$ zAa (pv 0)$ zAa zAd zAb) zAb) (pgN (i:=7) zDz.nd)$ zAe$ zA2$ zD6 qAx qC8 qC9 zHv (pv 6)$ zAa (zAh W O rF$ zAa (pv 0)$ zAa (zAn zCy (zAi zAp rR T.z_len zBy$ zAa (pv 6) zAb) zAd) zAb)$ zAa (zBd zA0 (pv 6) (zAh W O rF$ zAa (pv 0)$ zAa (zAi zAp rR T.z_len zBy$ zAa (pv 6) zAb) zAb) λ_ _=>rfl) zAb)
   (zAc (psS (i:=8) zDz.nd$ zAj zAb)
   (zAc (zA7 qAc rF (zEr rF T.z_range$ zAa (pv 2) zAb) (pgN (i:=7) zDz.nd)$ zAe$ zA2$ zD6 qAx qC8 qC9 zHv (pv 8)$ zAa (zAh W O rF$ zAa (pv 0)$ zAa (zAn zCy (pv 7) zAd) zAb)$ zAa (pv 7) zAb)$ zAe$ zAw$ zCa$ zAa (pv 3)$ zAa (zBn rF (zBp (sc:=zAg iP) rF kK) (du.own (x:="_law_i")$ du.own (x:="_law_j")$ dtk (i:=3) rF$ dtk (i:=8) rF du.nil) (zAq$ pv 6) (λ_ _ _ _=>(i4 (K:=K) (n:=2) rF$ zBf (pgB (i:=0))$ zBf (pgB (i:=1)) zD5)) (λ_ _ _ _=>zCm) λ_ _ _ _=>(zCa$ zAa (zBd (zG8 (K:=K)) (pv 2) (zBd (zG8 (K:=K)) (pv 3) (pv 0) λ_ _=>rfl) λ_ _=>rfl)$ zAa (zBd (zG8 (K:=K)) (pv 2) (zBd (zG8 (K:=K)) (pv 3) (pv 1) λ_ _=>rfl) λ_ _=>rfl) zAb)) zAb)))))))),?_⟩
  refine wt ?_;intro _ _ _ _ _ _ _ _ _;refine⟨_,rF,_,rF,_,_,rF,rF,p,mo+1,rF,hP,Ll,Ll,λm H1 m0 m1 P1 K1=>?_⟩;refine⟨_,rF,_,rF,p,m,rF,P1,m0,Ll,λl ns H2 fl hl en nd nm P2 K2=>?_⟩;have ag:p≠l:=by obtain⟨a,b,e,_⟩:=P1;exact b_ fl e
  refine⟨_,rF,p,6,rF,P2,dD,dD,λau H3 w0 w1 P3 K3=>?_⟩;refine⟨(by walk_at"ln"),λb hb=>?_⟩;have fb:Fre H3 b:=hb;have aQ:p≠b:=by obtain⟨x,y,e,_⟩:=P3;exact b_ fb e
  refine⟨_,rF,p,5,rF,P3.kp (M:=[]) (Kp.new Kp.refl fb) ss,dD,dD,λd H4 d0 d1 P4 K4=>?_⟩
  obtain⟨th,aR,aS,az⟩:∃th:Int,([V.int 2,.int 3,.int 4,.int 6,.int 12])[d.toNat]?=some (.int th)/\2<=th/\th<=12:=by
   have:d=0\/d=1\/d=2\/d=3\/d=4:=Ll
   rcases this with rfl|rfl|rfl|rfl|rfl
   .exact ⟨2,rF,dD,dD⟩
   .exact ⟨3,rF,dD,dD⟩
   .exact ⟨4,rF,dD,dD⟩
   .exact ⟨6,rF,dD,dD⟩
   .exact ⟨12,rF,dD,dD⟩
  refine⟨_,_,_,.int th,rF,rF,SqL.of$ K4 b _ ac$ nm1 aQ.symm,zEj d0 aR,?_⟩;have aA:Kp [p] H3 H4:=Kp.trans (Kp.new Kp.refl fb) K4;have aB:Kp [p] H1 H4:=K2.trans$ K3.trans aA;have aC:Txs H4 l ns:=(K3.trans aA) l _ hl$ nm1 ag.symm;refine⟨_,rF,_,rF,_,rF,_,rF,p,m,au,th,rF,P4,m0,Ll,aS,az,λc ts H5 fc I5 aT bi aU P5 K5=>?_⟩;have ah:p≠c:=by obtain⟨x,y,e,_⟩:=P4;exact b_ fc e
  have aV:Txs H5 l ns:=K5 l _ aC$ nm1 ag.symm;have aD:l≠c:=b_ fc aC;have aW:Kp [p] H H5:=K1.trans$ aB.trans K5;have aX:Fre H c:=(K1.trans aB).fre fc$ nm1 ah.symm;have aY:Fre H l:=K1.fre fl$ nm1 ag.symm;refine⟨_,rF,(by walk_at"ln"),λe he=>?_⟩;have fe:Fre H5 e:=he;have bj:p≠e:=by obtain⟨x,y,q,_⟩:=P5;exact b_ fe q
  have av:Kp [] H5 (upd H5 e$ .lst []):=Kp.new Kp.refl fe;have aE:=I5.kp av ss ss;refine zHu (xs:=ts.map λt=>V.ref t.2) (SqL.of aE.top) (SqL.of ac) λbb aZ=>?_;refine .inr ⟨bb,rF,?_⟩;refine⟨_,rF,p,3,rF,P5.kp av ss,dD,dD,λdd H6 bk bl P6 K6=>?_⟩;have aF:Kp [p] H5 H6:=Kp.trans (av.weak ss) K6;have aw:∀t∈ts,t.2∉[p]:=λt ht=>nm1 (by obtain⟨x,y,q,_⟩:=P4;exact(b_ (aT t ht) q).symm);have I6:ITs H6 c ts:=aE.kp K6 (nm1 ah.symm) aw
  have aa:(if bb=true then(1:Int)else 0)*dd=0\/((if bb=true then(1:Int)else 0)*dd=dd/\ts≠[]):=by
   cases bb with
   |false=>left;rw[qAB dD];lia
   |true=>right;rw[qAC rF];exact⟨Ll,λz=>aZ rF$ by rw[z];rfl⟩
  have aG:(if bb=true then(1:Int)else 0)=0\/(if bb=true then(1:Int)else 0)=1:=by cases bb<;>simp
  generalize (if bb=true then(1:Int)else 0)=a0 at aa aG ⊢
  refine⟨_,_,rF,rF,?_,_,rF,by rcases aa with z|⟨z,_⟩<;>lia,by rcases aa with z|⟨z,_⟩<;>lia,zDw (lo:=0) (n:=(a0*dd).toNat) (λi σ H7=>∃(o7 o8:Option V) (S:List ((Int×Int)×Addr)),σ=[some (.ref p),some (.int mo),some (.int m),some (.ref l),some (.int au),some (.int th),some (.ref c),o7,o8]/\zB9 H7 p/\Kp [p] H H7/\Txs H7 l ns/\ITs H7 c S/\(∀t∈S,t∈ts)/\S.length=ts.length+i)
   ⟨_,_,ts,rF,P6,aW.trans aF,aF l _ aV$ nm1 ag.symm,I6,λt h=>h,rF⟩ ?_ ?_⟩
  .rcases aG with z|z
   .exact Or.inl ⟨Ll,Ll⟩
   .exact Or.inl ⟨Ll,Ll⟩
  .rintro i σ H7 hi ⟨o7,o8,S,rfl,P7,K7,ao,I7,s7,e7⟩
   have ne:ts≠[]:=by
    rcases aa with z|⟨_,z⟩
    .rw [z]at hi;exact absurd hi$ Nat.not_lt_zero _
    .exact z
   have pos:0<S.length:=by
    have:=qB1.mpr ne;lia
   have ad:∀t∈S,t.2∉[p]:=λt ht=>aw t$ s7 t ht;have be:l≠c:=aD;refine⟨_,rF,.inl ⟨rF,_,SqL.of I7.top⟩,_,rF,_,rF,_,_,rF,.inl$ SqL.of I7.top,_,_,rF,rF,p,_,rF,P7,?_,?_,λd1 H8 x0 x1 P8 K8=>?_⟩
   .lia
   .rw [qAD];have:i<3:=by rcases aa with z|⟨z,_⟩<;>lia
    lia
   have I8:ITs H8 c S:=I7.kp K8 (nm1 ah.symm) ad;refine⟨_,rF,_,rF,_,rF,_,_,rF,.inl$ SqL.of I8.top,p,_,rF,P8,?_,?_,λd2 H9 y0 y1 P9 K9=>?_⟩
   .rw [qAD];lia
   .rw [qAD];have:i<3:=by rcases aa with z|⟨z,_⟩<;>lia
    lia
   have I9:ITs H9 c S:=I8.kp K9 (nm1 ah.symm) ad;rw[qAD]at x1 y1;obtain⟨t,et⟩:∃t,S[d2.toNat]?=some t:=⟨S[d2.toNat]' Ll,qAq Ll⟩;have a5:(S.map λt=>V.ref t.2)[d2.toNat]?=some (V.ref t.2):=by rw[qAY,et];rfl
   refine⟨_,_,_,.ref t.2,rF,rF,SqL.of I9.top,zEj y0 a5,_,_,_,_,rF,rF,I9.top,?_,x0,?_,?_⟩
   .rw [qAD,qAK];have:i<3:=by rcases aa with z|⟨z,_⟩<;>lia
    lia
   .rw [qAD];lia
   .have hp:=ST.ins_perm S d1.toNat t;refine⟨_,_,S.take d1.toNat++t::S.drop d1.toNat,rF,P9.kp (M:=[c]) (Kp.put Kp.refl ss)$ nm1 ah,Kp.new (K7.trans$ K8.trans K9) aX,(a_ aD).trans$ (K8.trans K9) l _ ao$ nm1 ag.symm,⟨?_,λu hu=>?_⟩,λu hu=>?_,?_⟩
    .rw [ac,iQ λt:(Int×Int)×Addr=>V.ref t.2]
    .have aH:u∈S:=by
      rcases qAT.mp (hp.mem_iff.mp hu)with z|z
      .rw [z];exact qAJ et
      .exact z
     exact(a_$ zCp (I9.row u aH) I9.top λy=>nomatch y).trans$ I9.row u aH
    .rcases qAT.mp (hp.mem_iff.mp hu)with z|z
     .rw [z];exact s7 t$ qAJ et
     .exact s7 u z
    .rw [hp.length_eq,qAa,e7];lia
  .rintro σ H7 ⟨o7,o8,S,rfl,P7,K7,ao,I7,s7,e7⟩;have bn:S.length<=192:=by rcases aa with z|⟨z,_⟩<;>lia
   refine⟨(by walk_at"ln"),λg hg=>?_⟩;have fg:Fre H7 g:=hg;have ax:p≠g:=by obtain⟨x,y,q,_⟩:=P7;exact b_ fg q
   have a6:l≠g:=b_ fg ao;have a7:c≠g:=b_ fg I7.top;have aI:Fre H g:=K7.fre fg$ nm1 ax.symm;have ay:Kp [] H7 (upd H7 g$ .lst []):=Kp.new Kp.refl fg;have ad:∀t∈S,t.2∉[p]:=λt ht=>aw t$ s7 t ht
   refine⟨_,rF,_,rF,Ll,Ll,zDw (lo:=0) (n:=m.toNat) (λi σ H8=>∃(o7:Option V)(Is:List Int),σ=[some (.ref p),some (.int mo),some (.int m),some (.ref l),some (.int au),some (.int th),some (.ref c),o7,some (.ref g)]/\zB9 H8 p/\Kp [p] H H8/\Txs H8 l ns/\ITs H8 c S/\H8 g=some (.lst$ Is.map V.int)/\gz Is i)
    ⟨_,[],rF,P7.kp ay ss,Kp.new K7 aI,ay l _ ao ss,I7.kp ay ss ss,ac,rF,qBC,(λx h=>nomatch h)⟩ ?_ ?_⟩
   .rintro i σ H8 hi ⟨o7,Is,rfl,P8,K8,ap,I8,aq,S8⟩;refine⟨_,rF,.inl ⟨rF,_,SqL.of aq⟩,_,rF,_,rF,_,_,rF,rF,p,_,rF,P8,?_,?_,λd1 H9 x0 x1 P9 K9=>?_⟩
    .lia
    .lia
    have al:=K9 g _ aq$ nm1 ax.symm;refine⟨_,rF,_,_,_,_,rF,rF,al,?_,x0,?_,?_⟩
    .rw [qAD,S8.len,qAK];lia
    .rw [qAD,S8.len];lia
    .have e1:(Is.map V.int).take d1.toNat++V.int (0+(i:Int))::(Is.map V.int).drop d1.toNat=(Is.take d1.toNat++(i:Int)::Is.drop d1.toNat).map V.int:=by
      rw[Int.zero_add];exact iQ V.int Is d1.toNat (i:Int)
     rw[e1];have ar:=K9 l _ ap$ nm1 ag.symm;have I9:=I8.kp K9 (nm1 ah.symm) ad;exact⟨_,_,rF,P9.kp (M:=[g]) (Kp.put Kp.refl ss)$ nm1 ax,Kp.new (K8.trans K9) aI,(a_ a6).trans ar,⟨(a_ a7).trans I9.top,λu hu=>(a_$ zCp (I9.row u hu) al λy=>nomatch y).trans$ I9.row u hu⟩,ac,S8.put _⟩
   .rintro σ H8 ⟨o7,Is,rfl,P8,K8,ap,I8,aq,S8⟩;rw[<-en]at S8;have bo:(ns.length:Int)=m:=by rw[en];lia
    refine⟨_,rF,_,rF,_,rF,⟨_,SqL.of I8.top⟩,λB hB=>zBc (S.map λt=>V.ref t.2) (λi ys τ H9=>∃ks:List (List Str×Addr),(∃o0 o1,τ=[o0,o1,some (.ref l),some (.ref g)])/\ys=(ks.map λq=>V.ref q.2)/\ks.length=i/\(∀q∈ks,H9 q.2=some (.tup$ q.1.map V.str)/\Fre H q.2/\∃(a b:Str)(x y:Nat),q.1=[a,b]/\x<y/\(fV ns Is)[x]?=some a/\(fV ns Is)[y]?=some b)/\Kp [] H8 H9/\H9 B=some (.lst ys)) ⟨[],⟨_,_,rF⟩,rF,rF,(λq h=>nomatch h),Kp.new Kp.refl hB,ac⟩ (λi ys τ H9 ⟨_,_,_,_,_,k9,_⟩=>SqL.of$ k9 c _ I8.top ss) ?_ ?_⟩
    .rintro i v ys τ H9 hv ⟨ks,⟨o0,o1,rfl⟩,rfl,ek,hk,k9,h9⟩;obtain⟨t,eq,rfl⟩:=wK hv;have mt:=qAJ eq;have aJ:=aU t$ s7 t mt;have aK:H9 t.2=some (.tup [.int t.1.1,.int t.1.2]):=k9 t.2 _ (I8.row t mt) ss;refine⟨_,_,rF,.inl$ .inl aK,rF,_,_,rF,_,_,rF,rF,?_⟩;obtain⟨s1,n1,a1,a2,a3,a4⟩:=kg S8 aJ.1 Ll;obtain⟨s2,n2,b1,b2,b3,b4⟩:=kg S8 (i:=t.1.2) Ll Ll;have ar:=k9 l _ ap ss;have al:=k9 g _ aq ss;have ai:∀{x:Int}{s:Int},0<=x->Is[x.toNat]?=some s->atI (Is.map V.int) x=some (.int s):=λh0 h=>zEj h0 (by rw[qAY,h];rfl);have an:∀{x:Int}{n:Str},0<=x->ns[x.toNat]?=some n->atI (ns.map V.str) x=some (.str n):=λh0 h=>zEj h0 (by rw[qAY,h];rfl);refine⟨_,rF,_,rF,_,rF,_,_,_,_,rF,rF,SqL.of al,ai aJ.1 a1,_,_,_,_,rF,rF,SqL.of ar,an a2 a3,_,rF,_,rF,_,rF,_,_,_,_,rF,rF,SqL.of al,ai Ll b1,_,_,_,_,rF,rF,SqL.of ar,an b2 b3,(by walk_at"ln"),λu hu=>?_⟩;have fu:Fre H9 u:=hu;have aL:B≠u:=b_ fu h9;have aM:Fre H8 u:=k9.fre fu ss;have a8:p≠u:=by obtain⟨x,y,q,_⟩:=P8;exact b_ aM q
     have a9:Fre H u:=K8.fre aM$ nm1 a8.symm;refine⟨(a_ aL).trans h9,?_,ks++[([n1,n2],u)],⟨_,_,rF⟩,?_,by rw[qAN,ek];rfl,λq hq=>?_,Kp.new (Kp.new k9$ k9.fre fu ss) hB,ac⟩
     .have:=(qAL.mp eq).1;rw[qAD,ek,qAK];lia
     .rw [qAP];rfl
     .rcases qAR.mp hq with z|z
      .obtain ⟨z1,z2⟩:=hk q z;exact⟨(a_$ zCp z1 h9 λy=>nomatch y).trans$ (a_$ b_ fu z1).trans z1,z2⟩
      .rw [qAO.mp z];exact⟨(a_ aL.symm).trans ac,a9,n1,n2,t.1.1.toNat,t.1.2.toNat,rF,Ll,a4,b4⟩
    .rintro ys τ H9 ⟨ks,_,rfl,ek,hk,k9,h9⟩;rw[qAD]at ek;refine⟨(by walk_at"ln"),λt ht=>?_⟩;have ft:Fre H9 t:=ht;have am:Kp [] H9 (upd H9 t$ .tup [.ref l,.ref B]):=Kp.new Kp.refl ft;have aN:Fre H8 t:=k9.fre ft ss;have ba:p≠t:=by obtain⟨x,y,q,_⟩:=P8;exact b_ aN q
     have bc:p≠B:=by obtain⟨x,y,q,_⟩:=P8;exact b_ (show Fre H8 B from hB) q
     have aO:=qu nd S8
     have aP:∀{x:Nat}{a:Str},(fV ns Is)[x]?=some a->a∈ns:=λ{x a} h=>by
      obtain⟨s,hs,e⟩:=qAe.mp$ qAJ h;have:=S8.lt s hs;rw[<-e,qBg,qAq Ll];exact qB8 _
     refine k t l B ns ks (λn=>(fV ns Is).idxOf n) _ (by rw[en];lia) Ll ac (K8.fre aN$ nm1 ba.symm) aY (K8.fre (show Fre H8 B from hB)$ nm1 bc.symm) (λq hq=>(hk q hq).2.1) ((k9.trans am) l _ ap ss) ⟨am B _ h9 ss,λq hq=>am _ _ (hk q hq).1 ss,λq hq=>?_⟩ ⟨nm,nd,by rw[en];lia,Ll,λq hq x hx=>?_,λq hq=>?_⟩ (P8.kp (k9.trans am) ss)$ K8.trans$ (k9.trans am).weak ss
     .obtain ⟨a,b,x,y,e,_⟩:=(hk q hq).2.2;exact⟨a,b,e⟩
     .obtain ⟨a,b,i,j,e,_,h1,h2⟩:=(hk q hq).2.2;rw[e]at hx;rcases qAT.mp hx with z|z
      .rw [z];exact aP h1
      .rw [qAO.mp z];exact aP h2
     .obtain ⟨a,b,i,j,e,bd,h1,h2⟩:=(hk q hq).2.2;have e1:fst q=a:=by unfold fst;rw[e];rfl
      have e2:snd q=b:=by unfold snd;rw[e];rfl
      rw[e1,e2,zH6 aO h1,zH6 aO h2];exact bd
end
structure Mth(P:Program)(w:World)(K:PySem.W.Frag)(mg:Str->Option Value)(base:Heap)(C:Addr)(m:Str)(k:Nat)(ps:List Str)(sp:Sp):Prop where
 to:∃(f:Addr)(fd:FuncData),tX K C m f/\zDe K fd ps []/\dw P w K mg base CX0 k f fd ps sp
theorem i9{m:Str}{k:Nat}{ps:List Str}{o e:Expr}{es:List Expr}{apos pos:Pos}{ta:TE}{t:TA}{pl:Sem Bool}(M:Mth X.prog X.w X.K X.mg X.base C m k ps sp)(c:Cls X.K C)(V:dF k X.A)(W:PE X o ta)(ha:PA X (e::es) t)
  (O:starEach (e::es) X.env=(false,eval e X.env)::starEach es X.env:=by rfl) (S:(backTo pos$ starEach es X.env).any (·.1)=false:=by rfl)
  (ht:eval (.Call (.Attribute o m apos) (e::es) [] pos) X.env=(do
   let ov<-eval o X.env
   standAt apos.atName
   let(f,first)<-holding [ov] (getMethod ov m pl)
   callWith pos f first (backTo pos$ starEach (e::es) X.env) (backToKw pos$ keywordEach [] X.env)):=by rfl):PE X (.Call (.Attribute o m apos) (e::es) [] pos) (mQ C m sp [] E0 ta t):=by
 obtain⟨f,fd,h1,h2,h3⟩:=M.to;exact sk W c h1 h3 V h2 .nil lW ha O S ht
theorem gS{m:Str}{k:Nat}{ps:List Str}{o:Expr}{apos:Pos}{ta:TE}{pl:Sem Bool}(M:Mth X.prog X.w X.K X.mg X.base C m k ps sp)(c:Cls X.K C)(O:dF k X.A)(S:PE X o ta)
  (V:eval (.Call (.Attribute o m apos) [] [] pos) X.env=(do
   let ov<-eval o X.env
   standAt apos.atName
   let(f,first)<-holding [ov] (getMethod ov m pl)
   callWith pos f first (backTo pos$ starEach [] X.env) (backToKw pos$ keywordEach [] X.env)):=by rfl):PE X (.Call (.Attribute o m apos) [] [] pos) (mQ C m sp [] E0 ta gw):=by
 obtain⟨f,fd,h1,h2,h3⟩:=M.to;exact pG S c h1 h3 O h2 .nil lW V
structure Mkr(P:Program)(w:World)(K:PySem.W.Frag)(mg:Str->Option Value)(base:Heap)(C:Addr)(x:Str)(k:Nat)(ps:List Str)(sp:Sp):Prop where
 to:∃(f:Addr)(fd:FuncData),Mk K C f/\mg x=some (.ref C)/\zDe K fd ps []/\dw P w K mg base CX0 k f fd ps sp
theorem qf{k:Nat}{ps:List Str}{e:Expr}{es:List Expr}{p:Pos}{t:TA}(M:Mkr X.prog X.w X.K X.mg X.base C x k (("self": Str)::ps) sp)(V:dF (k+1) X.A)(W:Gl X x)(ha:PA X (e::es) t)
  (O:(x==("__debug__": Str))=false:=by decide) (he:starEach (e::es) X.env=(false,eval e X.env)::starEach es X.env:=by rfl) (S:(backTo pos$ starEach es X.env).any (·.1)=false:=by rfl):PE X (.Call (.Name x p) (e::es) [] pos) (uh C sp [] E0 t):=by
 obtain⟨f,fd,h1,h2,h3,h4⟩:=M.to;exact tR h1 h4 V W h2 h3 .nil lW ha O he S
def TA(qs:List (List Str×Addr))(a b:Str):Prop:=∃q∈qs,fst q=a/\snd q=b
inductive Way(qs:List (List Str×Addr)):Str->Str->Prop
 |one {a b:Str}:TA qs a b->Way qs a b
 |more {a b c:Str}:Way qs a b->TA qs b c->Way qs a c
theorem TA.to(two:∀q∈qs,∃a b,q.1=[a,b])(O:∀q∈qs,∀x∈q.1,x∈ns){a b:Str}(h:TA qs a b):a∈ns/\b∈ns:=by
 obtain⟨q,S,rfl,rfl⟩:=h;obtain⟨a,b,e⟩:=two q S;unfold fst snd;rw[e];exact⟨O q S a (by rw[e];simp),O q S b$ by rw[e];simp⟩
theorem Way.to(two:∀q∈qs,∃a b,q.1=[a,b])(O:∀q∈qs,∀x∈q.1,x∈ns){a b:Str}(h:Way qs a b):a∈ns/\b∈ns:=by
 induction h with
 |one h=>exact h.to two O
 |more _ h S=>exact⟨S.1,(h.to two O).2⟩
theorem xj{j:Addr}{J:JR}{r:Str->Nat}(A:dG C H j J)(G:qI J.ns qs r)(hz:∀k,k∈J.zs.map (·.1)↔k∈qs.map (·.1))(O:n∈J.ns):x∈J.S n↔Way qs x n:=by
 have tk:∀n x,x∈told J.zs n↔TA qs x n:=λn x=>by
  rw[zJq];constructor
  .rintro ⟨q,h1,h2,h3⟩;obtain⟨V,h4,h5⟩:=qAe.mp$ (hz q.1).mp$ qAe.mpr ⟨q,h1,rF⟩;obtain⟨W,e2⟩:=lA h5;exact⟨V,h4,W.trans h3,e2.trans h2⟩
  .rintro ⟨q,h1,h2,h3⟩;obtain⟨V,h4,h5⟩:=qAe.mp$ (hz q.1).mpr$ qAe.mpr ⟨q,h1,rF⟩;obtain⟨W,e2⟩:=lA h5;exact⟨V,h4,e2.trans h3,W.trans h2⟩
 have S:∀n x,TA qs x n->x∈J.ns/\r x<r n:=λn x h=>by
  have hT:=(tk n x).mpr h;obtain⟨q,q1,q2,q3⟩:=zJq.mp hT;obtain⟨a,b,e⟩:=A.prs.two q q1;refine⟨?_,?_⟩
  .rw [<-q3];refine A.zin q q1 _ ?_;unfold fst;rw[e];simp
  .obtain ⟨V,h1,h2,h3⟩:=h;rw[<-h2,<-h3];exact G.rk V h1
 constructor
 .have:∀(b:Nat)(n:Str),r n<=b->n∈J.ns->∀x,x∈J.S n->Way qs x n:=by
   intro b
   induction b with
   |zero=>
    intro n hb O x hx;rcases(A.mem n O x).mp hx with z|⟨m,z,_⟩
    .exact .one$ (tk n x).mp z
    .have:=(S n m$ (tk n m).mp z).2;lia
   |succ b ih=>
    intro n hb O x hx;rcases(A.mem n O x).mp hx with z|⟨m,z,z'⟩
    .exact .one$ (tk n x).mp z
    .have h1:=S n m$ (tk n m).mp z;exact .more (ih m Ll h1.1 x z')$ (tk n m).mp z
  exact this (r n) n (qAG _) O x
 .intro w
  induction w with
  |one h=>exact(A.mem _ O _).mpr$ .inl$ (tk _ _).mpr h
  |more _ h ih=>exact(A.mem _ O _).mpr$ .inr ⟨_,(tk _ _).mpr h,ih (S _ _ h).1⟩
structure DS(H0 H:Hp)(d:Addr)(ns:List Str)(la:Str->Addr)(L:Str->List Str):Prop where
 top:H d=some (.dK$ dT1 ns λn=>.ref$ la n)
 row:∀n∈ns,dO H (la n) (L n)
 ne:∀n∈ns,la n≠d
 fr:Fre H0 d
 frs:∀n∈ns,Fre H0 (la n)
theorem oX{K:PySem.W.Frag}{c e:Addr}{xs:List V}{Q:VK}(h1:SqL K H c xs)(h2:SqL K H e [])(h:Q (.bl$ decide$ xs≠[]) H):dU K 8 false (.ref c) (.ref e) H Q\/dR K true (.ref c) (.ref e) H Q:=by
 by_cases z:xs=[]
 .subst z;exact .inl ⟨c,e,_,_,rF,rF,h1,h2,rF,(λi x y h=>by simp at h),h⟩
 .rw [qAV z]at h;exact .inr ⟨c,e,_,_,rF,rF,h1,h2,λy=>z$ qBx.mp y,h⟩
def d9(H:Hp)(a:Addr):Nat:=match H a with
 |some (.lst xs)=>xs.length
 |some (.dK S)=>S.length
 |_=>0
theorem zI6{a:Addr}{xs:List V}(h:H a=some (.lst xs)):d9 H a=xs.length:=by unfold d9;rw[h]
theorem hX{a:Addr}{S:List (Key×V)}(h:H a=some (.dK S)):d9 H a=S.length:=by unfold d9;rw[h]
theorem jk(B:List Str)(x:Str)(g:Str->V):dT1 (B++[x]) g=dT1 B g++[(.inr x,g x)]:=by unfold dT1;rw[qAP];rfl
theorem zEa(B:List Str)(g:Str->V):(dT1 B g).length=B.length:=by unfold dT1;rw[qAD]
structure DR(H:Hp)(d:Addr)(ns:List Str)(la:Str->Addr)(L:Str->List Str):Prop where
 top:H d=some (.dK$ dT1 ns λn=>.ref$ la n)
 row:∀n∈ns,dO H (la n) (L n)
theorem DS.rd{H0:Hp}{O:Str->Addr}{L:Str->List Str}(D:DS H0 H d ns O L):DR H d ns O L:=⟨D.top,D.row⟩
theorem DR.kp0{O:Str->Addr}{L:Str->List Str}(D:DR H d ns O L)(k:Kp [] H H'):DR H' d ns O L:=⟨k d _ D.top ss,λn S=>k _ _ (D.row n S) ss⟩
theorem DR.get{O:Str->Addr}{L:Str->List Str}(D:DR H d ns O L){y:Str}(S:y∈ns):dL H d (.str y) (some$ .ref$ O y):=by
 have:=dL.k (k:=Sum.inr y) D.top;rw[zCh,qAC S]at this;exact this
def zB0(qs:List (List Str×Addr))(n:Str):List Str:=(qs.filter λq=>decide$ fst q=n).map snd
theorem zF0{y:Str}:y∈zB0 qs n↔TA qs n y:=by
 unfold zB0 TA;simp only[qAe,qBZ,qC5];exact⟨λ⟨q,⟨a,b⟩,c⟩=>⟨q,a,b,c⟩,λ⟨q,a,b,c⟩=>⟨q,⟨a,b⟩,c⟩⟩
theorem zFy(qs:List (List Str×Addr))(n:Str):(zB0 qs n).length<=qs.length:=by
 unfold zB0;rw[qAD];exact qBe _ _
structure NR(H:Hp)(d:Addr)(ns:List Str)(na:Str->Addr)(f:Str->List Str):Prop where
 top:H d=some (.dK$ dT1 ns λn=>.ref$ na n)
 row:∀n∈ns,Txs H (na n) (f n)
theorem NR.kp{M:List Addr}{O:Str->Addr}{f:Str->List Str}(D:NR H d ns O f)(k:Kp M H H')(h1:d∉M)(h2:∀n∈ns,O n∉M):NR H' d ns O f:=⟨k d _ D.top h1,λn S=>k _ _ (D.row n S)$ h2 n S⟩
theorem NR.get{O:Str->Addr}{f:Str->List Str}(D:NR H d ns O f){y:Str}(S:y∈ns):dL H d (.str y) (some$ .ref$ O y):=by
 have:=dL.k (k:=Sum.inr y) D.top;rw[zCh,qAC S]at this;exact this
structure BK(qs:List (List Str×Addr))(ns:List Str)(n:Str)(B W:List Str):Prop where
 nd:B.Nodup
 sub:∀x∈B,x∈ns
 way:∀x∈B,Way qs n x
 wl:∀x∈W,Way qs n x
 c0:∀y,TA qs n y->y∈B\/y∈W
 cl:∀x∈B,∀y,TA qs x y->y∈B\/y∈W
 cap:W.length+307*(20-B.length)<=6447
theorem BK.start(h:qs.length<=306):BK qs ns n [] (zB0 qs n) :=
 ⟨qBC,(λx h=>nomatch h),(λx h=>nomatch h),λx h=>.one$ zF0.mp h,λy h=>.inr$ zF0.mpr h,(λx h=>nomatch h),by
  have:=zFy qs n;simp only[qBB];lia⟩
theorem BK.old{S:Str}{B W:List Str}(b:BK qs ns n B (W++[S]))(h:S∈B):BK qs ns n B W:=by
 have mv:∀y,(y∈B\/y∈W++[S])->y∈B\/y∈W:=λy O=>by
  rcases O with z|z
  .exact .inl z
  .rcases qAR.mp z with z|z
   .exact .inr z
   .rw [qAO.mp z];exact .inl h
 refine⟨b.nd,b.sub,b.way,λx V=>b.wl x$ qAp _ V,λy O=>mv y$ b.c0 y O,λx V y O=>mv y$ b.cl x V y O,?_⟩;have:=b.cap;rw[qAN,qAn]at this;lia
theorem BK.new{O:Str}{B W:List Str}(b:BK qs ns n B (W++[O]))(h:O∉B)(S:O∈ns)(hn:ns.length<=20)(hq:qs.length<=306):BK qs ns n (B++[O]) (W++zB0 qs O)/\(W++zB0 qs O).length+307*(20-(B++[O]).length)<W.length+1+307*(20-B.length):=by
 have nd:(B++[O]).Nodup:=qBX.mpr ⟨b.nd,ss,λa ha d hd=>by
  rw[qAO.mp hd];exact λz=>h$ z▸ha⟩
 have sub:∀x∈B++[O],x∈ns:=λx h=>by
  rcases qAR.mp h with z|z
  .exact b.sub x z
  .rw [qAO.mp z];exact S
 have w0:Way qs n O:=b.wl O ss
 have mv:∀y,(y∈B\/y∈W++[O])->y∈B++[O]\/y∈W++zB0 qs O:=λy V=>by
  rcases V with z|z
  .exact .inl$ qAp _ z
  .rcases qAR.mp z with z|z
   .exact .inr$ qAp _ z
   .exact .inl$ qAs _ z
 have less:(W++zB0 qs O).length+307*(20-(B++[O]).length)<W.length+1+307*(20-B.length):=by
  have h1:=zB3 nd sub;have h2:=zFy qs O;simp only[qAN,qAn]at *
  lia
 refine⟨⟨nd,sub,λx S=>?_,λx S=>?_,λy V=>mv y$ b.c0 y V,λx S y V=>?_,?_⟩,less⟩
 .rcases qAR.mp S with z|z
  .exact b.way x z
  .rw [qAO.mp z];exact w0
 .rcases qAR.mp S with z|z
  .exact b.wl x$ qAp _ z
  .exact .more w0$ zF0.mp z
 .rcases qAR.mp S with z|z
  .exact mv y$ b.cl x z y V
  .rw [qAO.mp z]at V;exact .inr$ qAs _$ zF0.mpr V
 .have:=b.cap;rw[qAN,qAn]at this;lia
theorem BK.all{B:List Str}(b:BK qs ns n B [])(x:Str):x∈B↔Way qs n x:=by
 refine⟨b.way x,λh=>?_⟩
 induction h with
 |one h=>exact(b.c0 _ h).elim id (λz=>nomatch z)
 |more _ h O=>exact(b.cl _ O _ h).elim id (λz=>nomatch z)
theorem jl{b:Addr}{O:Str->Addr}(h:n∉ns):dT1 ns (λn=>V.ref$ O n)++[(Sum.inr n,V.ref b)]=dT1 (ns++[n]) (λx=>V.ref$ if x=n then b else O x):=by
 rw[jk,qAC rF];congr 1;exact zH9 λx S=>by rw[qAB$ show¬x=n from λz=>h$ z▸S]
section
inductive fo(vs:List V)(H:Hp)(Q:VK)(u_3:XK):Prop
 |mk:∀(l m:Addr)(ns:List Str) (qs:List (List Str×Addr)),vs=[.ref l,.ref m]->Txs H l ns->fF H m qs->ns.Nodup->ns.length<=20->qs.length<=306->(∀q∈qs,∀x∈q.1,x∈ns)->(∀d la L H',DS H H' d ns la L->(∀n∈ns,(L n).Nodup/\∀x,x∈L n↔Way qs n x)->Kp [] H H'->Q (.ref d) H')->fo vs H Q u_3
abbrev zG4:Stmt:=top 59
theorem zC7:dq ["_law_names_here","_law_orders","_law_near","_law_name","_law_found","_law_waiting","_law_here"] ["_law_names_here","_law_orders"] (zAg zG4):=fnS
theorem oq(F:Fun K "_law_behind" "_law_behind" zG4 f fd)(T:Txt K mg):dw P w K mg base CX0 1 f fd ["_law_names_here","_law_orders"] fo:=by
 refine F.ok zC7 (λvs H Q E h=>?_) λaR A outer s H vs Q E hr h=>?_
 .obtain ⟨l,m,ns,qs,rfl,_⟩:=h;rfl
 .obtain ⟨l,m,ns,qs,rfl,hl,hm,hN,hn,hz,hq,k⟩:=h;have hu:=zF2 hr
  refine⟨_,(zAc (psS (i:=2) zC7.nd zBv) (zAc (zA7 qAc rF (zAq$ pv 0) (pgN (i:=3) zC7.nd)$ zAe$ zD4 hu (pv 2) (pv 3) (zBn rF (zBp (sc:=zAg zG4) rF kK) (du.own (x:="_law_one")$ du.own (x:="_law_other")$ dtk (i:=3) rF du.nil) (zAq$ pv 1) (λ_ _ _ _=>(i4 (K:=K) (n:=2) rF$ zBf (pgB (i:=0))$ zBf (pgB (i:=1)) zD5)) (λ_ _ _ _=>(zCl$ zAr zD8 (pv 0) (pv 2)$ zAv _)) λ_ _ _ _=>(pv 1)) rF)
   (zAc (psS (i:=4) zC7.nd zBv)
   (zAc (zA7 qAc rF (zAq$ pv 0) (pgN (i:=3) zC7.nd)
    (zAc (zD4 hu (pv 4) (pv 3) zBv rF)
    (zAc (psS (i:=5) zC7.nd$ zA8 zBu rR T.z_list zCe$ zAa (zB8 hu (pv 2) (pv 3) fun _ _=>rfl) zAb)
    (zAe (zJf qAc (zAr (zEt hr) (pv 5) (zAj zAb)$ zAv _)
     (zAc (psS (i:=6) zC7.nd$ ph qAx PySem.F.slot_list_pop PySem.F.type_list_pop pD$ pv 5)
     (zAe (zBk (zEg$ zDa hu (pv 6)$ zB8 hu (pv 4) (pv 3) fun _ _=>rfl)
      (zAc (zD4 hu (zB8 hu (pv 4) (pv 3) fun _ _=>rfl) (pv 6) zEs rF)$ zAe$ zA2$ zD6 qAx qCi qCj zEv (pv 5)$ zAa (zB8 hu (pv 2) (pv 6) λ_ _=>rfl) zAb)
      zAs))))))))$ zAe$ zAw$ pv 4)))),?_⟩
  refine vd ?_;intro _ _ _ _ _;refine λd0 aH=>?_;have an:Fre H d0:=aH
  refine⟨_,rF,_,rF,⟨_,SqL.of$ (Kp.new (M:=[]) Kp.refl an) l _ hl ss⟩,zA3 (λi σ H2=>(∃o3 o4 o5 o6:Option V,σ=[some (.ref l),some (.ref m),some (.ref d0),o3,o4,o5,o6])/\Kp [] H H2/\∃na,NR H2 d0 (ns.take i) na (zB0 qs)) ⟨⟨_,_,_,_,rF⟩,Kp.new Kp.refl an,λ_=>0,ac,(λn h=>nomatch h)⟩ (λi σ H2 _ ⟨_,k2,_⟩=>SqL.of$ k2 l _ hl ss) ?_ ?_⟩
  .rintro i v σ H2 hv ⟨⟨o3,o4,o5,o6,rfl⟩,k2,na,N⟩;obtain⟨n,en,rfl⟩:=zA9 hv;have ni:=zE4 hN en;have ao:=hm.kp k2 ss ss
   refine⟨_,rF,_,rF,⟨_,SqL.of ao.top⟩,λB hB=>zBt (qs.map λq=>V.ref q.2) (λi ys τ H3=>(∃o0 o1,τ=[o0,o1,some (.str n)])/\ys=(zB0 (qs.take i) n).map V.str/\H3=upd H2 B (.lst ys)) ⟨⟨_,_,rF⟩,rF,rF⟩ (λi ys τ H3 ⟨_,_,z⟩=>by subst z;exact SqL.of$ (Kp.new (M:=[]) Kp.refl hB) _ _ ao.top ss) ?_ ?_⟩
   .rintro i v ys τ H3 hv ⟨⟨o0,o1,rfl⟩,rfl,rfl⟩;obtain⟨q,eq,rfl⟩:=iI hv;have mq:=qAJ eq;obtain⟨x,y,ap⟩:=hm.two q mq
    have ax:(upd H2 B$ .lst$ (zB0 (qs.take i) n).map V.str) q.2=some (.tup [.str x,.str y]):=by
     have:=(Kp.new (l:=B) (o:=.lst$ (zB0 (qs.take i) n).map V.str) (M:=[]) Kp.refl hB) q.2 _ (ao.row q mq) ss;rw[ap]at this;exact this
    have e1:fst q=x:=(by unfold fst;rw[ap];rfl);have e2:snd q=y:=(by unfold snd;rw[ap];rfl);refine⟨_,_,rF,.inl$ .inl ax,rF,_,_,rF,_,_,rF,rF,?_⟩;refine⟨_,rF,_,rF,rF,_,rF,dE (λc=>?_) λc=>?_⟩
    .have c':x=n:=by simpa using c
     refine⟨_,rF,ac,?_,⟨_,_,rF⟩,?_,zB7⟩
     .have:=zFy (qs.take i) n;rw[qAU]at this;rw[qAD,qAK];lia
     .have:zB0 (qs.take$ i+1) n=zB0 (qs.take i) n++[y]:=by
       unfold zB0;rw[zHa eq$ qAV$ e1.trans c',qAP,qAt,e2];rfl
      rw[this,qAP];rfl
    .have c':¬x=n:=λz=>c (by simpa using z);refine⟨⟨_,_,rF⟩,?_,?_⟩
     .have:zB0 (qs.take$ i+1) n=zB0 (qs.take i) n:=by
       unfold zB0;rw[zJz eq$ by rw[e1];simpa using c']
      rw[this]
     .rfl
   .rintro ys τ H3 ⟨_,rfl,rfl⟩;have eT:qs.take (qs.map λq=>V.ref q.2).length=qs:=by rw[qAD,qAg]
    rw[eT];have fB:Fre H2 B:=hB;have nB:d0≠B:=b_ fB N.top;have k3:Kp [] H2 (upd H2 B$ .lst$ (zB0 qs n).map V.str):=Kp.new Kp.refl fB;have aa:=k3 d0 _ N.top ss;refine⟨_,rF,_,rF,_,_,rF,fA.k (k:=Sum.inr n) aa ?_,?_⟩
    .rw [zEa,qAU,qAK];lia
    rw[zD3 _ ni,jl ni,<-zAk en];refine⟨⟨_,_,_,_,rF⟩,Kp.new (k2.trans k3) an,λx=>if x=n then B else na x,ac,λx hx=>?_⟩;show Txs _ (if x=n then B else na x) (zB0 qs x)
    by_cases z:x=n
    .rw [qAC z,z];exact(a_ nB.symm).trans ac
    .rw [qAB z];rw[zAk en]at hx;rcases qAR.mp hx with y|y
     .have h1:=k3 _ _ (N.row x y) ss;exact(a_$ zCp h1 aa λz=>nomatch z).trans h1
     .exact absurd (qAO.mp y) z
  .rintro σ H1 ⟨⟨o3,o4,o5,o6,rfl⟩,k1,na,N⟩;have eT:ns.take (ns.map V.str).length=ns:=by rw[qAD,qAg]
   rw[eT]at N;refine λd hd=>?_;have ah:Fre H1 d:=hd;have fd:Fre H d:=k1.fre ah ss;have ay:d0≠d:=b_ ah N.top;have N1:NR (upd H1 d$ .dK []) d0 ns na (zB0 qs):=N.kp (M:=[]) (Kp.new Kp.refl ah) ss ss
   refine⟨_,rF,_,rF,⟨_,SqL.of$ (Kp.new (M:=[]) k1 fd) l _ hl ss⟩,zA3 (λi σ H2=>(∃o3 o5 o6:Option V,σ=[some (.ref l),some (.ref m),some (.ref d0),o3,some (.ref d),o5,o6])/\Kp [] H H2/\Kp [d] H1 H2/\∃la L,DS H H2 d (ns.take i) la L/\∀n∈ns.take i,(L n).Nodup/\∀x,x∈L n↔Way qs n x) ⟨⟨_,_,_,rF⟩,Kp.new k1 fd,Kp.put Kp.refl ss,λ_=>0,λ_=>[],⟨ac,(λn h=>nomatch h),(λn h=>nomatch h),fd,(λn h=>nomatch h)⟩,(λn h=>nomatch h)⟩ (λi σ H2 _ ⟨_,k2,_⟩=>SqL.of$ k2 l _ hl ss) ?_ ?_⟩
   .rintro i0 v σ H2 hv ⟨⟨o3,o5,o6,rfl⟩,k2,q2,la,L,D,hL⟩;refine gv ?_;intro _ _ _;obtain⟨n,en,rfl⟩:=zA9 hv;have mn:=qAJ en;have ni:=zE4 hN en;have az:∀x∈ns,na x≠d:=λx hx=>b_ ah$ N.row x hx;have N2:NR H2 d0 ns na (zB0 qs):=N.kp q2 (nm1 ay) λx hx=>nm1$ az x hx;refine λb hb=>?_;have fb:Fre H2 b:=hb;have af:d≠b:=b_ fb D.top;have aq:Fre H b:=k2.fre fb ss;refine⟨_,rF,_,rF,_,_,rF,fA.k (k:=Sum.inr n) ((a_ af).trans D.top) ?_,?_⟩
    .rw [zEa,qAU,qAK];lia
    rw[zD3 _ ni,jl ni,<-zAk en];have k3:Kp [] H (upd (upd H2 b$ .dK []) d$ .dK$ dT1 (ns.take$ i0+1) λx=>.ref$ if x=n then b else la x):=Kp.new (Kp.new k2 aq) fd;have q3:Kp [d] H2 (upd (upd H2 b$ .dK []) d$ .dK$ dT1 (ns.take$ i0+1) λx=>.ref$ if x=n then b else la x):=Kp.put (Kp.new Kp.refl fb) ss;have aa:(upd (upd H2 b$ .dK []) d$ .dK$ dT1 (ns.take$ i0+1) λx=>.ref$ if x=n then b else la x) d=some (.dK$ dT1 (ns.take$ i0+1) λx=>.ref$ if x=n then b else la x):=ac;have ai:(upd (upd H2 b$ .dK []) d$ .dK$ dT1 (ns.take$ i0+1) λx=>.ref$ if x=n then b else la x) b=some (.dK []):=(a_ af.symm).trans ac;generalize upd (upd H2 b$ .dK []) d (.dK$ dT1 (ns.take$ i0+1) λx=>.ref$ if x=n then b else la x)=H3 at k3 q3 aa ai ⊢;have N3:NR H3 d0 ns na (zB0 qs):=N2.kp q3 (nm1 ay) λx hx=>nm1$ az x hx;have aI:∀x∈ns.take i0,dO H3 (la x) (L x):=λx hx=>q3 _ _ (D.row x hx)$ nm1$ D.ne x hx;have aJ:∀x∈ns.take i0,la x≠b:=λx hx=>b_ fb$ D.row x hx;refine⟨_,rF,_,rF,_,_,rF,N3.get mn,_,_,rF,.inl$ SqL.of$ N3.row n mn,λO aK=>?_⟩;have fw:Fre H3 O:=aK;have k4:Kp [] H3 (upd H3 O$ .lst$ (zB0 qs n).map V.str):=Kp.new Kp.refl fw;have aA:Txs (upd H3 O$ .lst$ (zB0 qs n).map V.str) O (zB0 qs n):=ac;have aj:b≠O:=b_ fw ai;have aB:d≠O:=b_ fw aa;have aL:Fre H O:=k3.fre fw ss;generalize upd H3 O (.lst$ (zB0 qs n).map V.str)=H4 at k4 aA ⊢;have aM:dO H4 b []:=k4 b _ ai ss;have aC:=k4 d _ aa ss;have N4:NR H4 d0 ns na (zB0 qs):=N3.kp k4 ss ss;have aN:=k3.trans k4;have aO:∀x∈ns,na x∉[b,O]:=λx hx=>nm2 (zCp (N3.row x hx) ai λz=>nomatch z)$ b_ fw$ N3.row x hx;have aP:d0∉[b,O]:=nm2 (b_ fb N2.top)$ b_ fw N3.top
    have gd:∀{Hx:Hp},Hx d=some (.dK$ dT1 (ns.take$ i0+1) λx=>.ref$ if x=n then b else la x)->dL Hx d (.str n) (some$ .ref b):=λh=>by
     have h1:=dL.k (k:=Sum.inr n) h;rw[zCh,qAC (by rw[zAk en];simp),qAC rF]at h1;exact h1
    refine jc (λσ H5=>(∃o6:Option V,σ=[some (.ref l),some (.ref m),some (.ref d0),some (.str n),some (.ref d),some (.ref O),o6])/\Kp [b,O] H4 H5/\∃B W,dO H5 b B/\Txs H5 O W/\BK qs ns n B W) (λ_ H5=>307*(20-d9 H5 b)+d9 H5 O)
     ⟨⟨_,rF⟩,Kp.refl,[],zB0 qs n,aM,aA,BK.start hz⟩ ?_ λσ H Q Q' hq hc=>?_
    .rintro σ H5 ⟨⟨aS,rfl⟩,k5,B,W,hB,hW,I5⟩;refine⟨_,rF,(by walk_at"ln"),λe he=>?_⟩;have fe:Fre H5 e:=he;have ak:Kp [] H5 (upd H5 e$ .lst []):=Kp.new Kp.refl fe;have ar:dO (upd H5 e$ .lst []) b B:=ak b _ hB ss;have ad:Txs (upd H5 e$ .lst []) O W:=ak O _ hW ss;have aD:(upd H5 e$ .lst []) e=some (.lst []):=ac;have ae:Kp [b,O] H4 (upd H5 e$ .lst []):=λc o h z=>ak c o (k5 c o h z) ss;generalize upd H5 e (.lst [])=H6 at ak ar ad aD ae ⊢;refine oX (SqL.of ad) (SqL.of aD) ?_;refine⟨_,rF,dE (λc=>?_) λc=>?_⟩
     .obtain ⟨W0,S,rfl⟩:∃W0 S,W=W0++[S]:=by
       have:W≠[]:=λz=>by rw[z]at c;exact absurd c dD
       exact⟨W.dropLast,W.getLast this,(List.dropLast_concat_getLast this).symm⟩
      have eW:(W0++[S]).map V.str=W0.map V.str++[.str S]:=by rw[qAP];rfl
      have ad:H6 O=some (.lst$ W0.map V.str++[.str S]):=by rw[<-eW];exact ad
      have aE:=I5.cap;rw[qAN,qAn]at aE;have au:S∈ns:=((I5.wl S ss).to hm.two hq).2;refine⟨_,rF,.inl ⟨rF,_,SqL.of ad⟩,_,_,.str S,rF,rF,ad,ss,?_⟩;rw[List.dropLast_concat];have k7:Kp [b,O] H4 (upd H6 O$ .lst$ W0.map V.str):=Kp.put ae ss;have al:Txs (upd H6 O$ .lst$ W0.map V.str) O W0:=ac;have ag:dO (upd H6 O$ .lst$ W0.map V.str) b B:=(a_ aj).trans ar;generalize upd H6 O (.lst$ W0.map V.str)=H7 at k7 al ag ⊢;have s3:d9 H5 b=B.length:=by rw[hX hB,zEa]
      have s4:d9 H5 O=W0.length+1:=by rw[zI6 hW,qAD,qAN];rfl
      obtain⟨o,g1,g2⟩:=zEm ag S;have aF:=k7 d _ aC$ nm2 af aB;refine⟨_,rF,_,rF,_,rF,_,_,rF,gd aF,_,o,rF,g1,_,rF,?_⟩;rw[g2];refine dE (λc2=>?_) λc2=>?_
      .have am:S∉B:=by simpa using c2
       obtain⟨I7,less⟩:=I5.new am au hn hz;refine⟨_,rF,_,rF,_,_,rF,gd aF,_,rF,_,_,rF,fA.k (k:=Sum.inr S) ag ?_,?_⟩
       .have:=zB3 I5.nd I5.sub;rw[zEa,qAK];lia
       rw[zD3 _ am,<-jk B S λ_=>.bl true];have av:Txs (upd H7 b$ .dK$ dT1 (B++[S]) λ_=>.bl true) O W0:=(a_ aj.symm).trans al;have k8:Kp [b,O] H4 (upd H7 b$ .dK$ dT1 (B++[S]) λ_=>.bl true):=Kp.put k7 ss;have aw:dO (upd H7 b$ .dK$ dT1 (B++[S]) λ_=>.bl true) b (B++[S]):=ac;generalize upd H7 b (.dK$ dT1 (B++[S]) λ_=>.bl true)=H8 at k8 av aw ⊢;have N8:NR H8 d0 ns na (zB0 qs):=N4.kp k8 aP aO;refine⟨_,rF,.inl ⟨rF,_,SqL.of av⟩,_,rF,_,rF,_,_,rF,N8.get au,_,_,_,_,rF,rF,av,N8.row S au,?_,?_⟩
       .have:=zFy qs S;rw[qAD,qAD,qAK];lia
       have aG:∀Hx:Hp,Txs (upd Hx O$ .lst$ W0.map V.str++(zB0 qs S).map V.str) O (W0++zB0 qs S):=λHx=>by
        show upd _ O _ O=some (.lst$ (W0++zB0 qs S).map V.str);rw[ac,qAP]
       refine⟨⟨⟨_,rF⟩,Kp.put k8 ss,B++[S],W0++zB0 qs S,(a_ aj).trans aw,aG _,I7⟩,?_⟩;have s1:∀o,d9 (upd H8 O o) b=(B++[S]).length:=λo=>by rw[hX$ (a_ aj).trans aw,zEa]
       have s2:d9 (upd H8 O$ .lst$ W0.map V.str++(zB0 qs S).map V.str) O=(W0++zB0 qs S).length:=by rw[zI6$ aG H8,qAD]
       show 307*(20-d9 _ b)+d9 _ O<307*(20-d9 H5 b)+d9 H5 O;rw[s1,s2,s3,s4];lia
      .have am:S∈B:=by simpa using c2
       refine⟨⟨⟨_,rF⟩,k7,B,W0,ag,al,I5.old am⟩,?_⟩;have s1:d9 H7 b=B.length:=by rw[hX ag,zEa]
       have s2:d9 H7 O=W0.length:=by rw[zI6 al,qAD]
       show 307*(20-d9 H7 b)+d9 H7 O<307*(20-d9 H5 b)+d9 H5 O;rw[s1,s2,s3,s4];lia
     .have eW:W=[]:=by
       cases W with
       |nil=>rfl
       |cons _ _=>exact absurd (qAV ss) c
      subst eW;have k6:Kp [] H H6:=λc o h _=>ae c o (aN c o h ss)$ nm2 (b_ aq h)$ b_ aL h
      have q6:Kp [d] H1 H6:=λc o h z=>by
       have h2:=q2 c o h z;have h3:=q3 c o h2 z;exact ae c o (k4 c o h3 ss)$ nm2 (b_ fb h2)$ b_ fw h3
      have aQ:=ae d _ aC$ nm2 af aB
      have cs:∀x,x∈ns.take (i0+1)->(x∈ns.take i0/\x≠n)\/x=n:=λx h=>by
       rw[zAk en]at h;rcases qAR.mp h with z|z
       .exact .inl ⟨z,λy=>ni$ y▸z⟩
       .exact .inr$ qAO.mp z
      refine⟨⟨_,_,_,rF⟩,k6,q6,λx=>if x=n then b else la x,λx=>if x=n then B else L x,⟨aQ,λx hx=>?_,λx hx=>?_,D.fr,λx hx=>?_⟩,λx hx=>?_⟩
      .show dO H6 (if x=n then b else la x) (if x=n then B else L x);rcases cs x hx with⟨z1,z2⟩|z
       .rw [qAB z2,qAB z2];have h3:=aI x z1;exact ae _ _ (k4 _ _ h3 ss)$ nm2 (aJ x z1)$ b_ fw h3
       .rw [qAC z,qAC z];exact ar
      .show (if x=n then b else la x)≠d;rcases cs x hx with⟨z1,z2⟩|z
       .rw [qAB z2];exact D.ne x z1
       .rw [qAC z];exact af.symm
      .show Fre H (if x=n then b else la x);rcases cs x hx with⟨z1,z2⟩|z
       .rw [qAB z2];exact D.frs x z1
       .rw [qAC z];exact aq
      .show (if x=n then B else L x).Nodup/\∀y,y∈(if x=n then B else L x)↔_;rcases cs x hx with⟨z1,z2⟩|z
       .rw [qAB z2];exact hL x z1
       .rw [qAC z,z];exact⟨I5.nd,I5.all⟩
    .obtain ⟨x,e,h1,h2⟩:=hc;refine⟨x,e,h1,λl hl=>?_⟩;rcases h2 l hl with⟨a,c,xs,ys,q1,q2,q3,q4,q5,q6,b,q7,q8⟩|⟨a,c,xs,ys,q1,q2,q3,q4,q5,b,q7,q8⟩
     .exact .inl ⟨a,c,xs,ys,q1,q2,q3,q4,q5,q6,b,q7,hq _ _ q8⟩
     .exact .inr ⟨a,c,xs,ys,q1,q2,q3,q4,q5,b,q7,hq _ _ q8⟩
   .rintro σ H2 ⟨⟨o3,o5,o6,rfl⟩,k2,q2,la,L,D,hL⟩;rw[eT]at D hL;exact⟨_,rF,k d la L H2 D hL k2⟩
end
theorem qW{K:PySem.W.Frag}:PySem.W.kitOne K (.type "int") (.type "bool")=some false:=by rfl
section
inductive fL(vs:List V)(H:Hp)(Q:VK)(u_3:XK):Prop
 |mk:∀(n:Int),vs=[.int n]->Q (.bl true) H->fL vs H Q u_3
abbrev zE1:Stmt:=top 26
theorem zHj:dq ["thing"] ["thing"] (zAg zE1):=fnS
theorem j_(F:Fun K "is_whole" "is_whole" zE1 f fd)(T:Txt K mg):dw P w K mg base CX0 1 f fd ["thing"] fL:=by
 refine F.ok zHj (λvs H Q E h=>?_) λV A outer s H vs Q E O h=>?_
 .obtain ⟨n,rfl,_⟩:=h;rfl
 .obtain ⟨n,rfl,k⟩:=h;refine⟨_,(zAe$ zAw$ i6 (zAi zBg rR T.z_isinstance zAl$ zAa (pv 0)$ zAa (zBw rR T.z_int zIb (v:=.ty "int") rF) zAb)$ gp$ pj$ zAi zBg rR T.z_isinstance zAl$ zAa (pv 0)$ zAa (zBw rR T.z_bool mj (v:=.ty "bool") rF) zAb),?_⟩;exact⟨_,rF,_,_,_,_,rF,dz.int n,zA1,_,rF,eZ ⟨_,rF,_,_,_,_,rF,dz.int n,qW,_,rF,k⟩⟩
inductive fM(vs:List V)(H:Hp)(Q:VK)(u_3:XK):Prop
 |mk:∀(b:Int),vs=[.int b]->1<=b->Q .non H->fM vs H Q u_3
abbrev zB4:Stmt:=top 29
theorem zEf:dq ["benches"] ["benches"] (zAg zB4):=fnS
theorem zEh(F:Fun K "check_benches" "check_benches" zB4 f fd)(O:Cal P w K mg base "is_whole" 1 ["thing"] fL):dw P w K mg base CX0 2 f fd ["benches"] fM:=by
 refine F.ok zEf (λvs H Q E h=>?_) λV A outer s H vs Q E S h=>?_
 .obtain ⟨n,rfl,_⟩:=h;rfl
 .obtain ⟨n,rfl,h1,k⟩:=h
  refine⟨_,(zAe$ zBk (PW.pt$ zEk (zBm$ zBi$ zAh O S rF$ zAa (pv 0) zAb)$ zDv$ zAr jY (pv 0) zAd$ zAv _) (zAe zAz) zAs),?_⟩
  refine⟨_,rF,n,rF,_,rF,dC ⟨_,rF,_,_,rF,rF,_,rF,?_⟩⟩;rw[qAZ Ll];exact dC k
end
end My
namespace L2
open PySem PySem.Spec PyProof.Rows
variable{H:Hp}{h h':Heap}{a xa:Addr}{pos:Pos}{g:TG}{σ:St}{scope:Scope}{X:Cx}{elt iter:Expr}{tt:TT}{te:TE}
def Itz(K:PySem.W.Frag)(a b:Addr):It :=
 ⟨λi H=>∃xs ys x y,SqL K H a xs/\SqL K H b ys/\xs[i]?=some x/\ys[i]?=some y,λi H v H'=>∃t x y,v= .ref t/\H t=none/\H'=upd H t (.tup [x,y])/\(∀xs,SqL K H a xs->xs[i]?=some x)/\∀ys,SqL K H b ys->ys[i]?=some y,λi H=>∃xs ys,SqL K H a xs/\SqL K H b ys/\(xs.length<=i\/ys.length<=i)⟩
theorem qE{fs ex:List Addr}(k:∀b u,b∉ex->h.get? b=some u->h'.get? b=some u):Un fs ex H H h h' :=
 ⟨λb O q _ _ S=>k b O S q,λb O q _ _ S=>⟨O.slots,k b O S q⟩,λ_ _ _ n _=>n,λb O q S=>⟨O,k b O S q⟩,λ_ _ q=>q,λ_ _ _ q=>q,λ_ ps q=>⟨#[],by rw[q];simp⟩⟩
theorem m9{P:Program}{w:World}{ex:List Addr}(x:HOk P w H h)(k:∀b u,b∉ex->h.get? b=some u->h'.get? b=some u)(hex:∀b∈ex,H b=none):HOk P w H h':=λb u e=>
 (x b u e).stay (λc v hc q=>k c v (λz=>by
  have O:=hex c z;rcases hc with y|y
  .rw [y,e]at O;cases O
  .rw [y]at O;cases O) q) (λ_ q=>q) λ_ _ q=>q
structure lZ(z TI TO i1 i2:Addr):Prop where
 TIz:TI≠z
 TOz:TO≠z
 i1z:i1≠z
 i2z:i2≠z
 TITO:TI≠TO
 TIi1:TI≠i1
 TIi2:TI≠i2
 TOi1:TO≠i1
 TOi2:TO≠i2
 i12:i1≠i2
theorem jt(n:Nat):lZ (n+4) (n+2) (n+3) n (n+1):=⟨qAQ Ll,qAQ Ll,qAQ Ll,qAQ Ll,qAQ Ll,qA4 Ll,qA4 Ll,qA4 Ll,qA4 Ll,qAQ Ll⟩
def me(z TI TO O S a b:Addr)(i:Nat)(h:Heap):Prop:=IsZip h z TI TO .none/\IsPair h TI (.ref O) (.ref S)/\(∃p q,IsPair h TO p q)/\h.IsListIter O a i/\h.IsListIter S b i
theorem me.apart{z TI TO i1 i2 b:Addr}{i:Nat}{xs ys:Array Value}(D:lZ z TI TO i1 i2)(Z:me z TI TO i1 i2 a b i h)(ha:h.IsList a xs)(hb:h.IsList b ys):ZipApart z TI TO i1 i2 a b:=by
 obtain⟨s1,_,⟨p,q,s3⟩,⟨o4,s4,c4,_⟩,⟨o5,s5,c5,_⟩⟩:=Z;obtain⟨oa,O,V,_⟩:=ha;obtain⟨ob,S,W,_⟩:=hb;refine⟨D.TIz,D.TOz,D.i1z,D.i2z,D.TITO,D.TIi1,D.TIi2,D.TOi1,D.TOi2,D.i12,?_,?_,?_,?_,?_,?_,?_,?_⟩
 .exact λe=>by rw[e,s1]at O;cases O;simp at V
 .exact λe=>by rw[e,s3]at O;cases O;simp at V
 .exact λe=>by rw[e,s4]at O;cases O;rw[c4]at V;simp at V
 .exact λe=>by rw[e,s5]at O;cases O;rw[c5]at V;simp at V
 .exact λe=>by rw[e,s1]at S;cases S;simp at W
 .exact λe=>by rw[e,s3]at S;cases S;simp at W
 .exact λe=>by rw[e,s4]at S;cases S;rw[c4]at W;simp at W
 .exact λe=>by rw[e,s5]at S;cases S;rw[c5]at W;simp at W
theorem pV{P:Program}{w:World}{K:PySem.W.Frag}{elts:List Expr}{kk:Nat}{tp:Pos}(a b z TI TO O S:Addr)(D:lZ z TI TO O S):jz P w K (.Tuple elts kk tp) (Itz K a b) [z,TI,TO,O,S] z (me z TI TO O S a b) where
 mem:=ss
 obj:=λi h st c hc=>by
  obtain⟨V,s2,⟨p,q,s3⟩,⟨o4,s4,_,d4⟩,⟨o5,s5,_,d5⟩⟩:=st;have cs:c=z\/c=TI\/c=TO\/c=O\/c=S:=by simpa using hc
  rcases cs with e|e|e|e|e
  .rw [e];exact⟨_,V,λv y=>by cases y⟩
  .rw [e];exact⟨_,s2,λv y=>by cases y⟩
  .rw [e];exact⟨_,s3,λv y=>by cases y⟩
  .rw [e];exact⟨o4,s4,λv y=>by rw[d4]at y;cases y⟩
  .rw [e];exact⟨o5,s5,λv y=>by rw[d5]at y;cases y⟩
 keep:=λi h h' ⟨V,s2,⟨p,q,s3⟩,s4,s5⟩ k=>⟨k z ss _ V,k TI ss _ s2,⟨p,q,k TO ss _ s3⟩,s4.at λo y=>k O ss o y,s5.at λo y=>k S ss o y⟩
 item:=by
  intro X hP hw hK hc i pins s σ H E I hf st hg;subst hP hw hK;obtain⟨xs,ys,x,y,aa,ad,hx,hy⟩:=hg;obtain⟨ag,ae,p1,_⟩:=I.list aa;obtain⟨ah,af,p2,_⟩:=I.list ad;obtain⟨u,hu,ru⟩:=ae.get hx;obtain⟨v,hv,rv⟩:=af.get hy;have D':=st.apart D p1.isList p2.isList;obtain⟨V,s2,⟨p,q,s3⟩,s4,s5⟩:=st;have hn:∀c∈[z,TI,TO,O,S],H c=none:=λc hc=>(hf c hc).1;refine wpAny_pyNext_zip_item D' V s2 s3 s4 s5 p1.isList p2.isList (x:=u) (y:=v) (by simpa using hu) (by simpa using hv) λk a1 a2 a3 a4 a5 a6 a7=>?_;refine⟨_,rF,wpAny_letOwnedTupleGo_zip a1 λk2 z2 b2=>?_⟩;have b2:Heap.SameBut z k k2:=b2;have ai:z<s.heap.objs.size:=qAI V
  have aj:∀c∈[z,TI,TO,O,S],c≠s.heap.objs.size:=λc hc=>by
   have cs:c=z\/c=TI\/c=TO\/c=O\/c=S:=by simpa using hc
   rcases cs with e|e|e|e|e
   .rw [e];exact qAQ ai
   .rw [e];exact qAQ$ qAI s2
   .rw [e];exact qAQ$ qAI s3
   .obtain ⟨o,g,_⟩:=s4;rw[e];exact qAQ$ qAI g
   .obtain ⟨o,g,_⟩:=s5;rw[e];exact qAQ$ qAI g
  have t2:k2.get? s.heap.objs.size=some {cls:=.type "tuple",data:=.seq #[u,v]}:=b2.extBut _ _ (qA4 ai) a5;have on:∀c o,c∉[z,TI,TO,O,S]->s.heap.get? c=some o->k2.get? c=some o:=λc o W g=>b2.extBut c o (λe=>W$ by simp[e])$ a7 c o (λe=>W$ by simp[e]) (λe=>W$ by simp[e]) (λe=>W$ by simp[e]) (λe=>W$ by simp[e]) g;have new:zBq X.prog X.w (upd H s.heap.objs.size$ .tup [x,y]) k2 s.heap.objs.size (.tup [x,y]):=⟨by show(2:Nat)<=sizeLine;decide,[u,v],.cons ru$ .cons rv .nil,⟨_,t2,rF,_,rF⟩⟩
  have I2:Inv X pins σ (upd H s.heap.objs.size$ .tup [x,y]) {s with heap:=k2}:=I.call' (ch:=[z,TI,TO,O,S]) rF (lM on (qAG _)$ I.hok.fresh$ qAG _) (jM I.hok on hn (qAG _) new) I.bare λc hc=>by
   obtain⟨_,f1,_,f3,f4,f5⟩:=hf c hc;exact⟨f3,f1,f4,f5⟩
  refine⟨.ref s.heap.objs.size,_,I2,rF,⟨_,x,y,rF,I.hok.fresh$ qAG _,rF,λzs hz=>by rw[I.list_inj hz aa];exact hx,λzs hz=>by rw[I.list_inj hz ad];exact hy⟩,⟨z2,b2.extBut _ _ D.TIz$ a7 _ _ D.TIz D.TITO D.TIi1 D.TIi2 s2,⟨u,v,b2.extBut _ _ D.TOz a2⟩,a3.extBut b2.extBut D.i1z,a4.extBut b2.extBut D.i2z⟩,λc hc=>?_⟩;rw[a_$ aj c hc];exact hn c hc
 done:=by
  intro X hP hw hK hc i pins s σ H E I hf st hg;subst hP hw hK;obtain⟨xs,ys,aa,ad,hx⟩:=hg;obtain⟨ag,ae,p1,_⟩:=I.list aa;obtain⟨ah,af,p2,_⟩:=I.list ad;have l1:=ae.length;have l2:=af.length;have D':=st.apart D p1.isList p2.isList;obtain⟨V,s2,⟨p,q,s3⟩,s4,s5⟩:=st;have hn:∀c∈[z,TI,TO,O,S],H c=none:=λc hc=>(hf c hc).1;refine wpAny_pyNext_zip_end (I.ok.hd hc) D' V s2 s3 s4 s5 p1.isList p2.isList ?_ λh' eb=>⟨rF,?_⟩
  .rcases hx with z|z
   .exact .inl (by simp;lia)
   .exact .inr (by simp;lia)
  .have on:∀c o,c∉[z,TI,TO,O,S]->s.heap.get? c=some o->h'.get? c=some o:=λc o W g=>eb c o (λe=>W$ by simp[e]) (λe=>W$ by simp[e]) (λe=>W$ by simp[e]) (λe=>W$ by simp[e]) g
   exact I.call' (s':={s with heap:=h'}) (ch:=[z,TI,TO,O,S]) rF (qE on) (m9 I.hok on hn) I.bare λc hc=>by
    obtain⟨_,f1,_,f3,f4,f5⟩:=hf c hc;exact⟨f3,f1,f4,f5⟩
 self:=λ_ _ _ _ _ ⟨V,_⟩ h=>qDA V h
section
variable{X:Cx}{elts:List Expr}{kk:Nat}{tp:Pos}
inductive um(K:PySem.W.Frag)(R:It->Hp->Prop)(vs:List V)(H1:Hp):Prop
 |mk:∀a b,vs=[.ref a,.ref b]->(∃xs,SqL K H1 a xs)->(∃ys,SqL K H1 b ys)->R (Itz K a b) H1->um K R vs H1
def xQ(K:PySem.W.Frag)(ta:TA):TI:=λσ H R=>ta σ H λvs H1=>um K R vs H1
theorem jL:bootBuiltins "zip"=some (.type "zip"):=by decide +kernel
theorem kJ{a b:Expr}{ta:TA}{p:Pos}(hg:Gl X "zip")(hm:X.mg "zip"=none)(ha:PA X [a,b] ta)(he:starEach [a,b] X.env=(false,eval a X.env)::starEach [b] X.env:=by rfl)(V:(backTo pos$ starEach [b] X.env).any (·.1)=false:=by rfl):PI X (.Tuple elts kk tp) (.Call (.Name "zip" p) [a,b] [] pos) (xQ X.K ta):=by
 intro pins s σ H R I h;refine Call_$ zHz I hg hm jL$ qCT (thn (ha pos pins s σ H _ I h) λus S ⟨vs,H1,O,r1,q1⟩=>?_) he V;obtain⟨a,b,e,⟨xs,W⟩,⟨ys,aa⟩,q⟩:=q1;subst e
 obtain⟨u,v,rfl,ru,rv⟩:∃u v,us=[u,v]/\dy (.ref a) u/\dy (.ref b) v:=by
  cases r1 with
  |cons ra r2=>cases r2 with
   |cons rb r3=>cases r3;exact⟨_,_,rF,ra,rb⟩
 cases ru
 cases rv
 obtain⟨ad,r1,p1,_⟩:=O.list W;obtain⟨ae,r2,p2,_⟩:=O.list aa;refine call_zip_2 p1.isList p2.isList λh' e1 e2 e3 e4 e5 e6 e7=>qDA e1 ?_;refine⟨S.heap.objs.size+4,[S.heap.objs.size+4,S.heap.objs.size+2,S.heap.objs.size+3,S.heap.objs.size,S.heap.objs.size+1],_,_,H1,rF,O.kept (t':=S.toks) e7,pV a b (S.heap.objs.size+4) (S.heap.objs.size+2) (S.heap.objs.size+3) S.heap.objs.size (S.heap.objs.size+1)$ jt _,⟨e1,e2,⟨_,_,e3⟩,e4,e5⟩,λc hc=>?_,q⟩;have cs:c=S.heap.objs.size+4\/c=S.heap.objs.size+2\/c=S.heap.objs.size+3\/c=S.heap.objs.size\/c=S.heap.objs.size+1:=by simpa using hc
 have ge:S.heap.objs.size<=c:=by
  rcases cs with e|e|e|e|e<;>(rw[e];lia)
 exact O.fpOk ge$ O.hok.fresh ge
theorem iz{K:PySem.W.Frag}{b:Addr}{xs ys:List V}{tb:TS}{D:eI}(O:Nat->St->Hp->Prop)(h0:O 0 σ H)(hl:∀i σ H,O i σ H->SqL K H a xs/\SqL K H b ys)
  (hs:∀i x y σ H t,xs[i]?=some x->ys[i]?=some y->O i σ H->H t=none->g (.ref t) σ (upd H t$ .tup [x,y]) λS H2=>tb {D with nx:=O (i+1),ct:=O (i+1),bk:=D.nx} S H2) (hd:∀i σ H,(xs.length<=i\/ys.length<=i)->O i σ H->D.nx σ H) :
  ∃W:Nat->Nat->St->Hp->Prop,(∃m,W 0 m σ H)/\∀i m σ H,W i m σ H ->
   ((Itz K a b).stop i H/\D.nx σ H)\/((Itz K a b).go i H/\∃N:St->Hp->Prop,(∀aa H',N aa H'->∃m',m'<m/\W (i+1) m' aa H')/\∀x H',(Itz K a b).yld i H x H'->g x σ H' λS H2=>tb {D with nx:=N,ct:=N,bk:=D.nx} S H2):=by
 refine⟨λi m σ H=>m=xs.length-i/\O i σ H,⟨xs.length,ss,h0⟩,?_⟩;rintro i m σ H ⟨rfl,p⟩;obtain⟨q1,q2⟩:=hl i σ H p
 by_cases h1:i<xs.length
 .by_cases h2:i<ys.length
  .refine .inr ⟨⟨xs,ys,xs[i],ys[i],q1,q2,by simp[h1],by simp[h2]⟩,O$ i+1,λaa H' p'=>⟨xs.length-(i+1),Ll,rF,p'⟩,λv H' y=>?_⟩;obtain⟨t,x,y,rfl,hn,rfl,y1,y2⟩:=y;exact hs i x y σ H t (y1 xs q1) (y2 ys q2) p hn
  .exact .inl ⟨⟨xs,ys,q1,q2,.inr Ll⟩,hd i σ H (.inr Ll) p⟩
 .exact .inl ⟨⟨xs,ys,q1,q2,.inl Ll⟩,hd i σ H (.inl Ll) p⟩
end
def dS(A:Around)(h:Heap):Prop:=∃b o vs,A.handled=some (.ref b)/\h.get? b=some o/\o.data= .fields vs/\vs[2]?=some .none
theorem zJ1:entryFor table "proto.unchain"=some Builtin.«proto.unchain»:=entryFor_of_fast (by kernel_rfl)
section
variable{prog:Program}{w:World}{A:Around}{E:Value->Shared->Prop}{s:Shared}{α:Type}{Q:α->Shared->Prop}
theorem nE{O:Obj}{es:Array Value}(S:dS A s.heap)(V:s.heap.get? a=some O)(da:O.data= .fields es)(sz:2<es.size)(na:A.handled≠some (.ref a))
  (hE:∀h',Heap.SameBut a s.heap h'->(∃o,h'.get? a=some o/\o.cls=O.cls)->E (.ref a) {s with heap:=h'}):wpAny (model prog w) A (raiseNew (.ref a):Sem α) Q E s:=by
 obtain⟨b,o,vs,hh,hb,db,v2⟩:=S;have W:b≠a:=λz=>na (by rw[hh,z]);unfold raiseNew;refine qAA$ wpAny_handled ?_;rw[hh];show wpAny _ _ (if(Value.ref b != Value.ref a)=true then _ else _) _ _ _;rw[qAC$ by simp[W]];refine qAA$ qAy$ wpAny_runValue$ qBv zJ1 ?_;show wpAny _ _ (field (.ref b) 2 >>= _) _ _ _;refine qAA$ qBE hb db v2 ?_;show wpAny _ _ (if(Value.none==Value.none)=true then _ else _) _ _ _;rw[qAC rR];refine qAE ?_;refine qAA ?_;unfold updateField;refine qAA$ qB4 V ?_;rw[da];show wpAny _ _ (if 2<es.size then _ else _) _ _ _;rw[qAC sz];refine wpAny_update V$ wpAny_throw$ hE _ (qAr ..) ⟨_,qA9 _ V$ qBd$ qAu da _,qCA _ _⟩
theorem dS.keep{h h':Heap}(x:dS A h)(k:∀b o,(∃vs,o.data= .fields vs/\vs[2]?=some .none)->A.handled=some (.ref b)->h.get? b=some o->h'.get? b=some o):dS A h':=by
 obtain⟨b,o,vs,O,W,S,V⟩:=x;exact⟨b,o,vs,O,k b o ⟨vs,S,V⟩ O W,S,V⟩
theorem dS.at1(x:dS A h):dS A.in1 h:=x
theorem je(O:dS A s.heap)(S:∀h' e,(∀b o,s.heap.get? b=some o->h'.get? b=some o)->(∃o,h'.get? e=some o/\o.cls= .type "StopIteration")->E (.ref e) {s with heap:=h'}):wpAny (model prog w) A (newExc (.type "StopIteration") [] >>= λe=>(raiseNew e:Sem α)) Q E s:=by
 refine qAA ?_;simp only[newExc,newTuple];refine qAA (qBa ?_$ by size_fits);refine qAA (m:=firstArgMember _ _)$ qCM (a:=Value.none) (by first|rfl|(simp only[firstArgMember];rfl)) ?_;refine qBa ?_ (by size_fits)
 have lt:∀b,A.handled=some (.ref b)->b<s.heap.objs.size:=λb e=>by
  obtain⟨c,o,vs,V,W,_⟩:=O;rw[V]at e
  cases e
  exact qAI W
 refine nE (O.keep λb o _ _ e=>qAM _$ qAM _ e) (qAk _ rF) rF (by rw[Array.size_append];show 2<6+_;lia) (λe=>?_) λh' sb ho=>S h' _ (λb o e=>sb.extBut b o ?_$ qAM _$ qAM _ e) ho
 .have:=lt _ e;rw[qBR]at this;exact absurd this$ qCN.mpr$ qB6 _
 .have:=qAI e;rw[qBR];exact qAQ$ qBs this
theorem zEu{V l:Addr}{i:Nat}{S}{Q:Value->Shared->Prop}(W:dS A s.heap)(nh:A.handled≠some (.ref V))
  (O:s.heap.IsListIter V l i) (hl:s.heap.IsList l S) (hx:S[i]?=none)
  (hE:∀h' e,Heap.ExtBut V s.heap h'->(∃o,h'.get? e=some o/\o.cls= .type "StopIteration")->E (.ref e) {s with heap:=h'}):wpAny (model prog w) A (Builtin.SmallTypes.nextOf$ .ref V) Q E s:=by
 obtain⟨o,ho,hc,hd⟩:=id O;obtain⟨ol,aa,_,nl,ad⟩:=hl;unfold Builtin.SmallTypes.nextOf;refine qAA$ qCc (name:=Str.ofString "__next__") O.typeIs slot_listiter_next$ qBy slot_listiter_next O.typeIs entry_listiter_next ?_$ args_listiter_next _;show wpAny _ _ (field (.ref V) 0 >>= _) _ _ s;refine qAA$ qBE ho hd (x:=.ref l) rF ?_;show wpAny _ _ (if(Value.ref l==Value.none)=true then _ else _) _ _ s;rw[qAB$ show¬((Value.ref l==Value.none)=true)from qAd];show wpAny _ _ (field (.ref V) 1 >>= _) _ _ s;refine qAA$ qBE ho hd (x:=.int i 0) rF ?_;show wpAny _ _ (seqItems? (.ref l) >>= _) _ _ s;refine qAA$ qCO aa ad ?_;simp only[qCp,hx];refine qAA$ qBD$ qAA$ qA6 ho hd ss ?_;exact je (dS.keep (h:=s.heap) W λb o _ e x=>(qAr ..).extBut b o (λz=>nh$ by rw[<-z];exact e) x) λh' e k he=>hE h' e (λb o nb x=>k b o$ (qAr ..).extBut b o nb x) he
theorem zIl{V t:Addr}{i:Nat}{S}{Q:Option Value->Shared->Prop}(W:dS A s.heap)(nh:A.handled≠some (.ref V))
  (O:IsTupIter s.heap V t i) (ht:IsTup s.heap t S) (hx:S[i]?=none)
  (hQ:∀h',Heap.ExtBut V s.heap h'->Q none {s with heap:=h'}):wpAny (model prog w) A (pyNext$ .ref V) Q E s:=by
 obtain⟨o,ho,hc,hd⟩:=id O;obtain⟨ol,aa,_,nl,ad⟩:=ht;unfold pyNext;refine qAA$ qB9$ qCc (name:=Str.ofString "__next__") O.typeIs slot_tupleiter_next$ qBy slot_tupleiter_next O.typeIs entry_tupleiter_next ?_$ args_tupleiter_next _;show wpAny _ _ (field (.ref V) 0 >>= _) _ _ s;refine qAA$ qBE ho hd (x:=.ref t) rF ?_;show wpAny _ _ (if(Value.ref t==Value.none)=true then _ else _) _ _ s;rw[qAB$ show¬((Value.ref t==Value.none)=true)from qAd];show wpAny _ _ (field (.ref V) 1 >>= _) _ _ s;refine qAA$ qBE ho hd (x:=.int i 0) rF ?_;show wpAny _ _ (seqItems? (.ref t) >>= _) _ _ s;refine qAA$ qCO aa ad ?_;simp only[qCp,hx];refine qAA$ qBD$ qAA$ qA6 ho hd ss ?_;refine je (dS.keep (h:=s.heap) W λb o _ e x=>(qAr ..).extBut b o (λz=>nh$ by rw[<-z];exact e) x) λh' e k he=>?_;obtain⟨oe,ae,af⟩:=he;refine qAA$ qCP (T:="StopIteration") (b:=true) ⟨oe,ae,af⟩ isSubtype_stop ?_;exact qAE$ hQ _ λb o nb x=>k b o$ (qAr ..).extBut b o nb x
theorem zHc{t:Addr}{S:Array Value}{Q:List Value->Shared->Prop}(aa:dS A s.heap)(ht:IsTup s.heap t S)
  (hQ:∀h',Heap.ExtBut s.heap.objs.size s.heap h'->Q S.toList {s with heap:=h'}):wpAny (model prog w) A (unpackItems (.ref t) S.size none) Q E s:=by
 have ad:t≠s.heap.objs.size:=by obtain⟨o,ho,_⟩:=ht;exact qAQ$ qAI ho
 have nh:A.handled≠some (.ref s.heap.objs.size):=λz=>by
  obtain⟨b,o,vs,e1,e2,_⟩:=aa;rw[e1]at z
  cases z
  exact absurd (qAI e2)$ qA2 _
 unfold unpackItems;refine qAA ?_
 .unfold notIterableAtAll;refine qAA$ qCv ht.typeIs slot_tuple_iter.lookup ?_;refine qAE ?_;simp only[qCe,qB7];refine qAA$ qAy$ iter_tuple ht ?_;refine qAA$ qAy$ draw_tuple ad S.size 0 _ _ ⟨_,qAk _ rF,rF,rF⟩ (ht.push _) Ll λaf V O=>?_;rw[show List.take S.size (List.drop 0 S.toList)=S.toList by rw[List.drop_zero];exact qBN ss,qAB ss];refine qAA$ qAy$ zIl (dS.keep (h:=s.heap) aa λb o _ e x=>O.extBut b o (λz=>nh$ by rw[<-z];exact e)$ qAM _ x) nh V ((ht.push _).extBut O.extBut ad) ss λae W=>?_;simp only[Option.isSome_none,qCe,qB7];refine qAE$ hQ ae λb o hb e=>W b o hb$ O.extBut b o hb$ qAM _ e
theorem zGx{env:Env}{elts:List Expr}{W}{pos:Pos}{t:Addr}{S:Array Value}{Q:Unit->Shared->Prop}(V:dS A s.heap)(ht:IsTup s.heap t S)
  (hn:(assignEach elts env).length=S.size) (O:(assignEach elts env).findIdx? (·.1)=none)
  (h:∀h',Heap.ExtBut s.heap.objs.size s.heap h'->wpAny (model prog w) A (assignInOrder ((assignEach elts env).map (·.2)) S.toList) Q E {s with heap:=h'}) :
  wpAny (model prog w) A (assign (.Tuple elts W pos) env$ .ref t) Q E s:=by
 rw[assign_Tuple];refine qAA$ qCm ?_;unfold unpack;rw[hn,O];exact qAA$ qAy$ zHc V ht h
end
section
variable{prog:Program}{w:World}{A:Around}{E:Value->Shared->Prop}{s:Shared}
theorem dS.but{c:Addr}(x:dS A h)(n:A.handled≠some (.ref c))(k:Heap.ExtBut c h h'):dS A h':=x.keep λb o _ e y=>k b o (λz=>n$ by rw[<-z];exact e) y
theorem iA{z TI TO i1 i2 l1 l2:Addr}{k1 k2:Nat}{xs ys:Array Value}{a b:Value}{Q:Fin->Shared->Prop}(au:dS A s.heap)(nz:A.handled≠some (.ref z))(nO:A.handled≠some (.ref TO))(n1:A.handled≠some (.ref i1))(n2:A.handled≠some (.ref i2))(D:ZipApart z TI TO i1 i2 l1 l2)
  (hz:IsZip s.heap z TI TO .none) (av:IsPair s.heap TI (.ref i1) (.ref i2)) (aw:IsPair s.heap TO a b)
  (h1:s.heap.IsListIter i1 l1 k1) (h2:s.heap.IsListIter i2 l2 k2) (an:s.heap.IsList l1 xs) (ax:s.heap.IsList l2 ys) (ao:xs[k1]?=none\/ys[k2]?=none)
  (hE:∀h' e,(∀c o,c≠z->c≠TO->c≠i1->c≠i2->s.heap.get? c=some o->h'.get? c=some o)->(∃o,h'.get? e=some o/\o.cls= .type "StopIteration")->E (.ref e) {s with heap:=h'}) :
  wpAny (model prog w) A (Builtin.«zip.__next__» ⟨[.ref z],[]⟩) Q E s:=by
 show wpAny _ _ (field (.ref z) 2 >>= _) _ _ _;refine qAA$ qBE hz rF (x:=.bool false) rF ?_;show wpAny _ _ (field (.ref z) 3 >>= _) _ _ _;refine qAA$ qBE hz rF (x:=.ref TI) rF ?_;refine qAA$ qCO av rF ?_;show wpAny _ _ (Builtin.SmallTypes.ownedTupleIsFree (.ref z) >>= _) _ _ _;refine qAA ?_;unfold Builtin.SmallTypes.ownedTupleIsFree;refine qAA$ qBE hz rF (x:=.none) rF$ qAE ?_;simp only[if_true];refine qAA$ qBD ?_;refine qAA$ qBE hz rF (x:=.ref TO) rF ?_;refine qAA$ wpAny_setField_rec hz ss λal W O=>?_
 replace W:IsZip al z TI TO .ellipsis:=W
 have t1:dS A al:=au.but nz O.extBut;refine qAA ?_;simp only[List.zipIdx_cons,List.zipIdx_nil,List.forIn_cons,List.forIn_nil];refine qAA$ qAA$ wpAny_onRaise ?_;show wpAny _ _ (Builtin.SmallTypes.nextOf (.ref i1) >>= _) _ _ _
 cases hx:xs[k1]? with
 |none=>
  refine qAA$ zEu t1 n1 (h1.extBut O.extBut D.i1z) (an.extBut O.extBut D.l1z) hx λae e S he=>?_;obtain⟨oe,aa,af⟩:=he;have ag:IsZip ae z TI TO .ellipsis:=S _ _ D.i1z.symm W;have am:e≠z:=λx=>by subst x;rw[ag]at aa;cases aa;simp at af
  exact wpAny_setField_rec ag ss λah _ V=>hE ah e (λc o c1 _ c3 _ x=>V.extBut _ _ c1$ S _ _ c3$ O.extBut _ _ c1 x) ⟨oe,V.extBut _ _ am aa,af⟩
 |some x=>
  have hy:ys[k2]?=none:=by rcases ao with h|h;rw[hx]at h;cases h;exact h
  refine qAA$ wpAny_nextOf_list_item (h1.extBut O.extBut D.i1z) (an.extBut O.extBut D.l1z) hx λae ay S=>qAE ?_;have ad:IsPair ae TO a b:=S.extBut _ _ D.TOi1$ O.extBut _ _ D.TOz aw;refine qAA$ qCO ad rF ?_;refine qAA$ wpAny_updateSeq_pair ad λah ar V=>?_;refine qAA$ wpAny_letGo$ qAE ?_;refine qAA$ qAA$ wpAny_onRaise ?_;show wpAny _ _ (Builtin.SmallTypes.nextOf (.ref i2) >>= _) _ _ _;have t3:dS A ah:=(t1.but n1 S.extBut).but nO V.extBut;refine qAA$ zEu t3 n2 (((h2.extBut O.extBut D.i2z).extBut S.extBut D.i12.symm).extBut V.extBut D.TOi2.symm) (((ax.extBut O.extBut D.l2z).extBut S.extBut D.l2i1).extBut V.extBut D.l2TO) hy λap e ai he=>?_;obtain⟨oe,aa,af⟩:=he;have aj:IsZip ap z TI TO .ellipsis:=ai _ _ D.i2z.symm$ V.extBut _ _ D.TOz.symm$ S.extBut _ _ D.i1z.symm W;have am:e≠z:=λx=>by subst x;rw[aj]at aa;cases aa;simp at af
  exact wpAny_setField_rec aj ss λaq _ ak=>hE aq e (λc o c1 c2 c3 c4 x=>ak.extBut _ _ c1$ ai _ _ c4$ V.extBut _ _ c2$ S.extBut _ _ c3$ O.extBut _ _ c1 x) ⟨oe,ak.extBut _ _ am aa,af⟩
theorem zIh{z TI TO O S W l2:Addr}{k1 k2:Nat}{xs ys:Array Value}{a b:Value}{Q:Option Value->Shared->Prop}(aa:dS A s.heap)(nz:A.handled≠some (.ref z))(nO:A.handled≠some (.ref TO))(n1:A.handled≠some (.ref O))(n2:A.handled≠some (.ref S))(D:ZipApart z TI TO O S W l2)
  (hz:IsZip s.heap z TI TO .none) (ad:IsPair s.heap TI (.ref O) (.ref S)) (ae:IsPair s.heap TO a b)
  (h1:s.heap.IsListIter O W k1) (h2:s.heap.IsListIter S l2 k2) (af:s.heap.IsList W xs) (ag:s.heap.IsList l2 ys) (V:xs[k1]?=none\/ys[k2]?=none)
  (hQ:∀h',(∀c o,c≠z->c≠TO->c≠O->c≠S->s.heap.get? c=some o->h'.get? c=some o)->Q none {s with heap:=h'}):wpAny (model prog w) A (pyNext$ .ref z) Q E s:=by
 have hT:s.TypeIs (.ref z) "zip":= ⟨_,hz,rF⟩;unfold pyNext;refine qAA$ qB9$ qCc (name:=Str.ofString "__next__") hT F.slot_zip_next$ qBy F.slot_zip_next hT F.entry_zip_next (iA aa.at1 nz nO n1 n2 D hz ad ae h1 h2 af ag V λh' e hk he=>?_)$ F.args_zip_next_1 _;obtain⟨o,ho,hc⟩:=he;refine qAA$ qCP (T:="StopIteration") (b:=true) ⟨o,ho,hc⟩ isSubtype_stop ?_;exact qAE$ hQ _ hk
end
def n9(A:Around):Around:={A with handled:=none}
theorem oF{A:Around}{env:Env}{v:Value}(h:A.handled=some v):((n9 A).deeper env).mark (some v)=A.deeper env:=by
 cases A
 cases h
 rfl
structure jj(P:Program)(w:World)(K:PySem.W.Frag)(mg:Str->Option Value)(base:Heap)(k:Nat)(f:Addr)(fd:FuncData)(ps:List Str)(sp:Addr->Sp):Prop where
 len:∀a vs H Q E,sp a vs H Q E->vs.length=ps.length
 run:∀(A:Around)(outer:List Env)(s:Shared)(H:Hp)(args:Args)(us:List Value)(vs:List V)(Q:VK)(E:XK)(a:Addr),dF k (n9 A)->A.handled=some (.ref a)->jK P w K mg base A outer s H->BindsTo s fd args (ps.zip us)->dv vs us->sp a vs H Q E ->
  codeAny (model P w) A (.call (.ref f) args) (CR CX0 outer P w H s Q E) s
theorem vN{P:Program}{w:World}{K:PySem.W.Frag}{mg:Str->Option Value}{base:Heap}{k:Nat}{f:Addr}{name qual:Str}{W:Arguments}{body:List Stmt}{dV kV af pm O ct oc:Value}{an od:Option Addr}
  {ah:Array (Option Value)} {N ps:List Str} {sp:Addr->Sp} (lk:K.lookup f=some ⟨oc,od,.func$ PySem.W.fnOf name qual W body scope dV kV af pm an O ct,ah⟩) (ai:PySem.W.codeIn K O qual=true) (S:dq N ps scope)
  (len:∀a vs H Q E,sp a vs H Q E->vs.length=ps.length)
  (ad:∀(A:Around) (outer:List Env) (s:Shared) (H:Hp) (vs:List V) (Q:VK) (E:XK) (a:Addr),dF k (A.deeper$ envOfC qual scope s.heap.objs.size f O)->sp a vs H Q E ->
   ∃t,PSs ((dQ CX0 P w K mg base N qual scope f O A outer s H E).hnd a) body t/\t {nx:=λ_ H'=>Q .non H',rt:=Q} (start N vs) H) :
  jj P w K mg base (k+1) f (PySem.W.fnOf name qual W body scope dV kV af pm an O ct) ps sp:=by
 refine⟨len,λA outer s H ak us vs Q E a hr hh e0 hb r ag=>?_⟩;have hl:=len _ _ _ _ _ ag;have KX:K.In s.heap:=e0.mod.kin.keeps λb o e=>(e0.bs b o e).1;have aj:s.heap.NoLimit:=e0.mod.nolimit.keeps λb o e=>(e0.bs b o e).1
 have ae:∀y∈ps.zip us,scope.names.lookup y.1=some .local\/(scope.names.lookup y.1=some .cell/\((cellsFrom (s.heap.objs.size+1) scope.names []).lookup y.1).isSome=true):=λ⟨n,v⟩ hy=>by
  rcases S.par n (qCn hy).1 with q|q
  .exact .inl q
  .exact .inr ⟨q,qCo _ _ _$ .inl q⟩
 refine codeAny_call_function hr.depth (KX _ _ lk) rF S.co S.gen rF (PySem.W.codeRec_of KX ai)$ hb _ _ _ _ ?_;refine wpAny_newFunctionEnv_cells S.kind ae λenv he s1 x=>?_;subst he;refine⟨aj.keeps x.toInCall.keep,codeAny_func ?_⟩;obtain⟨t,ht,hq⟩:=ad (n9 A) outer s H vs Q E a (hr.deeper _) ag;have I:=(g6 (CX:=CX0) (E:=E) (A:=n9 A) (qual:=qual) (f:=f) (cd:=O) S rF ⟨e0.frames,e0.mod,e0.bs,e0.bsz,e0.funs,e0.frf,e0.hok,e0.bare⟩ hl r x).to_hnd (a:=a);have q:=ht [] s1 (start N vs) H _ I hq;have eA:((dQ CX0 P w K mg base N qual scope f O (n9 A) outer s H E).hnd a).A=A.deeper (envOfC qual scope s.heap.objs.size f O):=oF hh;rw[eA]at q;refine qAv q (λfl s' hs=>?_) λe s' hs=>hs.elim
 have fin:∀{aa:St}{H':Hp}{v:V}{u:Value},Inv ((dQ CX0 P w K mg base N qual scope f O (n9 A) outer s H E).hnd a) [] aa H' s'->dy v u->Q v H'->CE outer P w H s Q u s' :=
  λ{aa H' v u} J rv q=>⟨v,H',J.os,J.bare,J.base,J.hok,rv,q⟩
 cases fl with
 |ret u=>
  obtain⟨v,aa,H',J,rv,q⟩:=hs;exact fin J rv q
 |next=>
  obtain⟨aa,H',J,q⟩:=hs;exact fin (v:=V.non) (u:=Value.none) J rF q
 |brk=>
  obtain⟨_,_,_,q⟩:=hs;exact False.elim q
 |cont=>
  obtain⟨_,_,_,q⟩:=hs;exact False.elim q
structure uL(P:Program)(w:World)(K:PySem.W.Frag)(mg:Str->Option Value)(base:Heap)(x:Str)(k:Nat)(ps:List Str)(sp:Addr->Sp):Prop where
 to:∃(f:Addr)(fd:FuncData),mg x=some (.ref f)/\PySem.W.keepIn K (.ref f)=true/\zDe K fd ps []/\jj P w K mg base k f fd ps sp
theorem qd{x:Str}{k:Nat}{ps:List Str}{sp:Addr->Sp}{e:Expr}{es:List Expr}{p pos:Pos}{t:TA}(C:uL X.prog X.w X.K X.mg X.base x k ps sp)(V:dF k X.A)(hg:Gl X x)(ha:PA (X.hnd a) (e::es) t)
  (W:(x==("__debug__": Str))=false:=by decide) (he:starEach (e::es) X.env=(false,eval e X.env)::starEach es X.env:=by rfl) (aa:(backTo pos$ starEach es X.env).any (·.1)=false:=by rfl) :
  PE (X.hnd a) (.Call (.Name x p) (e::es) [] pos) (pI (sp a) [] E0 t):=by
 obtain⟨f,fd,hm,hk,hb,F⟩:=C.to;intro pins s σ H Q I h;refine qCG$ zFj I hg hm ?_ W;refine qCW (h₀:=X.base) I.ok.mod.kin hk (thn (ha pos pins s σ H _ I h) λus s1 ⟨vs,H1,S,r,q⟩=>⟨S.kIn,?_⟩) he aa;have q:sp a (vs++[]) H1 Q E0:=q;rw[qAm]at q;have hl:(us++[]).length=ps.length:=by rw[qAm,<-r.length];exact F.len _ _ _ _ _ q
 have hB:=hb s1 us S.kIn hl;rw[qAm]at hB;refine qCF$ qBf (F.run (X.hnd a).A X.stack s1 H1 ⟨us,[]⟩ us vs Q E0 a ⟨rF,V.dp,V.un,V.gd⟩ rF S.env0 hB r q) λr s' O=>?_
 cases r with
 |error e=>exact O.elim
 |ok fl=>
  cases fl with
  |ret u=>exact S.after O
  |next=>exact False.elim O
  |brk=>exact False.elim O
  |cont=>exact False.elim O
def rH(a:Addr)(H:Hp):Prop:=∃C dd,H a=some (fC a C dd)
theorem rH.at{pins:List (Addr×Obj)}{s:Shared}(h:rH a H)(I:Inv X pins σ H s)(O:X.A.handled=some (.ref a)):dS X.A s.heap:=by
 obtain⟨C,dd,e⟩:=h;obtain⟨⟨o,S,e2,e3,vs,V,W⟩,_⟩:=(show zBq _ _ _ _ _ (fC a C dd)from I.hok a _ e);exact⟨a,o,vs,O,S,V,W⟩
structure qh(xa:Addr)(P:Program)(w:World)(K:PySem.W.Frag)(tg:Expr)(J:It)(fp:List Addr)(it:Addr)(tn:Nat->Heap->Prop):Prop where
 mem:it∈fp
 obj:∀i h,tn i h->∀b∈fp,∃o,h.get? b=some o/\∀v,o.data≠.cell v
 keep:∀i h h',tn i h->(∀b∈fp,∀o,h.get? b=some o->h'.get? b=some o)->tn i h'
 item:∀(X:Cx),X.prog=P->X.w=w->X.K=K->X.A.handled=some (.ref xa)->∀(i:Nat) (pins:List (Addr×Obj)) (s:Shared) (σ:St) (H:Hp) (E:Value->Shared->Prop),Inv X pins σ H s->(∀b∈fp,eS X pins H b)->tn i s.heap->J.go i H ->
  wpAny (model P w) X.A (pyNext$ .ref it) (λr s1=>∃u,r=some u /\ wpAny (model P w) X.A (letOwnedTupleGo tg (.ref it) u) (λ_ s2=>∃x H',Inv X pins σ H' s2/\dy x u/\J.yld i H x H'/\tn (i+1) s2.heap/\∀b∈fp,H' b=none) E s1) E s
 done:∀(X:Cx),X.prog=P->X.w=w->X.K=K->X.A.handled=some (.ref xa)->∀(i:Nat) (pins:List (Addr×Obj)) (s:Shared) (σ:St) (H:Hp) (E:Value->Shared->Prop),Inv X pins σ H s->(∀b∈fp,eS X pins H b)->tn i s.heap->J.stop i H ->
  wpAny (model P w) X.A (pyNext$ .ref it) (λr s1=>r=none/\Inv X pins σ H s1) E s
 self:∀(A:Around)(i:Nat)(s:Shared)(Q:Value->Shared->Prop)(E:Value->Shared->Prop),tn i s.heap->Q (.ref it) s->wpAny (model P w) A (pyIter$ .ref it) Q E s
def PIH(xa:Addr)(X:Cx)(tg iter:Expr)(wi:TI):Prop :=
 ∀(pins:List (Addr×Obj)) (s:Shared) (σ:St) (H:Hp) (R:It->Hp->Prop),Inv X pins σ H s->wi σ H R ->
  wpAny (model X.prog X.w) X.A (eval iter X.env) (λv W=>wpAny (model X.prog X.w) X.A (pyIter v) (λV s2=>∃(O:Addr)(fp:List Addr)(S:Nat->Heap->Prop)(J:It)(H':Hp),V= .ref O/\Inv X pins σ H' s2/\qh xa X.prog X.w X.K tg J fp O S/\S 0 s2.heap/\(∀b∈fp,eS X pins H' b)/\R J H') X.xe W) X.xe s
def pq(K:PySem.W.Frag)(a b xa:Addr):It:=⟨(Itz K a b).go,(Itz K a b).yld,λi H=>(Itz K a b).stop i H/\rH xa H⟩
theorem pc{P:Program}{w:World}{K:PySem.W.Frag}{elts:List Expr}{kk:Nat}{tp:Pos}(a b z TI TO O S:Addr)(D:lZ z TI TO O S):qh xa P w K (.Tuple elts kk tp) (pq K a b xa) [z,TI,TO,O,S] z (me z TI TO O S a b) where
 mem:=ss
 obj:=λi h st c hc=>by
  obtain⟨V,s2,⟨p,q,s3⟩,⟨o4,s4,_,d4⟩,⟨o5,s5,_,d5⟩⟩:=st;have cs:c=z\/c=TI\/c=TO\/c=O\/c=S:=by simpa using hc
  rcases cs with e|e|e|e|e
  .rw [e];exact⟨_,V,λv y=>by cases y⟩
  .rw [e];exact⟨_,s2,λv y=>by cases y⟩
  .rw [e];exact⟨_,s3,λv y=>by cases y⟩
  .rw [e];exact⟨o4,s4,λv y=>by rw[d4]at y;cases y⟩
  .rw [e];exact⟨o5,s5,λv y=>by rw[d5]at y;cases y⟩
 keep:=λi h h' ⟨V,s2,⟨p,q,s3⟩,s4,s5⟩ k=>⟨k z ss _ V,k TI ss _ s2,⟨p,q,k TO ss _ s3⟩,s4.at λo y=>k O ss o y,s5.at λo y=>k S ss o y⟩
 item:=by
  intro X hP hw hK hc i pins s σ H E I hf st hg;subst hP hw hK;obtain⟨xs,ys,x,y,aa,ad,hx,hy⟩:=hg;obtain⟨ag,ae,p1,_⟩:=I.list aa;obtain⟨ah,af,p2,_⟩:=I.list ad;obtain⟨u,hu,ru⟩:=ae.get hx;obtain⟨v,hv,rv⟩:=af.get hy;have D':=st.apart D p1.isList p2.isList;obtain⟨V,s2,⟨p,q,s3⟩,s4,s5⟩:=st;have hn:∀c∈[z,TI,TO,O,S],H c=none:=λc hc=>(hf c hc).1;refine wpAny_pyNext_zip_item D' V s2 s3 s4 s5 p1.isList p2.isList (x:=u) (y:=v) (by simpa using hu) (by simpa using hv) λk a1 a2 a3 a4 a5 a6 a7=>?_;refine⟨_,rF,wpAny_letOwnedTupleGo_zip a1 λk2 z2 b2=>?_⟩;have b2:Heap.SameBut z k k2:=b2;have ai:z<s.heap.objs.size:=qAI V
  have aj:∀c∈[z,TI,TO,O,S],c≠s.heap.objs.size:=λc hc=>by
   have cs:c=z\/c=TI\/c=TO\/c=O\/c=S:=by simpa using hc
   rcases cs with e|e|e|e|e
   .rw [e];exact qAQ ai
   .rw [e];exact qAQ$ qAI s2
   .rw [e];exact qAQ$ qAI s3
   .obtain ⟨o,g,_⟩:=s4;rw[e];exact qAQ$ qAI g
   .obtain ⟨o,g,_⟩:=s5;rw[e];exact qAQ$ qAI g
  have t2:k2.get? s.heap.objs.size=some {cls:=.type "tuple",data:=.seq #[u,v]}:=b2.extBut _ _ (qA4 ai) a5;have on:∀c o,c∉[z,TI,TO,O,S]->s.heap.get? c=some o->k2.get? c=some o:=λc o W g=>b2.extBut c o (λe=>W$ by simp[e])$ a7 c o (λe=>W$ by simp[e]) (λe=>W$ by simp[e]) (λe=>W$ by simp[e]) (λe=>W$ by simp[e]) g;have new:zBq X.prog X.w (upd H s.heap.objs.size$ .tup [x,y]) k2 s.heap.objs.size (.tup [x,y]):=⟨by show(2:Nat)<=sizeLine;decide,[u,v],.cons ru$ .cons rv .nil,⟨_,t2,rF,_,rF⟩⟩
  have I2:Inv X pins σ (upd H s.heap.objs.size$ .tup [x,y]) {s with heap:=k2}:=I.call' (ch:=[z,TI,TO,O,S]) rF (lM on (qAG _)$ I.hok.fresh$ qAG _) (jM I.hok on hn (qAG _) new) I.bare λc hc=>by
   obtain⟨_,f1,_,f3,f4,f5⟩:=hf c hc;exact⟨f3,f1,f4,f5⟩
  refine⟨.ref s.heap.objs.size,_,I2,rF,⟨_,x,y,rF,I.hok.fresh$ qAG _,rF,λzs hz=>by rw[I.list_inj hz aa];exact hx,λzs hz=>by rw[I.list_inj hz ad];exact hy⟩,⟨z2,b2.extBut _ _ D.TIz$ a7 _ _ D.TIz D.TITO D.TIi1 D.TIi2 s2,⟨u,v,b2.extBut _ _ D.TOz a2⟩,a3.extBut b2.extBut D.i1z,a4.extBut b2.extBut D.i2z⟩,λc hc=>?_⟩;rw[a_$ aj c hc];exact hn c hc
 done:=by
  intro X hP hw hK hc i pins s σ H E I hf st hg;subst hP hw hK;obtain⟨⟨xs,ys,aa,ad,hx⟩,ht⟩:=hg;obtain⟨ag,ae,p1,_⟩:=I.list aa;obtain⟨ah,af,p2,_⟩:=I.list ad;have l1:=ae.length;have l2:=af.length;have D':=st.apart D p1.isList p2.isList;obtain⟨V,s2,⟨p,q,s3⟩,s4,s5⟩:=st;have hn:∀c∈[z,TI,TO,O,S],H c=none:=λc hc=>(hf c hc).1
  have nh:∀c∈[z,TI,TO,O,S],X.A.handled≠some (.ref c):=λc m e=>by
   rw[hc]at e
   cases e
   obtain⟨_,_,y⟩:=ht;rw[hn _ m]at y
   cases y
  refine zIh (ht.at I hc) (nh z ss) (nh TO ss) (nh O ss) (nh S ss) D' V s2 s3 s4 s5 p1.isList p2.isList ?_ λh' eb=>⟨rF,?_⟩
  .rcases hx with z|z
   .exact .inl (by simp;lia)
   .exact .inr (by simp;lia)
  .have on:∀c o,c∉[z,TI,TO,O,S]->s.heap.get? c=some o->h'.get? c=some o:=λc o W g=>eb c o (λe=>W$ by simp[e]) (λe=>W$ by simp[e]) (λe=>W$ by simp[e]) (λe=>W$ by simp[e]) g
   exact I.call' (s':={s with heap:=h'}) (ch:=[z,TI,TO,O,S]) rF (qE on) (m9 I.hok on hn) I.bare λc hc=>by
    obtain⟨_,f1,_,f3,f4,f5⟩:=hf c hc;exact⟨f3,f1,f4,f5⟩
 self:=λ_ _ _ _ _ ⟨V,_⟩ h=>qDA V h
theorem jv{Y:Cx}{tg:Expr}{ifs:List Expr}{J:It}{fp:List Addr}{it D:Addr}{tn:Nat->Heap->Prop}{P:List (Addr×Obj)}{W:Nat->Nat->List V->St->Hp->Prop}{m0:Nat}
  {R:Result->Shared->Prop} {QD:Hp->Prop} {s4:Shared} {af:St} {H4:Hp}
  (hc:Y.A.handled=some (.ref xa)) (hx:∀e s,Y.xe e s->False) (hg:PG Y tg g) (ht:PTs Y ifs tt) (he:PE Y elt te) (T:qh xa Y.prog Y.w Y.K tg J fp it tn)
  (ae:∀{H':Hp},(∀b∈fp,H' b=none)->∀b∈fp,eS Y P H' b)
  (ah:∀i m ys O H2,W i m ys O H2->(J.stop i H2/\QD H2)\/(J.go i H2/\∃N:List V->St->Hp->Prop,(∀aa S H',N aa S H'->∃m',m'<m/\W (i+1) m' aa S H')/\∀x H3,J.yld i H2 x H3->g x O H3 fun S H4=>tt S H4 fun b H5 =>
   if b=true then te S H5 λv H6=>H6 D=some (.lst ys)/\ys.length<sizeLine/\N (ys++[v]) S (upd H6 D$ .lst$ ys++[v])
   else N ys S H5))
  (fin:∀O H' s',Inv Y P O H' s'->QD H'->R (.ok .next) s')
  (I0:Inv Y P af H4 s4) (t0:tn 0 s4.heap) (n0:∀b∈fp,H4 b=none) (w0:W 0 m0 [] af H4) :
  codeAny (model Y.prog Y.w) Y.A (.compLoop (.ListComp elt [⟨tg,iter,ifs,0⟩] scope pos) 0 (.ref it) (.ref D) Y.env) R s4:=by
 have nx:∀{α:Type}{t:Sem α}{Q:α->Shared->Prop}{s:Shared},wpAny (model Y.prog Y.w) Y.A t Q Y.xe s->wpAny (model Y.prog Y.w) Y.A t Q (λ_ _=>False) s:=λh=>qAv h (λ_ _ q=>q) hx;refine g_ (λn s'=>∃i ys O H',Inv Y P O H' s'/\tn i s'.heap/\(∀b∈fp,H' b=none)/\W i n ys O H') ?_ m0 ⟨0,[],af,H4,I0,t0,n0,w0⟩;rintro n s5 ⟨i,ys,O,H5,I5,ai,aj,w5⟩;rcases ah i n ys O H5 w5 with⟨ak,q⟩|⟨go,N,hN,step⟩
 .refine thn (T.done Y rF rF rF hc i P s5 O H5 _ I5 (ae aj) ai ak) λr s6 ⟨hr,I6⟩=>?_;subst hr;exact fin O H5 s6 I6 q
 .refine thn (T.item Y rF rF rF hc i P s5 O H5 _ I5 (ae aj) ai go) λr s6 ⟨u,hr,h6⟩=>?_;subst hr;refine thn h6 λ_ s7 ⟨x,H7,I7,r7,y7,ag,am⟩=>?_;have an:=I7.pinned (ae am)$ T.obj _ _ ag;refine nx$ thn (hg _ s7 O H7 x u _ an r7$ step x H7 y7) λ_ s8 ⟨ad,H8,I8,q8⟩=>?_;refine nx$ thn (ht _ s8 ad H8 _ I8 q8) λok s9 ⟨H9,I9,q9⟩=>?_
  have again:∀{aa:List V}{H':Hp}{s':Shared},Inv Y (P++zIu fp s7.heap) ad H' s'->(∃m',m'<n/\W (i+1) m' aa ad H')->∃m,m<n/\∃i ys O H',Inv Y P O H' s'/\tn i s'.heap/\(∀b∈fp,H' b=none)/\W i m ys O H':=λ{aa H' s'} I' ⟨m',hm,w'⟩=>by
   refine⟨m',hm,i+1,aa,ad,H',I'.unpinned,T.keep _ _ _ ag λb hb o e=>(I'.pin (b,o)$ qAs _$ qAs _$ zC4 hb e).1,λb hb=>?_,w'⟩;obtain⟨o,e,d⟩:=T.obj _ _ ag b hb;exact(I'.pin (b,o)$ qAs _$ qAs _$ zC4 hb e).2.1
  cases ok with
  |false=>
   rw[qAB qAd]at q9 ⊢;exact again I9$ hN _ _ _ q9
  |true=>
   rw[qAC rF]at q9 ⊢;refine nx$ thn (he _ s9 ad H9 _ I9 q9) λy ao ⟨v,al,ap,aq,hD,hz,ar⟩=>?_;refine nx$ thn (zCb (X:=Y) _ ao ad al (.ref D) [v] (.ref D) [y] (λ_ H'=>H'=upd al D (.lst$ ys++[v])) ap rF (.cons aq .nil) ⟨D,ys,v,rF,rF,hD,hz,rF⟩) λ_ aw ⟨z,ax,au,_,av⟩=>?_;subst av;exact again au$ hN _ _ _ ar
theorem nJ{tg:Expr}{ifs:List Expr}{pos p1:Pos}{N:List Str}{ix:List (Option Nat)}{wi:TI}{pins:List (Addr×Obj)}{s:Shared}{Q:VK}{use:Option (Value->Sem Unit)}
  {Z:Value->Shared->Prop}
  (hc:X.A.handled=some (.ref xa)) (B:fG X scope) (Dr:du X scope N ix) (hi:PIH xa X tg iter wi)
  (hg:∀C s₀ H₀ ex,PG (X.block scope C s₀ H₀ ex N) tg g) (ht:∀C s₀ H₀ ex,PTs (X.block scope C s₀ H₀ ex N) ifs tt) (he:∀C s₀ H₀ ex,PE (X.block scope C s₀ H₀ ex N) elt te)
  (hs:∀x,foldedSetIterable iter X.env x=pure x)
  (I:Inv X pins σ H s) (h:ja wi ix g tt te σ H Q)
  (fin:∀(D C:Addr) (H':Hp) (s':Shared) (m:Str->Option Value),Inv X pins σ H' s'->Q (.ref D) H'->s'.heap.Ns C m->(∀h',Heap.SameBut C s'.heap h'->Inv X pins σ H' {s' with heap:=h'})->C≠X.env.locals->(∀x c,X.env.cells.lookup x=some c->c≠C)->H' C=none ->
   (∀p∈X.pn++pins,p.1≠C)->X.s₀.heap.objs.size<=C->compPost (model X.prog X.w) X.A X.xe use Z (.ref D) C (.ok .next) s') :
  wpAny (model X.prog X.w) X.A (comprehension (.ListComp elt [⟨tg,iter,ifs,0⟩] scope pos) scope X.env p1 (newList []) false (eval iter X.env) use) Z X.xe s:=by
 have ad:∀x∈scope.names,x.2= .free->∃c,X.env.cells.lookup x.1=some c:=λx hx e=>I.ok.has _$ B.free x hx e;refine wpAny_comprehension_free (use:=use) rF hs (zF4 ad) B.kind B.locs ?_;refine thn (hi pins s σ H _ I h) λv s1 h1=>thn h1 λaw s2 h2=>?_;obtain⟨it,fp,tn,J,H2,e,I2,T,ae,f2,R⟩:=h2;subst e;have aq:H2 s2.heap.objs.size=none:=I2.hok.fresh$ qAG _;obtain⟨W,⟨m0,w0⟩,af⟩:=R _ aq;refine qBa ?_ (by show(0:Nat)<=sizeLine;exact qAi _);have V:Inv X pins σ (upd H2 s2.heap.objs.size$ .lst []) {s2 with heap:=s2.heap.push {cls:=.type "list",data:=.seq ([]:List Value).toArray}}:=I2.lnew (t':=s2.toks) (ys:=[]) (its:=[]) .nil$ qAi _;generalize hD:s2.heap.objs.size=D at *
 have ag:∀b∈fp,∃o,s2.heap.get? b=some o:=λb O=>let⟨o,q,_⟩:=T.obj _ _ ae b O;⟨o,q⟩
 have ar:∀b∈fp,b≠D:=λb O=>by
  obtain⟨o,q⟩:=ag b O;rw[<-hD];exact qAQ$ qAI q
 have f3:∀b∈fp,eS X pins (upd H2 D$ .lst []) b:=λb O=>⟨by rw[a_$ ar b O];exact(f2 b O).1,(f2 b O).2⟩;generalize au:({s2 with heap:=s2.heap.push {cls:=.type "list",data:=.seq ([]:List Value).toArray}}:Shared)=s3 at V ⊢;have ah:∀b o,s2.heap.get? b=some o->s3.heap.get? b=some o:=λb o q=>by rw[<-au];exact qAM _ q
 have S:∀b∈fp,∃o,s3.heap.get? b=some o:=λb O=>let⟨o,q⟩:=ag b O;⟨o,ah b o q⟩;have st3:tn 0 s3.heap:=T.keep _ _ _ ae λb O o q=>ah b o q;refine zDf ?_;have ai:∀b o,s3.heap.get? b=some o->(pushCells (s3.heap.push {cls:=.type "dict",data:=.dict #[]}) scope.names).get? b=some o:=λb o q=>qCw _ _ b o$ qAM _ q;have aj:(pushCells (s3.heap.push {cls:=.type "dict",data:=.dict #[]}) scope.names).Ns s3.heap.objs.size (λ_=>none):=(Heap.Ns.new s3.heap$ .type "dict").keeps$ qCw _ _
 have ak:∀x c,(cellsFrom (s3.heap.objs.size+1) scope.names$ dN X.env scope.names []).lookup x=some c->∃v,(pushCells (s3.heap.push {cls:=.type "dict",data:=.dict #[]}) scope.names).IsCell c v:=λx c e=>by
  refine zCx (h:=s3.heap.push {cls:=.type "dict",data:=.dict #[]}) (acc:=dN X.env scope.names []) (λy d hy=>?_) (by rw[qBR];exact e);obtain⟨v,o,ho,hd⟩:=V.cell y d$ zDn (λy d z=>by simp at z) hy;exact⟨v,o,qAM _ ho,hd⟩
 have IB:=V.blockStart (tk:=s3.toks) B Dr f3 S aj ai ak;generalize ax:pushCells (s3.heap.push {cls:=.type "dict",data:=.dict #[]}) scope.names=h4 at *
 generalize hC:s3.heap.objs.size=C at *
 have al:X.s₀.heap.objs.size<=C:=by rw[<-hC];exact V.sz
 have CL:C≠X.env.locals:=by rw[<-hC];exact qA4 V.lt
 have Cc:∀x c,X.env.cells.lookup x=some c->c≠C:=λx c q=>by
  obtain⟨v,o,ho,_⟩:=V.cell x c q;rw[<-hC];exact qAQ$ qAI ho
 have Cp:∀p∈X.pn++pins,p.1≠C:=λp hp=>by
  rw[<-hC];exact qAQ$ qAI (V.pin p hp).1
 have av:∀b∈fp,b≠C:=λb O=>by
  obtain⟨o,q⟩:=S b O;rw[<-hC];exact qAQ$ qAI q
 have am:∀{H':Hp},(∀b∈fp,H' b=none)->∀b∈fp,eS (X.block scope C s3 (upd H2 D$ .lst []) fp N) (X.pn++pins) H' b:=λ{H'} hn b O=>by
  obtain⟨_,q1,q2,q3,q4,q5⟩:=f2 b O;exact⟨hn b O,av b O,V.nostk q1 q2,.inl O,λx c e=>(zCg e).elim (λz=>q4 x c$ zDn (λy d z=>by simp at z) z) (λz=>by obtain⟨o,q⟩:=S b O;have:=qAI q;rw[hC]at this;exact qA4$ qAj (qBs this) z.1),λp hp=>q5 p$ by simpa[Cx.block]using hp⟩
 have an:tn 0 h4:=T.keep _ _ _ st3 λb O o q=>ai b o q;have n4:∀b∈fp,(upd H2 D$ .lst []) b=none:=λb O=>(f3 b O).1
 have aa:=jv (Y:=X.block scope C s3 (upd H2 D$ .lst []) fp N) (iter:=iter) (pos:=pos) (scope:=scope) (D:=D) (R:=compPost (model X.prog X.w) X.A X.xe use Z (.ref D) C) hc (λ_ _ z=>z) (hg C s3 _ fp) (ht C s3 _ fp) (he C s3 _ fp) T am af
  (fun τ H' s' I' q=>by
   have I5:Inv X pins σ H' s':=V.call' (ch:=fp) I'.os I'.base I'.hok I'.bare λb O=>by
    obtain⟨_,q1,q2,q3,q4,q5⟩:=f2 b O;exact⟨q3,q1,q4,q5⟩
   obtain⟨m,hn,_⟩:=I'.loc;have ao:H' C=none:=I'.free;exact fin D C H' s' m I5 q hn (λay ap=>I5.turned (t':=s'.toks) (λb o O e=>ap.extBut b o O e) ao CL (.inr al) Cc Cp) CL Cc ao Cp al) IB an n4 w0
 exact codeAny_compStart_list aa$ T.self _ 0 _ _ _ an aa
theorem pZ{xa:Addr}{tg:Expr}{ifs:List Expr}{N:List Str}{ix:List (Option Nat)}{wi:TI}(hc:X.A.handled=some (.ref xa))(B:fG X scope)(S:du X scope N ix)(hi:PIH xa X tg iter wi)
  (V:∀C s₀ H₀ ex,PG (X.block scope C s₀ H₀ ex N) tg g) (W:∀C s₀ H₀ ex,PTs (X.block scope C s₀ H₀ ex N) ifs tt) (he:∀C s₀ H₀ ex,PE (X.block scope C s₀ H₀ ex N) elt te)
  (hs:∀x,foldedSetIterable iter X.env x=pure x:=by intro _;rfl):PE X (.ListComp elt [⟨tg,iter,ifs,0⟩] scope pos) (ja wi ix g tt te):=by
 intro pins s σ H Q I h;rw[eval_ListComp];exact nJ (use:=none) hc B S hi V W he hs I h λD C H' s' m I' q hn k _ _ _ _ _=>⟨m,hn,λh' O=>⟨.ref D,H',k h' O,rF,q⟩⟩
section
variable{X:Cx}{elts:List Expr}{kk:Nat}{tp:Pos}
inductive pQ(xa:Addr)(K:PySem.W.Frag)(R:It->Hp->Prop)(vs:List V)(H1:Hp):Prop
 |mk:∀a b,vs=[.ref a,.ref b]->(∃xs,SqL K H1 a xs)->(∃ys,SqL K H1 b ys)->R (pq K a b xa) H1->pQ xa K R vs H1
def wJ(xa:Addr)(K:PySem.W.Frag)(ta:TA):TI:=λσ H R=>ta σ H λvs H1=>pQ xa K R vs H1
theorem sf{xa:Addr}{a b:Expr}{ta:TA}{p:Pos}(hg:Gl X "zip")(hm:X.mg "zip"=none)(ha:PA X [a,b] ta)(he:starEach [a,b] X.env=(false,eval a X.env)::starEach [b] X.env:=by rfl)(V:(backTo pos$ starEach [b] X.env).any (·.1)=false:=by rfl):PIH xa X (.Tuple elts kk tp) (.Call (.Name "zip" p) [a,b] [] pos) (wJ xa X.K ta):=by
 intro pins s σ H R I h;refine Call_$ zHz I hg hm jL$ qCT (thn (ha pos pins s σ H _ I h) λus S ⟨vs,H1,O,r1,q1⟩=>?_) he V;obtain⟨a,b,e,⟨xs,W⟩,⟨ys,aa⟩,q⟩:=q1;subst e
 obtain⟨u,v,rfl,ru,rv⟩:∃u v,us=[u,v]/\dy (.ref a) u/\dy (.ref b) v:=by
  cases r1 with
  |cons ra r2=>cases r2 with
   |cons rb r3=>cases r3;exact⟨_,_,rF,ra,rb⟩
 cases ru
 cases rv
 obtain⟨ad,r1,p1,_⟩:=O.list W;obtain⟨ae,r2,p2,_⟩:=O.list aa;refine call_zip_2 p1.isList p2.isList λh' e1 e2 e3 e4 e5 e6 e7=>qDA e1 ?_;refine⟨S.heap.objs.size+4,[S.heap.objs.size+4,S.heap.objs.size+2,S.heap.objs.size+3,S.heap.objs.size,S.heap.objs.size+1],_,_,H1,rF,O.kept (t':=S.toks) e7,pc a b (S.heap.objs.size+4) (S.heap.objs.size+2) (S.heap.objs.size+3) S.heap.objs.size (S.heap.objs.size+1)$ jt _,⟨e1,e2,⟨_,_,e3⟩,e4,e5⟩,λc hc=>?_,q⟩;have cs:c=S.heap.objs.size+4\/c=S.heap.objs.size+2\/c=S.heap.objs.size+3\/c=S.heap.objs.size\/c=S.heap.objs.size+1:=by simpa using hc
 have ge:S.heap.objs.size<=c:=by
  rcases cs with e|e|e|e|e<;>(rw[e];lia)
 exact O.fpOk ge$ O.hok.fresh ge
inductive uk(xa:Addr)(K:PySem.W.Frag)(n:Nat)(t:TGs)(v:V)(σ:St)(H:Hp)(Q:St->Hp->Prop):Prop
 |mk:∀a xs,v= .ref a->SqT K H a xs->xs.length=n->rH xa H->t xs σ H Q->uk xa K n t v σ H Q
theorem rO{K:PySem.W.Frag}{xa:Addr}{es:List Expr}{k:Nat}{t:TGs}{n:Nat}{pos:Pos}(hc:X.A.handled=some (.ref xa))(h:PGs X es t)(S:X.K=K:=by rfl)
  (W:(assignEach es X.env).length=n:=by rfl) (O:(assignEach es X.env).findIdx? (·.1)=none:=by rfl):PG X (.Tuple es k pos) (uk xa K n t):=by
 subst S;intro pins s σ H v u Q I r hw;obtain⟨a,xs,e1,hq,hl,ht,hw⟩:=hw;subst e1
 cases r
 obtain⟨its,V,hp,hz⟩:=I.tuple hq;refine zGx (ht.at I hc) hp (by simp[W,<-hl,V.length]) O λh' hx=>?_;have I1:Inv X pins σ H {s with heap:=h'}:=I.kept (t':=s.toks) λb o e=>hx b o (qAQ$ qAI e) e;exact h pins _ σ H xs _ Q I1 (by simpa using V) hw
end
theorem nw{K:PySem.W.Frag}{b:Addr}{xs ys:List V}{ix:List (Option Nat)}{QD:Hp->Prop}{H1:Hp}{D:Addr}(hl:ys.length=xs.length)(Pv:Nat->List V->St->Hp->Prop)(h0:Pv 0 [] (zDr σ ix) (upd H1 D$ .lst []))
  (hJ:∀i zs S H,Pv i zs S H->SqL K H a xs/\SqL K H b ys/\rH xa H)
  (hs:∀i x y t zs S H,xs[i]?=some x->ys[i]?=some y->Pv i zs S H->H t=none->g (.ref t) S (upd H t$ .tup [x,y]) λO H4=>tt O H4 λc H5=>if c=true then te O H5 λv H6=>H6 D=some (.lst zs)/\zs.length<sizeLine/\Pv (i+1) (zs++[v]) O (upd H6 D$ .lst$ zs++[v])else Pv (i+1) zs O H5)
  (hd:∀zs S H,Pv xs.length zs S H->QD H) :
  ∃W:Nat->Nat->List V->St->Hp->Prop,(∃m,W 0 m [] (zDr σ ix) (upd H1 D$ .lst []))/\∀i m zs S H2,W i m zs S H2 ->
   ((pq K a b xa).stop i H2/\QD H2)\/((pq K a b xa).go i H2/\∃N:List V->St->Hp->Prop,(∀aa O H',N aa O H'->∃m',m'<m/\W (i+1) m' aa O H')/\∀x H3,(pq K a b xa).yld i H2 x H3->g x S H3 λO H4=>tt O H4 λc H5=>if c=true then te O H5 λv H6=>H6 D=some (.lst zs)/\zs.length<sizeLine/\N (zs++[v]) O (upd H6 D$ .lst$ zs++[v]) else N zs O H5):=by
 refine⟨λi m zs S H=>m=xs.length-i/\i<=xs.length/\Pv i zs S H,⟨xs.length,ss,qAi _,h0⟩,?_⟩;rintro i m zs S H ⟨rfl,hi,p⟩;obtain⟨q1,q2,q3⟩:=hJ i zs S H p
 by_cases hlt:i<xs.length
 .refine .inr ⟨⟨xs,ys,xs[i],ys[i],q1,q2,by simp[hlt],by simp[hl,hlt]⟩,Pv$ i+1,λaa O H' p'=>⟨xs.length-(i+1),Ll,rF,hlt,p'⟩,λv H' y=>?_⟩;obtain⟨t,x,y,rfl,hn,rfl,y1,y2⟩:=y;exact hs i x y t zs S H (y1 xs q1) (y2 ys q2) p hn
 .have e:i=xs.length:=Ll
  subst e;exact .inl ⟨⟨⟨xs,ys,q1,q2,.inl$ qAG _⟩,q3⟩,hd zs S H p⟩
end L2
namespace My
open PySem L2
variable{H:Hp}{f:Addr}
section
variable{K:PySem.W.Frag}
theorem wj:PySem.W.kitOne K (.type "NoneType") (.type "int")=some false:=by rfl
theorem uO:PySem.W.kitOne K (.type "bool") (.type "int")=some true:=by rfl
theorem wo:PySem.W.kitOne K (.type "str") (.type "int")=some false:=by rfl
theorem vg:PySem.W.kitOne K (.type "list") (.type "int")=some false:=by rfl
theorem vi:PySem.W.kitOne K (.type "tuple") (.type "int")=some false:=by rfl
theorem vC:PySem.W.kitOne K (.type "dict") (.type "int")=some false:=by rfl
end
def gf(v:V):Bool:=match v with
 | .int _=>true
 |_=>false
theorem g5{v:V}(h:gf v=true):∃i,v= .int i:=by
 cases v with
 |int i=>exact⟨i,rF⟩
 |_=>cases h
theorem _root_.L2.c_.whole{K:PySem.W.Frag}{v:V}(h:c_ H v):(∃t,dz K H v t/\PySem.W.kitOne K t (.type "int")=some false/\gf v=false)\/(∃b,v= .bl b)\/∃i,v= .int i:=by
 rcases h with⟨x,rfl⟩|rfl|h|h|⟨a,rfl,h⟩
 .exact .inl ⟨_,dz.str x,wo,rF⟩
 .exact .inl ⟨_,dz.non,wj,rF⟩
 .exact .inr$ .inl h
 .exact .inr$ .inr h
 .rcases h with⟨xs,h⟩|⟨xs,h⟩|⟨xs,h⟩
  .exact .inl ⟨_,dz.lst h,vg,rF⟩
  .exact .inl ⟨_,dz.tup h,vi,rF⟩
  .exact .inl ⟨_,dz.dK h,vC,rF⟩
def fU(v:V):Bool:=match v with
 | .int i=>decide (1<=i)
 |_=>false
structure XC(K:PySem.W.Frag)(mg:Str->Option Value)(x:Str)(C:Addr):Prop where
 mgC:mg x=some (.ref C)
 ok:PySem.W.excIn K C lI "ValueError.__new__"=true
section
variable{P:Program}{w:World}{K:PySem.W.Frag}{mg:Str->Option Value}{base:Heap}{C:Addr}
theorem _root_.L2.dw.lift{k:Nat}{fd:FuncData}{ps:List Str}{sp:Sp}(F:dw P w K mg base CX0 k f fd ps sp):dw P w K mg base (CX1 P w) k f fd ps sp :=
 ⟨F.len,λA outer s H S us vs Q E V W hb r h=>qBf (F.run A outer s H S us vs Q E V W hb r h) λrr s' O=>by
  cases rr with
  |error e=>exact O.elim
  |ok fl=>cases fl<;>exact O⟩
theorem _root_.L2.dw.both{CX:CXT}{k:Nat}{fd:FuncData}{ps:List Str}{O V sp:Sp}(W:dw P w K mg base CX k f fd ps O)(F2:dw P w K mg base CX k f fd ps V)(h:∀vs H Q E,sp vs H Q E->O vs H Q E\/V vs H Q E):dw P w K mg base CX k f fd ps sp :=
 ⟨λvs H Q E q=>(h vs H Q E q).elim (W.len vs H Q E)$ F2.len vs H Q E,λA outer s H S us vs Q E hr e0 hb r q=>(h vs H Q E q).elim (W.run A outer s H S us vs Q E hr e0 hb r)$ F2.run A outer s H S us vs Q E hr e0 hb r⟩
inductive eK(vs:List V)(H:Hp)(Q:VK)(u_3:XK):Prop
 |mk:∀v,vs=[v]->c_ H v->Q (.bl$ gf v) H->eK vs H Q u_3
theorem nK{fd:FuncData}(F:Fun K "is_whole" "is_whole" zE1 f fd)(T:Txt K mg):dw P w K mg base CX0 1 f fd ["thing"] eK:=by
 refine F.ok zHj (λvs H Q E h=>?_) λV A outer s H vs Q E W h=>?_
 .obtain ⟨v,rfl,_⟩:=h;rfl
 .obtain ⟨v,rfl,O,k⟩:=h;refine⟨_,(zAe$ zAw$ i6 (zAi zBg rR T.z_isinstance zAl$ zAa (pv 0)$ zAa (zBw rR T.z_int zIb (v:=.ty "int") rF) zAb)$ gp$ pj$ zAi zBg rR T.z_isinstance zAl$ zAa (pv 0)$ zAa (zBw rR T.z_bool mj (v:=.ty "bool") rF) zAb),?_⟩;rcases O.whole (K:=K)with⟨t,ty,S,e⟩|⟨b,rfl⟩|⟨i,rfl⟩
  .refine ⟨_,rF,_,_,_,_,rF,ty,S,_,rF,dC ?_⟩;rw[e]at k;exact k
  .refine ⟨_,rF,_,_,_,_,rF,dz.bl b,uO,_,rF,eZ ?_⟩;exact⟨_,rF,_,_,_,_,rF,dz.bl b,zA1,_,rF,k⟩
  .refine ⟨_,rF,_,_,_,_,rF,dz.int i,zA1,_,rF,eZ ?_⟩;exact⟨_,rF,_,_,_,_,rF,dz.int i,qW,_,rF,k⟩
inductive f_(C:Addr)(vs:List V)(H:Hp)(u_2:VK)(E:XK):Prop
 |mk:∀v,vs=[v]->c_ H v->fU v=false->E (.ref C) none H->f_ C vs H u_2 E
theorem oO{S:Addr}{fd:FuncData}(F:Fun K "check_benches" "check_benches" zB4 f fd)(U:XC K mg "NoBench" S)(O:Cal P w K mg base "is_whole" 1 ["thing"] eK):dw P w K mg base (CX1 P w) 2 f fd ["benches"] (f_ S):=by
 refine Fun.okX F zEf (λvs H Q E h=>?_) λV A outer s H vs Q E W h=>?_
 .obtain ⟨v,rfl,_⟩:=h;rfl
 .obtain ⟨v,rfl,hv,kb,k⟩:=h
  refine⟨_,(zAe$ zBk (PW.pt$ zEk (zBm$ zBi$ zAh O W rF$ zAa (pv 0) zAb)$ zDv$ zAr jY (pv 0) zAd$ zAv _) (zAe$ zDk zGq rF rF U.mgC U.ok$ zAa zAu zAb) zAs),?_⟩
  refine⟨_,rF,v,rF,hv,?_⟩
  cases hb:gf v with
  |false=>exact⟨_,rF,eZ ⟨by show(1:Nat)<=sizeLine;decide,k⟩⟩
  |true=>
   obtain⟨i,rfl⟩:=g5 hb;refine⟨_,rF,dC ?_⟩;refine⟨_,rF,_,_,rF,rF,_,rF,?_⟩;have:=of_decide_eq_false$ show decide (1<=i)=false from kb;rw[qAV$ show i<1 by lia];exact eZ ⟨by show(1:Nat)<=sizeLine;decide,k⟩
def jx(O:Addr):Sp:=λvs H Q E=>fM vs H Q E\/f_ O vs H Q E
end
structure dB(H:Hp)(l:Addr)(as:List Addr)(rs:List (List Str)):Prop where
 top:H l=some (.lst$ as.map V.ref)
 len:as.length=rs.length
 row:∀(i:Nat)(a:Addr)(r:List Str),as[i]?=some a->rs[i]?=some r->H a=some (.lst$ r.map V.str)
theorem dB.kp{H':Hp}{l:Addr}{as:List Addr}{rs:List (List Str)}(R:dB H l as rs)(k:Kp [] H H'):dB H' l as rs :=
 ⟨k l _ R.top ss,R.len,λi a r O S=>k a _ (R.row i a r O S) ss⟩
theorem dB.at{l:Addr}{as:List Addr}{rs:List (List Str)}(R:dB H l as rs){i:Nat}(h:i<rs.length):∃a r,as[i]?=some a/\rs[i]?=some r/\(as.map V.ref)[i]?=some (.ref a)/\H a=some (.lst$ r.map V.str):=by
 have hi:i<as.length:=by rw[R.len];exact h
 have O:as[i]?=some as[i]:=by simp[hi]
 have S:rs[i]?=some rs[i]:=by simp[h]
 exact⟨as[i],rs[i],O,S,by rw[qAY,O];rfl,R.row i _ _ O S⟩
theorem zH0{M:List Addr}{e:Addr}{H1 H2:Hp}(a:Kp M H H1)(f:Fre H e)(b:Kp [e] H1 H2):Kp M H H2:=λc o h n=>b c o (a c o h n)$ nm1$ b_ f h
end My
namespace L2
open PySem PySem.Spec PyProof.Rows
section
variable{X:Cx}
theorem zF8(hc:X.calm=true):zCz X (.builtin "sum") (λxs H Q=>∃(p:Addr)(ns:List Int),xs=[.ref p]/\SqL X.K H p (ns.map V.int)/\Q (.int ns.sum) H):=by
 intro pins s σ H xs us Q I O h;obtain⟨p,ns,rfl,S,q⟩:=h;obtain⟨u,rfl,W⟩:=O.one
 cases W
 obtain⟨its,r,pl,hz⟩:=I.list S;obtain⟨xs,rfl,e⟩:=sR r
 have hI:s.heap.IsList p (intItems xs.toArray):=by
  have:=pl.isList
  rwa [show(xs.map λp=>Value.int p.1 p.2).toArray=intItems xs.toArray from by unfold intItems;simp]at this
 refine sum_intListG (I.ok.hd hc) hI λh' tk aa hk=>?_
 have es:preSum (numAt xs.toArray) xs.toArray.size=ns.sum:=by
  rw[PySem.preSum_eq,<-e,qAS,qBN ss]
 exact⟨.int ns.sum,H,I.kept (t':=tk) hk,⟨_,by rw[es]⟩,q⟩
inductive jn(x:V)(vs:List V)(H:Hp)(Q:VK):Prop
 |mk:∀l xs i y,x= .ref l->vs=[.int i,y]->H l=some (.lst xs)->xs.length<sizeLine->0<=i->i<1000->Q .non (upd H l$ .lst$ xs.take i.toNat++y::xs.drop i.toNat)->jn x vs H Q
theorem kD:MtM X "list.insert" jn:=by
 intro pins s σ H x vs v us Q I V W h;obtain⟨l,xs,i,y,rfl,rfl,S,hz,h0,h1,q⟩:=h
 cases V
 obtain⟨u1,u,rfl,r1,ru⟩:=W.two;obtain⟨t,rfl⟩:=r1;obtain⟨z,its,n,r,hl,e⟩:=I.lstM S
 have O:¬(!Builtin.List.listFitsIndex i)=true:=by
  unfold Builtin.List.listFitsIndex;rw[qAV (show -(2^63:Int)<=i by lia),qAV$ show i<2^63 by lia];decide
 refine qBT F.slot_list_insert ⟨_,e,rF⟩ F.entry_list_insert (F.args_list_insert_3 _ _ _) (PySem.AutoListH.list_insert_list_int_val_1 l its.toArray n i t u O$ by rw[qAS];lia) ⟨e,?_⟩;refine⟨.non,_,I.lset (its':=its.take i.toNat++u::its.drop i.toNat) S e ?_ ((r.take _).append$ .cons ru$ r.drop _) ?_,rF,q⟩
 .have hk:(if i<0 then(i+((its.toArray.size:Nat):Int)).toNat else min i.toNat its.toArray.size)=min i.toNat its.length:=by
   rw[qAB Ll,qAS]
  show(its.toArray.extract 0 _).push u++its.toArray.extract _=_;rw[hk];apply Array.ext';rw[qCY,qCK,qBi,qBi,qBK]
  have t1:its.take (min i.toNat its.length)=its.take i.toNat:=by
   by_cases c:i.toNat<=its.length
   .rw [Nat.min_eq_left c]
   .rw [Nat.min_eq_right Ll,qBN$ qAG _,qBN Ll]
  have t2:its.drop (min i.toNat its.length)=its.drop i.toNat:=by
   by_cases c:i.toNat<=its.length
   .rw [Nat.min_eq_left c]
   .rw [Nat.min_eq_right Ll,qCf$ qAG _,qCf Ll]
  simp[List.extract_eq_drop_take,t1,t2];exact qBN (by rw[qAz];lia)
 .rw [qAN,qAa,qAU,qAz];lia
end
end L2
namespace My
open PySem L2
variable{P:Program}{w:World}{K:PySem.W.Frag}{mg:Str->Option Value}{base:Heap}{C:Addr}
variable{i m n:Nat}{f l c a s:Addr}{fd:FuncData}{X:Cx}{H H':Hp}{e:Expr}{xs:List V}{Q:VK}{D:eI}{σ:St}{v:V}{es:List Expr}{te:TE}{t:L2.TA}{pos:Pos}{x:Str}{st:Stmt}
structure eR(J:JR)(bs:List (List Str)):Prop where
 ne:∀B∈bs,B≠[]
 ns:∀B∈bs,∀x∈B,x∈J.ns
 nd:bs.flatten.Nodup
 nx:∀(i:Nat)(B B':List Str),bs[i]?=some B->bs[i+1]?=some B'->∀x∈B,∀y∈B',x∈J.S y
theorem mT{bs:List (List Str)}{B:List Str}(O:bs.flatten.Nodup)(h:B∈bs):B.Nodup:=O.sublist$ List.sublist_flatten_of_mem h
theorem wL{bs:List (List Str)}{B:List Str}(O:bs.flatten.Nodup)(h:bs[i]?=some B):∀x∈B,x∉(bs.take i).flatten:=by
 have hi:=(qAL.mp h).1
 have e:bs=bs.take i++(B::bs.drop (i+1)):=by
  have h1:=(qBb i bs).symm;rw[qC7 hi]at h1;rw[(qAL.mp h).2]at h1;exact h1
 rw[e,qBn,qBA]at O;intro x S hm;exact(qBX.mp O).2.2 x hm x (qAp _ S) rF
theorem pH{J:JR}{bs:List (List Str)}(G:eR J bs)(few:J.ns.length<=20)(i:Nat):((bs.take i).flatten).length<=20:=by
 have S:((bs.take i).flatten).Sublist bs.flatten:=by
  have e:bs.flatten=(bs.take i).flatten++(bs.drop i).flatten:=by rw[<-qBn,qBb]
  rw[e];exact List.sublist_append_left _ _
 refine qAW (zB3 (G.nd.sublist S) λx O=>?_) few;obtain⟨B,V,O⟩:=qDB.mp O;exact G.ns B (qBj V) x O
def tf(m b:Int):Int:=(m+b-1) / b
section
inductive sO(vs:List V)(H:Hp)(Q:VK)(u_3:XK):Prop
 |mk:∀(m b:Int),vs=[.int m,.int b]->1<=b->b<10^100->Q (.int$ tf m b) H->sO vs H Q u_3
abbrev zDp:Stmt:=top 32
theorem zHg:dq ["many","benches"] ["many","benches"] (zAg zDp):=fnS
theorem zHq(F:Fun K "turns_filled" "turns_filled" zDp f fd):dw P w K mg base CX0 1 f fd ["many","benches"] sO:=by
 refine F.ok zHg (λvs H Q E h=>?_) λV A outer s H vs Q E O h=>?_
 .obtain ⟨m,b,rfl,_⟩:=h;rfl
 .obtain ⟨m,b,rfl,h1,h2,k⟩:=h;exact⟨_,(zAe$ zAw$ zAn zBr (zAn zE9 (zAn zCy (pv 0)$ pv 1) zAd)$ pv 1),⟨_,rF,_,rF,_,_,rF,rF,_,_,rF,rF,_,rF,_,_,rF,rF,⟨Ll,h2⟩,k⟩⟩
inductive pT(C:Addr)(vs:List V)(H:Hp)(Q:VK)(u_3:XK):Prop
 |mk:∀(j r:Addr)(J:JR)(x:Str)(row:List Str),vs=[.ref j,.str x,.ref r]->dG C H j J->x∈J.ns->Txs H r row->row.length<=20->(∀y∈row,y∈J.ns/\x∈J.S y)->(∀H',Kp [] H H'->Q (.bl true) H')->pT C vs H Q u_3
abbrev zBl:Stmt:=top 40
theorem zDs:dq ["jobs","name","row"] ["jobs","name","row"] (zAg zBl):=fnS
theorem zGj(F:Fun K "has_all_behind" "has_all_behind" zBl f fd)(T:Txt K mg)(U:JC K mg C)(O:Mth P w K mg base C "is_ahead" 3 ["self","one","other"] (eL C)):dw P w K mg base CX0 4 f fd ["jobs","name","row"] (pT C):=by
 refine F.ok zDs (λvs H Q E h=>?_) λad A outer s H vs Q E hr h=>?_
 .obtain ⟨j,r,J,x,W,rfl,_⟩:=h;rfl
 .obtain ⟨j,r,J,x,W,rfl,A0,hx,S,lr,ok,k⟩:=h;refine⟨_,(zAe$ zAw$ zAi (zE6 _ rF) rR T.z_all zI3$ zAa (zBn rF (zBp (sc:=zAg zBl) rF kK) (du.own (x:="other")$ dtk (i:=1) rF$ dtk (i:=0) rF du.nil) (zAq$ pv 2) (λ_ _ _ _=>(pgB (i:=0))) (λ_ _ _ _=>zCm) λaa s₀ H₀ ex=>(i9 O U.cl hr (pv 2)$ zAa (pv 1)$ zAa (pv 0) zAb)) zAb),?_⟩
  refine⟨_,rF,_,rF,⟨_,SqL.of S⟩,λB hB=>zBc (W.map V.str) (λi ys τ H3=>(∃o0,τ=[o0,some (.str x),some (.ref j)])/\ys=((W.take i).map λ_=>V.bl true)/\Kp [] H H3/\H3 B=some (.lst ys)) ⟨⟨_,rF⟩,rF,Kp.new Kp.refl hB,ac⟩ (λi ys τ H3 ⟨_,_,k3,_⟩=>SqL.of$ k3 r _ S ss) ?_ ?_⟩
  .rintro i v ys τ H3 hv ⟨⟨o0,rfl⟩,rfl,k3,h3⟩;obtain⟨y,ey,rfl⟩:=zA9 hv;obtain⟨yn,xs⟩:=ok y$ qAJ ey;have A3:=A0.kp0 k3;refine⟨_,rF,j,J.dx,_,rF,A3.ob,mw _ _ _ kK kK kK,_,rF,_,rF,j,J,x,y,rF,A3,hx,yn,?_⟩;refine⟨h3,?_,⟨_,rF⟩,?_,Kp.new k3 hB,ac⟩
   .rw [qAD,qAU,qAK];lia
   .rw [zAk ey,qAP,qAV xs];rfl
  .rintro ys τ H3 ⟨_,rfl,k3,h3⟩;rw[qAD,qAg]at h3;refine⟨B,W.map λ_=>true,rF,SqL.of ?_,?_⟩
   .rw [h3,qBO];rfl
   .have e:((W.map λ_=>true).all id)=true:=by rw[qCg];exact qBt.mpr λ_ _=>rfl
    rw[e];exact k _ k3
inductive uK(vs:List V)(H:Hp)(Q:VK)(u_3:XK):Prop
 |mk:∀(l st r:Addr)(ns B row:List Str),vs=[.ref l,.ref st,.ref r]->Txs H l ns->dO H st B->Txs H r row->row≠[]->(∀x∈row,x∈ns/\x∉B)->row.Nodup->row.length<=20->B.length<=20->(∀H',Kp [st] H H'->dO H' st (B++row)->Q .non H')->uK vs H Q u_3
abbrev zC2:Stmt:=top 39
theorem zCw:dq ["names","stood","block","thing"] ["names","stood","block"] (zAg zC2):=fnS
theorem zIk(F:Fun K "check_block" "check_block" zC2 f fd)(T:Txt K mg)(O:Cal P w K mg base "is_one_of" 1 ["thing","names"] eO):dw P w K mg base CX0 2 f fd ["names","stood","block"] uK:=by
 refine F.ok zCw (λvs H Q E h=>?_) λad A outer s H vs Q E hr h=>?_
 .obtain ⟨l,st,r,ns,B,W,rfl,_⟩:=h;rfl
 .obtain ⟨l,st,r,ns,B,W,rfl,hl,aa,S,ne,ok,nd,lr,lB,k⟩:=h;have hu:=zF2 hr
  refine⟨_,(zAc (zBk (PW.pt$ zEk (zBm$ zBi$ zAi zBg rR T.z_isinstance zAl$ zAa (pv 2)$ zAa (zBw rR T.z_list zCe (v:=.ty "list") rF) zAb)$ zDv$ zBm$ zG6 (pv 2) λ_=>rfl) (zAe zAz) zAs) (zAe (zA7 qAc rF (zAq$ pv 2) (pgN (i:=3) zCw.nd)
    (zAc (zBk (zBm$ zBi$ zAh O hr rF$ zAa (pv 3)$ zAa (pv 0) zAb)
     (zAe zAz)
     zAs)
    (zAc (zBk (zEg$ zHp hu (pv 3)$ pv 1)
     (zAe zAz)
     zAs)$ zAe$ zD4 hu (pv 1) (pv 3) zEs rF))))),?_⟩
  refine fJ ?_;intro _ _;refine⟨_,rF,_,_,_,_,rF,dz.lst S,zA1,_,rF,dC ?_⟩
  refine⟨_,rF,true,.inl ⟨_,SqL.of S,by cases W with
   |nil=>exact absurd rF ne
   |cons a b=>rfl⟩,dC ?_⟩
  refine⟨_,rF,_,rF,⟨_,SqL.of S⟩,zA3 (xs:=W.map V.str) (λi σ H2=>(∃o3:Option V,σ=[some (.ref l),some (.ref st),some (.ref r),o3])/\Kp [st] H H2/\dO H2 st (B++W.take i)) ⟨⟨_,rF⟩,Kp.refl,by rw[qC6,qAm];exact aa⟩ (λi σ H2 _ ⟨_,k2,_⟩=>SqL.of$ k2 _ _ S$ nm1$ zCp S aa λz=>nomatch z) ?_ ?_⟩
  .rintro i v σ H2 hv ⟨⟨o3,rfl⟩,k2,h2⟩;refine gv ?_;intro _ _ _;obtain⟨x,ex,rfl⟩:=zA9 hv;obtain⟨xn,xB⟩:=ok x$ qAJ ex;have nx:x∉B++W.take i:=λz=>(qAR.mp z).elim xB$ zE4 nd ex;refine⟨_,rF,_,rF,x,l,ns,rF,k2 _ _ hl (nm1$ zCp hl aa λz=>nomatch z),_,rF,?_⟩;rw[qAV xn];refine dC ?_;obtain⟨o,g1,g2⟩:=zEm h2 x;refine⟨_,rF,_,rF,_,_,rF,g1,_,rF,?_⟩;rw[g2,qAZ nx];refine dC ?_;refine⟨_,rF,_,rF,_,_,rF,fA.k (k:=Sum.inr x) h2 ?_,?_⟩
   .rw [zEa,qAN,qAU,qAK];lia
   refine⟨⟨_,rF⟩,Kp.put k2 ss,?_⟩;show upd _ _ _ _=_;rw[ac,zD3 _ nx,zAk ex,<-qBK];unfold dT1;rw[qAP (l₁:=B++W.take i)];rfl
  .rintro σ H2 ⟨_,k2,h2⟩;rw[qAD,qAg]at h2;exact k _ k2 h2
inductive mW(C:Addr)(vs:List V)(H:Hp)(Q:VK)(u_3:XK):Prop
 |mk:∀(j bl:Addr)(J:JR)(as:List Addr) (bs:List (List Str)),vs=[.ref j,.ref bl]->dG C H j J->dB H bl as bs->bs.length<=20->eR J bs->(∀H',Kp [] H H'->Q .non H')->mW C vs H Q u_3
abbrev zBz:Stmt:=top 38
theorem zAx:dq ["jobs","blocks","stood","block","one","other"] ["jobs","blocks"] (zAg zBz):=fnS
theorem zHr(F:Fun K "check_blocks" "check_blocks" zBz f fd)(T:Txt K mg)(U:JC K mg C)(S:Mth P w K mg base C "names" 1 ["self"] (fK C))(O:Cal P w K mg base "check_block" 2 ["names","stood","block"] uK)(aa:Cal P w K mg base "has_all_behind" 4 ["jobs","name","row"] (pT C)):dw P w K mg base CX0 5 f fd ["jobs","blocks"] (mW C):=by
 refine F.ok zAx (λvs H Q E h=>?_) λaq A outer s H vs Q E hr h=>?_
 .obtain ⟨j,bl,J,as,bs,rfl,_⟩:=h;rfl
 .obtain ⟨j,bl,J,as,bs,rfl,A0,R,ar,G,k⟩:=h;have ai:=hr.mono (j:=1) dD;have aj:=hr.mono (j:=2) dD
  refine⟨_,(zAc (zBk (zBm$ zBi$ zAi zBg rR T.z_isinstance zAl$ zAa (pv 1)$ zAa (zBw rR T.z_list zCe (v:=.ty "list") rF) zAb) (zAe zAz) zAs) (zAc (psS (i:=2) zAx.nd zBv)
   (zAc (zA7 qAc rF (zAq$ pv 1) (pgN (i:=3) zAx.nd)$ zAe$ zA2$ zAh O aj rF$ zAa (gS S U.cl ai$ pv 0)$ zAa (pv 2)$ zAa (pv 3) zAb)
   (zAe (zA7 qAc rF (kJ rF T.z_zip$ zAa (pv 1)$ zAa (zB1 zCi (pv 1) (zCd zAd) zCr) zAb) (zIv rF$ zBf (pgN (i:=4) zAx.nd)$ zBf (pgN (i:=5) zAx.nd) zD5)
    (zAe (zBk (zBm$ zBi$ zAi (zE6 _ rF) rR T.z_all zI3$ zAa (zBn rF (zBp (sc:=zAg zBz) rF kK) (du.own (x:= "name")$ dtk (i:=0) rF$ dtk (i:=5) rF du.nil) (zAq$ pv 4) (fun _ _ _ _=>(pgB (i:=0))) (fun _ _ _ _=>zCm) fun ap s₀ H₀ ex=>(zAh aa hr rF$ zAa (pv 1)$ zAa (pv 0)$ zAa (pv 2) zAb)) zAb)
     (zAe zAz)
     zAs))))))),?_⟩
  refine e_ ?_;intro _ _ _ _;have W:∀B∈bs,B.length<=20:=λB hB=>qAW (zB3 (mT G.nd hB)$ G.ns B hB) A0.few;refine⟨_,rF,_,_,_,_,rF,dz.lst R.top,zA1,_,rF,dC ?_⟩;refine λst ak=>?_;have fs:Fre H st:=ak;have k1:Kp [] H (upd H st$ .dK []):=Kp.new Kp.refl fs;have e1:dO (upd H st$ .dK []) st (bs.take 0).flatten:=ac;generalize upd H st (.dK [])=H1 at k1 e1;refine⟨_,rF,_,rF,⟨_,SqL.of$ k1 _ _ R.top ss⟩,zA3 (xs:=as.map V.ref) (λi σ H2=>(∃o3:Option V,σ=[some (.ref j),some (.ref bl),some (.ref st),o3,none,none])/\Kp [] H H2/\dO H2 st (bs.take i).flatten) ⟨⟨_,rF⟩,k1,e1⟩ (λi σ H2 _ ⟨_,k2,_⟩=>SqL.of$ k2 _ _ R.top ss) ?_ ?_⟩
  .rintro i v σ H2 hv ⟨⟨o3,rfl⟩,k2,h2⟩
   have hi:i<bs.length:=by
    have:=(qAL.mp hv).1;rw[qAD,R.len]at this;exact this
   obtain⟨a,B,ea,eB,ev,ha⟩:=R.at hi;rw[ev]at hv
   cases hv
   have mB:=qAJ eB;have A2:=A0.kp0 k2;refine⟨_,rF,j,J.dx,_,rF,A2.ob,mw _ _ _ kK kK kK,j,J,rF,A2,λn H3 fn hn k3=>?_⟩;refine⟨_,rF,_,rF,n,st,a,J.ns,(bs.take i).flatten,B,rF,hn,k3 _ _ h2 ss,(k2.trans k3) _ _ ha ss,G.ne B mB,λx hx=>⟨G.ns B mB x hx,wL G.nd eB x hx⟩,mT G.nd mB,W B mB,pH G A0.few i,λH4 k4 h4=>?_⟩;refine⟨⟨_,rF⟩,zH0 (k2.trans k3) fs k4,?_⟩;rw[zAk eB,qBn,qBA,qCk,qAm];exact h4
  rintro σ H2 ⟨⟨o3,rfl⟩,k2,_⟩;refine⟨_,rF,_,rF,_,rF,_,_,rF,SqL.of$ k2 _ _ R.top ss,λ(sl:Addr) al=>?_⟩;have ec:fI (as.map V.ref) (some 1) none=(as.drop 1).map V.ref:=by rw[zF3 _ dD,qBl];rfl
  rw[ec];have k3:Kp [] H2 (upd H2 sl$ .lst$ (as.drop 1).map V.ref):=Kp.new Kp.refl al;have e3:upd H2 sl (.lst$ (as.drop 1).map V.ref) sl=some (.lst$ (as.drop 1).map V.ref):=ac;generalize upd H2 sl (.lst$ (as.drop 1).map V.ref)=H3 at k3 e3;have K3:=k2.trans k3;refine⟨bl,sl,rF,⟨_,SqL.of$ K3 _ _ R.top ss⟩,⟨_,SqL.of e3⟩,iz (xs:=as.map V.ref) (ys:=(as.drop 1).map V.ref) (λi σ H4=>(∃o4 o5:Option V,σ=[some (.ref j),some (.ref bl),some (.ref st),o3,o4,o5])/\Kp [] H3 H4) ⟨⟨_,_,rF⟩,Kp.refl⟩ (λi σ H4 ⟨_,k4⟩=>⟨SqL.of$ (K3.trans k4) _ _ R.top ss,SqL.of$ k4 _ _ e3 ss⟩) ?_ ?_⟩
  .rintro i v1 v2 σ H4 t ad ae ⟨⟨o4,o5,rfl⟩,k4⟩ ht
   have hi:i<bs.length:=by
    have:=(qAL.mp ad).1;rw[qAD,R.len]at this;exact this
   have am:i+1<bs.length:=by
    have:=(qAL.mp ae).1;rw[qAD,qAz,R.len]at this;lia
   obtain⟨a,B,ea,eB,ev,ha⟩:=R.at hi;obtain⟨a',B',an,af,au,ao⟩:=R.at am;rw[ev]at ad
   cases ad
   have e2:((as.drop 1).map V.ref)[i]?=some (.ref a'):=by
    rw[qAY,qCL,qCs,an];rfl
   rw[e2]at ae
   cases ae
   have kt:Kp [] H4 (upd H4 t$ .tup [.ref a,.ref a']):=Kp.new Kp.refl ht;refine⟨_,_,rF,.inl$ .inl ac,rF,_,_,rF,_,_,rF,rF,?_⟩;generalize upd H4 t (.tup [.ref a,.ref a'])=H5 at kt;have K5:=(K3.trans k4).trans kt;have ag:=K5 _ _ ha ss;have mB:=qAJ eB;have ah:=qAJ af;refine⟨_,rF,_,rF,⟨_,SqL.of ag⟩,λY hY=>zBc (B.map V.str) (λp ys τ H6=>(∃o0,τ=[o0,some (.ref j),some (.ref a')])/\ys=((B.take p).map λ_=>V.bl true)/\Kp [] H5 H6/\H6 Y=some (.lst ys)) ⟨⟨_,rF⟩,rF,Kp.new Kp.refl hY,ac⟩ (λp ys τ H6 ⟨_,_,k6,_⟩=>SqL.of$ k6 _ _ ag ss) ?_ ?_⟩
   .rintro p v ys τ H6 hv ⟨⟨o0,rfl⟩,rfl,k6,h6⟩;obtain⟨x,ex,rfl⟩:=zA9 hv;have mx:=qAJ ex;have K6:=K5.trans k6;have lb:=W B mB;refine⟨_,rF,_,rF,_,rF,j,a',J,x,B',rF,A0.kp0 K6,G.ns B mB x mx,K6 _ _ ao ss,W B' ah,λy hy=>⟨G.ns B' ah y hy,G.nx i B B' eB af x mx y hy⟩,λH7 k7=>?_⟩;refine⟨k7 _ _ h6 ss,?_,⟨_,rF⟩,?_,Kp.new (k6.trans k7) hY,ac⟩
    .rw [qAD,qAU,qAK];lia
    .rw [zAk ex,qAP];rfl
   .rintro ys τ H6 ⟨_,rfl,k6,h6⟩;rw[qAD,qAg]at h6;refine⟨Y,B.map λ_=>true,rF,SqL.of (by rw[h6,qBO];rfl),_,rF,?_⟩;rw[show((B.map λ_=>true).all id)=true by rw[qCg];exact qBt.mpr λ_ _=>rfl];refine dC ?_;exact⟨⟨_,_,rF⟩,(k4.trans kt).trans k6⟩
  .rintro i σ H4 _ ⟨_,k4⟩;exact k _$ K3.trans k4
def sL(b:Int)(bs:List (List Str)):Int:=(bs.map λB=>tf (B.length:Int) b).sum
inductive mf(C:Addr)(vs:List V)(H:Hp)(Q:VK)(u_3:XK):Prop
 |mk:∀(j bl:Addr)(b:Int)(J:JR)(as:List Addr) (bs:List (List Str)),vs=[.ref j,.int b,.ref bl]->dG C H j J->dB H bl as bs->bs.length<=20->eR J bs->1<=b->b<10^100->(∀H',Kp [] H H'->Q (.int$ sL b bs) H')->mf C vs H Q u_3
abbrev zBb:Stmt:=top 37
theorem zDg:dq ["jobs","benches","blocks"] ["jobs","benches","blocks"] (zAg zBb):=fnS
theorem zDl(F:Fun K "shown_by_blocks" "shown_by_blocks" zBb f fd)(T:Txt K mg)(S:Cal P w K mg base "check_blocks" 5 ["jobs","blocks"] (mW C))(O:Cal P w K mg base "turns_filled" 1 ["many","benches"] sO):dw P w K mg base CX0 6 f fd ["jobs","benches","blocks"] (mf C):=by
 refine F.ok zDg (λvs H Q E h=>?_) λaf A outer s H vs Q E hr h=>?_
 .obtain ⟨j,bl,b,J,as,bs,rfl,_⟩:=h;rfl
 .obtain ⟨j,bl,b,J,as,bs,rfl,A0,R,aa,G,b1,b2,k⟩:=h;have ad:=hr.mono (j:=1) dD
  refine⟨_,(zAc (zA2$ zAh S hr rF$ zAa (pv 0)$ zAa (pv 2) zAb)$ zAe$ zAw$ zAi (zF8 rF) rR T.z_sum iN$ zAa (zBn rF (zBp (sc:=zAg zBb) rF kK) (du.own (x:="block")$ dtk (i:=1) rF du.nil) (zAq$ pv 2) (λ_ _ _ _=>(pgB (i:=0))) (λ_ _ _ _=>zCm) λae s₀ H₀ ex=>(zAh O ad rF$ zAa (zAi (zC3 (K:=K)) rR T.z_len zBy$ zAa (pv 0) zAb)$ zAa (pv 1) zAb)) zAb),?_⟩
  refine fJ ?_;intro _ _;refine⟨_,rF,_,rF,j,bl,J,as,bs,rF,A0,R,aa,G,λH1 k1=>?_⟩;have R1:=R.kp k1;refine⟨_,rF,_,rF,⟨_,SqL.of R1.top⟩,λY hY=>zBc (as.map V.ref) (λi ys W H3=>(∃o0,W=[o0,some (.int b)])/\ys=((bs.take i).map λB=>V.int$ tf (B.length:Int) b)/\H3=upd H1 Y (.lst ys)) ⟨⟨_,rF⟩,rF,rF⟩ (λi ys W H3 ⟨_,_,z⟩=>by subst z;exact SqL.of$ (Kp.new (M:=[]) Kp.refl hY) _ _ R1.top ss) ?_ ?_⟩
  .rintro i v ys W H3 hv ⟨⟨o0,rfl⟩,rfl,rfl⟩
   have hi:i<bs.length:=by
    have:=(qAL.mp hv).1;rw[qAD,R.len]at this;exact this
   obtain⟨a,B,ea,eB,ev,ha⟩:=R1.at hi;rw[ev]at hv
   cases hv
   have kY:Kp [] H1 (upd H1 Y$ .lst$ (bs.take i).map λB=>V.int$ tf (B.length:Int) b):=Kp.new Kp.refl hY;refine⟨_,rF,_,_,rF,.inl$ SqL.of$ kY _ _ ha ss,_,rF,_,b,rF,b1,b2,?_⟩;refine⟨ac,?_,⟨_,rF⟩,?_,zB7⟩
   .rw [qAD,qAU,qAK];lia
   .rw [zAk eB,qAP,qAD];rfl
  .rintro ys W H3 ⟨_,rfl,rfl⟩;have eT:bs.take (as.map V.ref).length=bs:=by rw[qAD,R.len,qAg]
   rw[eT];refine⟨Y,bs.map λB=>tf (B.length:Int) b,rF,SqL.of (by rw[ac,qBO];rfl),?_⟩;exact k _$ k1.trans$ Kp.new Kp.refl hY
end
theorem qM{K:PySem.W.Frag}{tg l:Expr}{tl:TE}(O:PE X l tl)(S:X.K=K:=by rfl):PI X tg l (ue K tl):=by subst S;exact zAq O
theorem zD9{K:PySem.W.Frag}{e:Addr}(h1:SqL K H c xs)(h2:SqL K H e [])(h:∀O:Bool,(O=true↔xs=[])->Q (.bl O) H):dU K 8 true (.ref c) (.ref e) H Q\/dR K false (.ref c) (.ref e) H Q:=by
 by_cases z:xs=[]
 .subst z;exact .inl ⟨c,e,_,_,rF,rF,h1,h2,rF,(λi x y h=>by simp at h),h true ss⟩
 .refine .inr ⟨c,e,_,_,rF,rF,h1,h2,λy=>z$ qBx.mp y,h false$ by simp[z]⟩
theorem qJ{c:TT}{tb:TS}(V:Nat->St->Hp->Prop)(m:Nat)(h0:V m σ H)
  (hs:∀m σ H,V m σ H->c σ H λb H1=>if b=true then tb {D with nx:=λO H'=>∃S,S<m/\V S O H',ct:=λO H'=>∃S,S<m/\V S O H',bk:=D.nx} σ H1 else D.nx σ H1)
  (mono:∀σ H Q W,(∀b H1,Q b H1->W b H1)->c σ H Q->c σ H W):ie c tb D σ H:=by
 refine⟨V,⟨m,h0⟩,λm σ H p=>mono σ H _ _ (λb H1 q=>?_)$ hs m σ H p⟩
 cases b with
 |true=>exact⟨_,λO H' h=>h,q⟩
 |false=>exact q
theorem qz{a b:TS}(I:St->Hp->Prop)(h1:∀σ H,I σ H->b D σ H)(h2:(∀σ H,I σ H->b D σ H)->a {D with nx:=b D} σ H):dA a b D σ H:=h2 h1
theorem gN{Q:St->Hp->Prop}(h:Q (σ.set i$ some v) H):zJy i v σ H Q:=h
theorem zJe{p:Addr}{ns:List Str}(O:Txs H l ns)(S:zB9 H p):l≠p:=by
 obtain⟨a,b,e,_⟩:=S
 exact zCp O e λz=>by
  have h:=HO.lst.inj z
  cases ns with
  |nil=>cases h
  |cons x t=>cases h
structure Gro(J:JR)(r:Str->Nat)(bs:List (List Str))(Lf:List Str):Prop where
 g:eR J bs
 sub:∀y∈Lf,y∈J.ns
 nd:Lf.Nodup
 up:∀x∈bs.flatten,∀y∈Lf,r x<r y
 nx:∀B,bs.getLast?=some B->∀x∈B,∀y∈Lf,x∈J.S y
theorem tm{bs:List (List Str)}(h:∀B∈bs,B≠[]):bs.length<=bs.flatten.length:=by
 induction bs with
 |nil=>exact qAG _
 |cons B bs O=>
  rw[qAa,qBA,qAN];have h1:=qB1.mpr$ h B qAf;have h2:=O λX S=>h X$ qAX _ S;lia
theorem Gro.few{J:JR}{r:Str->Nat}{bs:List (List Str)}{S:List Str}(G:Gro J r bs S)(few:J.ns.length<=20):bs.length<=20:=by
 refine qAW (tm G.g.ne)$ qAW (zB3 G.g.nd λx O=>?_) few;obtain⟨B,V,O⟩:=qDB.mp O;exact G.g.ns B V x O
theorem Gro.more{J:JR}{r:Str->Nat}{bs:List (List Str)}{Lf R V:List Str}(G:Gro J r bs Lf)(rk:∀n∈J.ns,∀x∈J.S n,r x<r n)(ne:R≠[])(nd:R.Nodup)(sub:∀x∈R,x∈Lf)(h1:∀y∈V,y∈J.ns/\∀x∈R,x∈J.S y)(aa:V.Nodup):Gro J r (bs++[R]) V:=by
 refine⟨⟨λB W=>?_,λB W x O=>?_,?_,λi B B' e1 e2 x O y S=>?_⟩,λy S=>(h1 y S).1,aa,λx O y S=>?_,λB W x O y S=>?_⟩
 .rcases qAR.mp W with z|z
  .exact G.g.ne B z
  .rw [qAO.mp z];exact ne
 .rcases qAR.mp W with z|z
  .exact G.g.ns B z x O
  .rw [qAO.mp z]at O;exact G.sub x$ sub x O
 .rw [qBn,qBA,qCk,qAm];exact qBX.mpr ⟨G.g.nd,nd,λa ha b hb e=>absurd (G.up a ha b$ sub b hb)$ by rw[e];exact qA2 _⟩
 .by_cases c:i+1<bs.length
  .rw [qA5 Ll]at e1;rw[qA5 c]at e2;exact G.g.nx i B B' e1 e2 x O y S
  .have hi:=(qAL.mp e2).1;rw[qAN,qAn]at hi;have e:i+1=bs.length:=Ll
   rw[qBJ Ll,e,qCC]at e2
   cases e2
   rw[qA5 Ll]at e1;refine G.nx B ?_ x O y$ sub y S;rw[List.getLast?_eq_getElem?,<-e1];congr 1;lia
 .obtain ⟨h2,h3⟩:=h1 y S;rw[qBn,qBA,qCk,qAm]at O;rcases qAR.mp O with z|z
  .obtain ⟨w,hw⟩:=List.exists_mem_of_ne_nil R ne;exact qCt (G.up x z w$ sub w hw)$ rk y h2 w$ h3 w hw
  .exact rk y h2 x$ h3 x z
 .rw [List.getLast?_append,List.getLast?_singleton]at W;have:R=B:=by simpa using W
  subst this;exact(h1 y S).2 x O
section
inductive fv(vs:List V)(H:Hp)(Q:VK)(u_3:XK):Prop
 |mk:∀(p l d:Addr)(J:JR)(r:Str->Nat)(la:Str->Addr)(L:Str->List Str),vs=[.ref p,.ref l,.ref d]->zB9 H p->Txs H l J.ns->DR H d J.ns la L->J.ns.Nodup->J.ns.length<=20->(∀n∈J.ns,∀x∈J.S n,r x<r n)->(∀n∈J.ns,∀x∈J.ns,x∈L n↔n∈J.S x)->(∀(c:Addr)(as:List Addr) (bs:List (List Str)) (H':Hp),Fre H c->(∀a∈as,Fre H a/\a≠c)->dB H' c as bs->bs.length<=20->eR J bs->zB9 H' p->Kp [p] H H'->Q (.ref c) H')->fv vs H Q u_3
abbrev zE2:Stmt:=top 62
theorem zC6:dq ["_law_purse_here","_law_names_here","_law_behind_here","_law_rows","_law_left","_law_thin","_law_row"] ["_law_purse_here","_law_names_here","_law_behind_here"] (zAg zE2):=fnS
theorem ls(F:Fun K "_law_blocks" "_law_blocks" zE2 f fd)(T:Txt K mg)(W:Cal P w K mg base "_law_take" 1 ["_law_purse_here","_law_many"] eV):dw P w K mg base CX0 2 f fd ["_law_purse_here","_law_names_here","_law_behind_here"] fv:=by
 refine F.ok zC6 (λvs H Q E h=>?_) λbz A outer s H vs Q E hr h=>?_
 .obtain ⟨p,l,d,J,r,la,L,rfl,_⟩:=h;rfl
 .obtain ⟨p,l,d,J,r,la,L,rfl,hP,hl,D0,nd,few,rk,bi,kk⟩:=h;have hu:=zF2 hr
  refine⟨_,(zAc (psS (i:=3) zC6.nd$ zAj zAb) (zAc (psS (i:=4) zC6.nd$ zA8 zBu rR T.z_list zCe$ zAa (pv 1) zAb)
   (zAc (zJf qAc (PW.pt$ zHl (zAr (zEt hr) (pv 4) (zAj zAb)$ zAv _)$ zGg$ zAr jh (zAh W hr rF$ zAa (pv 0)$ zAa zAd zAb) zAd$ zAv _)
    (zAc (psS (i:=5) zC6.nd$ zAn zCy zAd$ zAh W hr rF$ zAa (pv 0)$ zAa zAd zAb)
    (zAc (psS (i:=6) zC6.nd$ zBn rF (zBp (sc:=zAg zE2) rF kK) (du.own (x:= "_law_name")$ dtk (i:=0) rF$ dtk (i:=5) rF du.nil) (zAq$ pv 4) (fun _ _ _ _=>(pgB (i:=0))) (fun _ _ _ _=>(zCl$ zAr zD8 (zAh W hr rF$ zAa (pv 1)$ zAa (pv 2) zAb) zAd$ zAv _)) fun _ _ _ _=>(pv 0))
    (zAc (zBk (zAr (ir hr) (pv 6) (zAj zAb)$ zAv _)
     (zAe$ psS (i:=6) zC6.nd$ zAj$ zAa (zBd zA0 (pv 4) (zAh W hr rF$ zAa (pv 0)$ zAa (zAi zAp rR T.z_len zBy$ zAa (pv 4) zAb) zAb) λ_ _=>rfl) zAb)
     zAs)
    (zAc (zA2$ zD6 qAx qC8 qC9 zHv (pv 6)$ zAa (zAh W hr rF$ zAa (pv 0)$ zAa (zAi zAp rR T.z_len zBy$ zAa (pv 6) zAb) zAb)$ zAa (ph qAx PySem.F.slot_list_pop PySem.F.type_list_pop pD$ pv 6) zAb)
    (zAc (zA2$ zD6 qAx qBz qB0 zCb (pv 3)$ zAa (pv 6) zAb)$ zAe$ zGi (i:=4) rF (zBp (sc:=zAg zE2) rF kK) (du.own (x:="_law_name")$ dtk (i:=6) rF$ dtk (i:=2) rF du.nil) (zAq$ pv 1) (λ_ _ _ _=>(pgB (i:=0))) (λ_ _ _ _=>(zCl$ zAr (rN (K:=K) hr) (zBn rF (uU (sc:=zAg zE2) rF rF kK) (du.own (x:="_law_one")$ dtk (i:=0) rF$ dtk (i:=2) rF du.nil) (qM (K:=K)$ pv 1) (λ_ _ _ _=>(pgB (i:=0))) (λ_ _ _ _=>(zCl$ zEg$ zDa hu (pv 1)$ zB8 hu (pv 2) (pv 0) λ_ _=>rfl)) λ_ _ _ _=>(pv 0)) (zAj zAb)$ zAv _)) (λ_ _ _ _=>(pv 0)) zC6.nd rF rF))))))$ zAe$ zAw$ pv 3))),?_⟩
  refine e_ ?_;intro _ _ _ _;refine⟨(by walk_at"ln"),λc0 bj=>?_⟩;have f0:Fre H c0:=bj;have k1:Kp [] H (upd H c0$ .lst []):=Kp.new Kp.refl f0;have e1:upd H c0 (.lst []) c0=some (.lst$ ([]:List Addr).map V.ref):=ac;generalize upd H c0 (.lst [])=H1 at k1 e1;have bk:Txs H1 l J.ns:=k1 _ _ hl ss;refine⟨_,rF,_,_,rF,.inl$ SqL.of bk,λav aS=>?_⟩;have k2:Kp [] H1 (upd H1 av$ .lst$ J.ns.map V.str):=Kp.new Kp.refl aS;have e2:Txs (upd H1 av$ .lst$ J.ns.map V.str) av J.ns:=ac;generalize upd H1 av (.lst$ J.ns.map V.str)=H2 at k2 e2;have K2:=k1.trans k2;have ay:p≠c0:=by obtain⟨a,b,e,_⟩:=hP;exact b_ f0 e
  have np:∀{Hx:Hp}{a:Addr}{xs:List V},zB9 Hx p->H a=none->Hx p≠none:=λhp _=>by obtain⟨u,v,e,_⟩:=hp;rw[e];simp
  refine qJ (λm σ H7=>∃(lf:Addr)(o5 o6:Option V)(as:List Addr) (bs:List (List Str)) (Lf:List Str),σ=[some (.ref p),some (.ref l),some (.ref d),some (.ref c0),some (.ref lf),o5,o6]/\zB9 H7 p/\Kp [p] H H7/\dB H7 c0 as bs/\(∀a∈as,Fre H a/\a≠c0)/\Txs H7 lf Lf/\lf≠p/\Gro J r bs Lf/\m=20-bs.length) 20 ⟨av,none,none,[],[],J.ns,rF,hP.kp K2 ss,K2.weak ss,⟨k2 _ _ e1 ss,rF,λi a r h=>by simp at h⟩,(λa h=>nomatch h),e2,?_,⟨⟨λB h=>(nomatch h),λB h=>(nomatch h),qBC,λi B B' h _=>by simp at h⟩,λy hy=>hy,nd,λx h=>(nomatch h),λB h=>by simp at h⟩,rF⟩ ?_ λσ H Q Q' hq hc=>?_
  .obtain ⟨a,b,e,_⟩:=hP.kp k1 ss;exact(b_ (show Fre H1 av from aS) e).symm
  .rintro m σ H7 ⟨lf,o5,o6,as,bs,Lf,rfl,P7,k7,R7,fa,aW,az,G,rfl⟩;have a4:=G.few few;have lL:Lf.length<=20:=qAW (zB3 G.nd G.sub) few
   have ap:∀a∈as,a≠p:=λa ha z=>by
    have:=(fa a ha).1;obtain⟨u,v,e,_⟩:=hP;rw[z,show H p=none from z▸this]at *
    cases e
   refine⟨_,rF,(by walk_at"ln"),λe he=>?_⟩;have k8:Kp [] H7 (upd H7 e$ .lst []):=Kp.new Kp.refl he;have e8:upd H7 e (.lst []) e=some (.lst []):=ac;generalize upd H7 e (.lst [])=H8 at k8 e8;refine zHu (SqL.of$ k8 _ _ aW ss) (SqL.of e8) λbb aA=>?_;refine⟨_,rF,dE (λc=>?_) λc=>?_⟩
   .refine ⟨_,rF,p,12,rF,P7.kp k8 ss,dD,kK,λtk H9 t0 t1 P9 k9=>?_⟩;have aB:Kp [p] H7 H9:=(k8.weak ss).trans k9;have R9:dB H9 c0 as bs:=⟨aB _ _ R7.top$ nm1 ay.symm,R7.len,λi a r x1 x2=>aB _ _ (R7.row i a r x1 x2)$ nm1$ ap a$ qAJ x1⟩;have aT:Txs H9 lf Lf:=aB _ _ aW$ nm1 az;have K9:=k7.trans aB;refine⟨_,_,rF,rF,_,rF,dE (λc2=>?_) λc2=>?_⟩
    .have bl:Lf≠[]:=λz=>aA c (by rw[z];rfl);refine⟨_,rF,p,5,rF,P9,dD,kK,λth ai h0 h1 aJ aK=>?_⟩;refine⟨_,_,rF,rF,?_⟩;have an:Txs ai lf Lf:=aK _ _ aT$ nm1 az;have aw:dB ai c0 as bs:=⟨aK _ _ R9.top$ nm1 ay.symm,R9.len,λi a r x1 x2=>aK _ _ (R9.row i a r x1 x2)$ nm1$ ap a$ qAJ x1⟩;have a5:=K9.trans aK;clear R9 aT K9 k9 P9 aB R7 aW k7 P7 k8 e8;refine⟨_,rF,_,rF,⟨_,SqL.of an⟩,λB hB=>zBt (Lf.map V.str) (λj ys τ ad=>(∃o0,τ=[o0,some (.ref p),some (.int$ 1+th)])/\∃Y:List Str,ys=Y.map V.str/\Y.Sublist (Lf.take j)/\zB9 ad p/\Kp [p] ai ad/\ad B=some (.lst ys)) ⟨⟨_,rF⟩,[],rF,List.nil_sublist _,aJ.kp (M:=[]) (Kp.new Kp.refl hB) ss,Kp.new Kp.refl hB,ac⟩ (λj ys τ ad ⟨_,_,_,_,_,ag,_⟩=>SqL.of$ ag _ _ an$ nm1 az) ?_ ?_⟩
     .rintro j v ys τ ad hv ⟨⟨o0,rfl⟩,Y,rfl,sY,aC,ag,au⟩;obtain⟨n,en,rfl⟩:=zA9 hv;have aL:B≠p:=by obtain⟨u,v,e,_⟩:=aJ;exact(b_ (show Fre ai B from hB) e).symm
      have lY:Y.length<=20:=qAW sY.length_le$ qAW (by rw[qAU];lia) lL;refine⟨_,rF,_,rF,p,1+th,rF,aC,Ll,Ll,λz ao z0 z1 aM S=>?_⟩;have aj:=S _ _ au$ nm1 aL;refine⟨rF,_,rF,dE (λc=>?_) λc=>?_⟩
      .refine ⟨_,rF,aj,by rw[qAD,qAK];lia,⟨_,rF⟩,Y++[n],by rw[qAP];rfl,by rw[zAk en];exact sY.append$ List.Sublist.refl _,aM.kp (M:=[B]) (Kp.put Kp.refl ss)$ nm1 aL.symm,Kp.new (ag.trans S) hB,ac⟩
      .exact ⟨⟨_,rF⟩,Y,rF,by rw[zAk en];exact sY.trans$ List.sublist_append_left _ _,aM,ag.trans S,aj⟩
     .rintro ys τ ad ⟨_,Y,rfl,sY,aC,ag,au⟩;rw[qAD,qAg]at sY;refine gN ?_;dsimp only;have fB:Fre ai B:=hB;have aL:B≠p:=by obtain⟨u,v,e,_⟩:=aJ;exact(b_ fB e).symm
      refine qz (λσ ao=>∃(O:Addr)(R:List Str),σ=[some (.ref p),some (.ref l),some (.ref d),some (.ref c0),some (.ref lf),some (.int$ 1+th),some (.ref O)]/\zB9 ao p/\Kp [p] ai ao/\Fre ai O/\Txs ao O R/\R≠[]/\R.Nodup/\∀x∈R,x∈Lf) ?_ λkey=>?_
      .clear sY au ag aC hB fB aL;rintro σ ao ⟨O,R,rfl,aM,S,aN,aX,a6,a7,aD⟩;obtain⟨R',y,rfl⟩:∃R' y,R=R'++[y]:=⟨R.dropLast,R.getLast a6,(List.dropLast_concat_getLast a6).symm⟩
       have lR:R'.length+1<=20:=by
        have:=qAW (zB3 a7 aD) lL;rw[qAN,qAn]at this;exact this
       have aY:O≠p:=by obtain⟨a,b,e,_⟩:=aJ;exact(b_ aN e).symm
       have aO:O≠c0:=(b_ aN aw.top).symm;have aZ:dB ao c0 as bs:=⟨S _ _ aw.top$ nm1 ay.symm,aw.len,λi a r x1 x2=>S _ _ (aw.row i a r x1 x2)$ nm1$ ap a$ qAJ x1⟩
       have bn:∀a∈as,a≠O:=λa ha=>by
        obtain⟨i,hi,e⟩:=qBL.mp ha;have:=aw.row i a _ (by rw[qAq hi,e]) (qAq$ by rw[<-aw.len];exact hi);exact b_ aN this
       refine⟨_,rF,.inl ⟨rF,_,SqL.of aX⟩,_,rF,_,rF,_,_,rF,.inl$ SqL.of aX,p,_,rF,aM,by rw[qAD,qAN,qAn];lia,by rw[qAD,qAN,qAn];lia,λz ae z0 z1 aP aq=>?_⟩;rw[qAD,qAN,qAn]at z1;have aE:Txs ae O (R'++[y]):=aq _ _ aX$ nm1 aY;refine⟨_,rF,.inl ⟨rF,_,SqL.of aE⟩,O,_,.str y,rF,rF,aE,ss,?_⟩;refine⟨O,R'.map V.str,z,.str y,rF,rF,by rw[ac,qAP];simp,by rw[qAD,qAK];lia,z0,by rw[qAD];lia,?_⟩;rw[iQ V.str];have pm:=ST.ins_perm R' z.toNat y;generalize R'.take z.toNat++y::R'.drop z.toNat=R2 at pm;have aF:R2.Perm (R'++[y]):=pm.trans$ List.perm_append_comm (l₁:=[y]);have ak:Kp [O] ae (upd (upd ae O$ .lst ((R'++[y]).map V.str).dropLast) O$ .lst$ R2.map V.str):=Kp.put (Kp.put Kp.refl ss) ss;have a0:Txs (upd (upd ae O$ .lst ((R'++[y]).map V.str).dropLast) O$ .lst$ R2.map V.str) O R2:=ac;generalize upd (upd ae O$ .lst ((R'++[y]).map V.str).dropLast) O (.lst$ R2.map V.str)=ar at ak a0;have al:dB ar c0 as bs:=⟨ak _ _ (aq _ _ aZ.top$ nm1 ay.symm)$ nm1 aO.symm,aZ.len,λi a r x1 x2=>ak _ _ (aq _ _ (aZ.row i a r x1 x2)$ nm1$ ap a$ qAJ x1)$ nm1$ bn a$ qAJ x1⟩;have a8:Fre H O:=a5.fre aN$ nm1 aY;have bo:Kp [p] H ar:=zH0 ((a5.trans S).trans aq) a8 ak;have bp:zB9 ar p:=aP.kp ak$ nm1 aY.symm;refine⟨_,rF,.inl ⟨rF,_,SqL.of al.top⟩,_,rF,_,_,_,rF,rF,al.top,by rw[qAD,al.len,qAK];lia,?_⟩;have ax:Kp [c0] ar (upd ar c0$ .lst$ as.map V.ref++[.ref O]):=Kp.put Kp.refl ss;have a9:upd ar c0 (.lst$ as.map V.ref++[.ref O]) c0=some (.lst$ (as++[O]).map V.ref):=by rw[ac,qAP];rfl
       generalize upd ar c0 (.lst$ as.map V.ref++[.ref O])=am at ax a9;have aQ:Kp [p] H am:=zH0 bo f0 ax
       have bq:dB am c0 (as++[O]) (bs++[R2]):=⟨a9,by rw[qAN,qAN,al.len];rfl,λi a r x1 x2=>by
        by_cases hi:i<as.length
        .rw [qA5 hi]at x1;rw[qA5$ by rw[<-al.len];exact hi]at x2;exact ax _ _ (al.row i a r x1 x2)$ nm1 (fa a$ qAJ x1).2
        .have h2:=(qAL.mp x1).1;rw[qAN,qAn]at h2;have:i=as.length:=Ll
         subst this;rw[qBJ$ qAG _,qCC]at x1;rw[qBJ (by rw[al.len];exact qAG _),al.len,qCC]at x2
         cases x1
         cases x2
         exact ax _ _ a0$ nm1 aO⟩
       have ba:Txs am O R2:=ax _ _ a0$ nm1 aO;have bc:zB9 am p:=bp.kp ax$ nm1 ay;have aU:Txs am l J.ns:=aQ _ _ hl$ nm1$ zJe hl hP;have br:DR am d J.ns la L:=⟨aQ _ _ D0.top (nm1$ by obtain⟨a,b,e,_⟩:=hP;exact zCp D0.top e λz=>nomatch z),λn hn=>aQ _ _ (D0.row n hn)$ nm1$ by obtain⟨a,b,e,_⟩:=hP;exact zCp (D0.row n hn) e λz=>nomatch z⟩;have bd:∀x∈R2,x∈J.ns:=λx hx=>G.sub x$ aD x$ aF.mem_iff.mp hx;have bA:R2.length<=20:=by rw[aF.length_eq,qAN,qAn];exact lR
       refine⟨_,rF,_,rF,⟨_,SqL.of aU⟩,λB2 a1=>zBt (J.ns.map V.str) (λj ys τ aa=>(∃o0,τ=[o0,some (.ref O),some (.ref d)])/\ys=((J.ns.take j).filter λn=>decide$ ∀x∈R2,n∈L x).map V.str/\Kp [] am aa/\aa B2=some (.lst ys)) ⟨⟨_,rF⟩,rF,Kp.new Kp.refl a1,ac⟩ (λj ys τ aa ⟨_,_,af,_⟩=>SqL.of$ af _ _ aU ss) ?_ ?_⟩
       .rintro j v ys τ aa hv ⟨⟨o0,rfl⟩,rfl,af,h16⟩;obtain⟨n,en,rfl⟩:=zA9 hv;have aV:=af _ _ ba ss;have bt:=br.kp0 af;refine⟨_,rF,_,rF,⟨_,SqL.of aV⟩,λB3 a2=>zBt (R2.map V.str) (λi zs τ ah=>(∃o0,τ=[o0,some (.str n),some (.ref d)])/\zs=((R2.take i).filter λx=>decide$ n∉L x).map V.str/\ah=upd aa B3 (.lst zs)) ⟨⟨_,rF⟩,rF,rF⟩ (λi zs τ ah ⟨_,_,z⟩=>by subst z;exact SqL.of$ (Kp.new (M:=[]) Kp.refl a2) _ _ aV ss) ?_ ?_⟩
        .rintro i v zs τ ah hv ⟨⟨o0,rfl⟩,rfl,rfl⟩;obtain⟨x,ex,rfl⟩:=zA9 hv;have hx:=bd x$ qAJ ex;have kB:Kp [] aa (upd aa B3$ .lst$ ((R2.take i).filter λx=>decide$ n∉L x).map V.str):=Kp.new Kp.refl a2;have be:=bt.kp0 kB;obtain⟨o,g1,g2⟩:=zEm (be.row x hx) n;refine⟨_,rF,_,rF,_,rF,_,_,rF,be.get hx,_,o,rF,g1,_,rF,?_⟩;rw[g2,show(!decide (n∈L x))=decide (n∉L x) by simp];refine dE (λc=>?_) λc=>?_
         .refine ⟨_,rF,ac,by rw[qAD];exact zJ0 Ll,⟨_,rF⟩,?_,zB7⟩;rw[zHa (p:=λx=>decide$ n∉L x) ex c,qAP];rfl
         .refine ⟨⟨_,rF⟩,?_,rF⟩;rw[zJz (p:=λx=>decide$ n∉L x) ex c]
        .rintro zs τ ah ⟨_,rfl,rfl⟩;rw[qAD,qAg];have aR:Kp [] aa (upd aa B3$ .lst$ (R2.filter λx=>decide$ n∉L x).map V.str):=Kp.new Kp.refl a2;have bf:upd aa B3 (.lst$ (R2.filter λx=>decide$ n∉L x).map V.str) B3=some (.lst$ (R2.filter λx=>decide$ n∉L x).map V.str):=ac;generalize upd aa B3 (.lst$ (R2.filter λx=>decide$ n∉L x).map V.str)=ah at aR bf;refine⟨(by walk_at"ln"),λe he=>?_⟩;have aG:Kp [] ah (upd ah e$ .lst []):=Kp.new Kp.refl he;have bg:upd ah e (.lst []) e=some (.lst []):=ac;generalize upd ah e (.lst [])=bB at aG bg;have h18:=(aR.trans aG) _ _ h16 ss;refine zD9 (SqL.of$ aG _ _ bf ss) (SqL.of bg) λbb aA=>?_
         have eb:bb=decide (∀x∈R2,n∈L x):=by
          rw[qB5,aA,qC5,qCd,List.filter_eq_nil_iff];exact⟨λh x hx=>by simpa using h x hx,λh x hx=>by simpa using h x hx⟩
         subst eb;refine⟨_,rF,dE (λc=>?_) λc=>?_⟩
         .refine ⟨_,rF,h18,by rw[qAD];exact zJ0 Ll,⟨_,rF⟩,?_,Kp.new (af.trans$ aR.trans aG) a1,ac⟩;rw[zHa (p:=λn=>decide$ ∀x∈R2,n∈L x) en c,qAP];rfl
         .refine ⟨⟨_,rF⟩,?_,af.trans$ aR.trans aG,h18⟩;rw[zJz (p:=λn=>decide$ ∀x∈R2,n∈L x) en c]
       .rintro ys τ aa ⟨_,rfl,af,h16⟩;rw[qAD,qAg]at h16;have bu:Fre am B2:=a1;have bv:dB aa c0 (as++[O]) (bs++[R2]):=bq.kp af
        have G':Gro J r (bs++[R2]) (J.ns.filter λn=>decide$ ∀x∈R2,n∈L x):=by
         refine G.more rk (λz=>by have:=aF.length_eq;rw[z,qAN]at this;simp at this) (aF.nodup_iff.mpr a7) (λx hx=>aD x$ aF.mem_iff.mp hx) (λy hy=>?_)$ nd.filter _;obtain⟨h1,h2⟩:=qBZ.mp hy;exact⟨h1,λx hx=>(bi x (bd x hx) y h1).mp$ qBm h2 x hx⟩
        refine⟨20-(bs++[R2]).length,?_,B2,_,_,as++[O],bs++[R2],_,rF,bc.kp af ss,aQ.trans$ af.weak ss,bv,λa ha=>?_,h16,?_,G',rF⟩
        .have:=G'.few few;rw[qAN,qAn]at this ⊢;lia
        .rcases qAR.mp ha with z|z
         .exact fa a z
         .rw [qAO.mp z];exact⟨a8,aO⟩
        .obtain ⟨a,b,e,_⟩:=bc;exact(b_ bu e).symm
      .refine ⟨_,rF,(by walk_at"ln"),λe he=>?_⟩;have S:Kp [] ad (upd ad e$ .lst []):=Kp.new Kp.refl he;have bh:upd ad e (.lst []) e=some (.lst []):=ac;generalize upd ad e (.lst [])=ao at S bh;have aj:=S _ _ au ss;refine zD9 (SqL.of aj) (SqL.of bh) λbb aA=>?_;refine⟨_,rF,dE (λc=>?_) λc=>?_⟩
       .have aH:=(ag.trans$ S.weak ss) _ _ an$ nm1 az;refine⟨_,rF,_,rF,_,rF,_,_,rF,.inl$ SqL.of aH,p,_,rF,aC.kp S ss,?_,?_,λz ae z0 z1 aP aq=>?_⟩
        .rw [qAD];have:=qB1.mpr bl;lia
        .rw [qAD];lia
        rw[qAD]at z1;obtain⟨x,ex⟩:∃x,Lf[z.toNat]?=some x:=⟨_,qAq Ll⟩;have a3:=aq _ _ aH$ nm1 az;refine⟨_,_,_,.str x,rF,rF,SqL.of a3,zEj z0 (by rw[qAY,ex];rfl),(by walk_at"ln"),λu hu=>?_⟩;have fu:Fre ae u:=hu;have ak:Kp [] ae (upd ae u$ .lst [.str x]):=Kp.new Kp.refl fu;have aI:Kp [p] ai ae:=(ag.trans$ S.weak ss).trans aq;have bw:u≠p:=by obtain⟨a,b,e,_⟩:=aP;exact(b_ fu e).symm
        exact key _ _ ⟨u,[x],rF,aP.kp ak ss,aI.trans$ ak.weak ss,aI.fre fu$ nm1 bw,ac,ss,qBI.mpr ⟨ss,qBC⟩,λy hy=>by rw[qAO.mp hy];exact qAJ ex⟩
       .exact key _ _ ⟨B,Y,rF,aC.kp S ss,ag.trans$ S.weak ss,fB,aj,λz=>c (aA.mpr$ by rw[z];rfl),G.nd.sublist sY,λx hx=>sY.subset hx⟩
    .exact ⟨_,rF,kk c0 as bs H9 f0 fa R9 a4 G.g P9 K9⟩
   .have bx:Kp [p] H7 H8:=k8.weak ss;exact⟨_,rF,kk c0 as bs H8 f0 fa (R7.kp k8) a4 G.g (P7.kp k8 ss)$ k7.trans bx⟩
  .obtain ⟨x,ex,h1,h2⟩:=hc;refine⟨x,ex,h1,λe he=>?_⟩;rcases h2 e he with⟨a,c,xs,ys,z1,z2,z3,z4,z5,z6,bb,z7,z8⟩|⟨a,c,xs,ys,z1,z2,z3,z4,z5,bb,z7,z8⟩
   .refine .inl ⟨a,c,xs,ys,z1,z2,z3,z4,z5,z6,bb,z7,?_⟩
    by_cases cc:bb=true
    .rw [qAC cc]at z8 ⊢;obtain⟨y,ey,p1,m1,w1,w2,w3,w4,w5⟩:=z8;refine⟨y,ey,p1,m1,w1,w2,w3,w4,λd H' u1 u2 u3 u4=>?_⟩;obtain⟨i,j,v1,v2,b2,v3,v4⟩:=w5 d H' u1 u2 u3 u4;exact⟨i,j,v1,v2,b2,v3,hq _ _ v4⟩
    .rw [qAB cc]at z8 ⊢;exact hq _ _ z8
   .refine .inr ⟨a,c,xs,ys,z1,z2,z3,z4,z5,bb,z7,?_⟩
    by_cases cc:bb=true
    .rw [qAC cc]at z8 ⊢;obtain⟨y,ey,p1,m1,w1,w2,w3,w4,w5⟩:=z8;refine⟨y,ey,p1,m1,w1,w2,w3,w4,λd H' u1 u2 u3 u4=>?_⟩;obtain⟨i,j,v1,v2,b2,v3,v4⟩:=w5 d H' u1 u2 u3 u4;exact⟨i,j,v1,v2,b2,v3,hq _ _ v4⟩
    .rw [qAB cc]at z8 ⊢;exact hq _ _ z8
end
structure PAI(X:Cx)(es:List Expr)(t:L2.TA):Prop where
 to:PA X es t
theorem zCn :PAI X [] gw:=⟨zAb⟩
theorem zA5(O:PE X e te)(S:PAI X es t)(hs:iL e=true:=by rfl):PAI X (e::es) (zIf te t):=⟨zAa O S.to$ ot hs⟩
theorem zFg{X:Cx}{es:List Expr}{t:L2.TA}{pos:Pos}(h:PAI X es t):PE X (.List es pos) (fH t):=zAj h.to
theorem nr{O}(h:PAI X es t):PE X (.Tuple es O pos) (gx t):=zCa h.to
theorem xi:bootBuiltins "ValueError"=some (.type "ValueError"):=by decide +kernel
structure xb(K:PySem.W.Frag)(mg:Str->Option Value)(Cn Cp Ct Cm:Addr)(D1 D2:Nat->Addr):Prop where
 c1:mg "NoBench"=some (.ref Cn)
 c2:mg "NoPaper"=some (.ref Cp)
 c3:mg "NoTurns"=some (.ref Ct)
 c4:mg "TooMany"=some (.ref Cm)
 n0:mg "NoEnd"=some (.ref$ D1 0)
 n1:mg "NoJob"=some (.ref$ D1 1)
 n2:mg "NoLength"=some (.ref$ D1 2)
 n3:mg "NoLine"=some (.ref$ D1 3)
 n4:mg "NoName"=some (.ref$ D1 4)
 n5:mg "NoRow"=some (.ref$ D1 5)
 n6:mg "NoText"=some (.ref$ D1 6)
 n7:mg "NoWindow"=some (.ref$ D1 7)
 n8:mg "NoWood"=some (.ref$ D1 8)
 m0:mg "Ring"=some (.ref$ D2 0)
 m1:mg "Stranger"=some (.ref$ D2 1)
 m2:mg "Twice"=some (.ref$ D2 2)
 zv:mg "ValueError"=none
structure xk(K:PySem.W.Frag)(Cn Cp Ct Cm:Addr)(D1 D2:Nat->Addr)(Ce:Addr)(b1 b2 b3 b4:Bool):Prop where
 kit:zFb K Ce=true
 k1:PySem.W.kitOne K (.ref Ce) (.ref Cn)=some b1
 k2:PySem.W.kitOne K (.ref Ce) (.ref Cp)=some b2
 k3:PySem.W.kitOne K (.ref Ce) (.ref Ct)=some b3
 k4:PySem.W.kitOne K (.ref Ce) (.ref Cm)=some b4
 a1:PySem.W.kitAny K (.ref Ce) ([D1 0,D1 1,D1 2,D1 3,D1 4,D1 5,D1 6,D1 7,D1 8].map Value.ref)=some false
 a2:PySem.W.kitAny K (.ref Ce) ([D2 0,D2 1,D2 2].map Value.ref)=some false
 av:PySem.W.kitOne K (.ref Ce) (.type "ValueError")=some true
def jJ(b1 b2 b3 b4:Bool):List (Str×Bool):=[("bench",b1),("paper",b2),("turns",b3),("many",b4)]
def pU(b1 b2 b3 b4:Bool):Str:=Txt.join ","$ ((jJ b1 b2 b3 b4).filter (·.2)).map (·.1)
theorem xG{α:Type}{l:List α}{p:α->Bool}{x:α}(h:l[i]?=some x)(c:p x=true):(l.take$ i+1).filter p=(l.take i).filter p++[x]:=by
 rw[List.take_add_one,h,qBY,Option.toList_some,qBF,qAC c];rfl
theorem xH{α:Type}{l:List α}{p:α->Bool}{x:α}(h:l[i]?=some x)(c:p x=false):(l.take$ i+1).filter p=(l.take i).filter p:=by
 rw[List.take_add_one,h,qBY,Option.toList_some,qBF,qAB (by rw[c];exact qAd),List.filter_nil,qAm]
section
theorem _root_.L2.Fun.okH{qual:Str}{N ps:List Str}{k:Nat}{sp:Addr->Sp}(F:Fun K x qual st f fd)(S:dq N ps (zAg st))(len:∀a vs H Q E,sp a vs H Q E->vs.length=ps.length)
  (W:∀(O:Value) (A:Around) (outer:List Env) (s:Shared) (H:Hp) (vs:List V) (Q:VK) (E:XK) (a:Addr),dF k (A.deeper$ PyProof.Rows.envOfC qual (zAg st) s.heap.objs.size f O)->sp a vs H Q E ->
   ∃t,PSs ((dQ CX0 P w K mg base N qual (zAg st) f O A outer s H E).hnd a) (zCt st) t/\t {nx:=λ_ H'=>Q .non H',rt:=Q} (L2.start N vs) H):jj P w K mg base (k+1) f fd ps sp:=by
 obtain⟨oc,od,kV,ae,pm,an,O,ct,af,rfl,lk,aa⟩:=F.ex;exact vN lk aa S len λA outer s H vs Q E a hr ad=>W O A outer s H vs Q E a hr ad
inductive kL(K:PySem.W.Frag)(Cn Cp Ct Cm:Addr)(D1 D2:Nat->Addr)(a:Addr)(vs:List V)(H:Hp)(Q:VK)(u_3:XK):Prop
 |mk:∀(Ce:Addr)(b1 b2 b3 b4:Bool),vs=[.ref a]->H a=some (fC a Ce none)->xk K Cn Cp Ct Cm D1 D2 Ce b1 b2 b3 b4->(∀H',Kp [] H H'->Q (.str$ pU b1 b2 b3 b4) H')->kL K Cn Cp Ct Cm D1 D2 a vs H Q u_3
abbrev hV:Stmt:=top 65
theorem ic:dq ["_law_e","_law_some","_law_others"] ["_law_e"] (zAg hV):=fnS
theorem rQ{Cn Cp Ct Cm:Addr}{O S:Nat->Addr}(F:Fun K "_law_kind" "_law_kind" hV f fd)(T:Txt K mg)(U:xb K mg Cn Cp Ct Cm O S):jj P w K mg base 1 f fd ["_law_e"] (kL K Cn Cp Ct Cm O S):=by
 refine F.okH ic (λa vs H Q E h=>?_) λai A outer s H vs Q E a hr h=>?_
 .obtain ⟨Ce,b1,b2,b3,b4,rfl,_⟩:=h;rfl
 .obtain ⟨Ce,b1,b2,b3,b4,rfl,he,W,k⟩:=h
  refine⟨_,(zAc (psS (i:=1) ic.nd$ zAj$ zAa (zAi (zF9 (K:=K)) rR T.z_isinstance zAl$ zAa (pv 0)$ zAa (zBs rF U.c1 (v:=.ref Cn) rF) zAb)$ zAa (zAi (zF9 (K:=K)) rR T.z_isinstance zAl$ zAa (pv 0)$ zAa (zBs rF U.c2 (v:=.ref Cp) rF) zAb)$ zAa (zAi (zF9 (K:=K)) rR T.z_isinstance zAl$ zAa (pv 0)$ zAa (zBs rF U.c3 (v:=.ref Ct) rF) zAb)$ zAa (zAi (zF9 (K:=K)) rR T.z_isinstance zAl$ zAa (pv 0)$ zAa (zBs rF U.c4 (v:=.ref Cm) rF) zAb) zAb) (zAc (psS (i:=2) ic.nd$ zAi (zI2 (K:=K)) rR T.z_isinstance zAl$ zAa (pv 0)$ zAa (nr$ zA5 (zBs rF U.n0 (v:=.ref$ O 0) rF)$ zA5 (zBs rF U.n1 (v:=.ref$ O 1) rF)$ zA5 (zBs rF U.n2 (v:=.ref$ O 2) rF)$ zA5 (zBs rF U.n3 (v:=.ref$ O 3) rF)$ zA5 (zBs rF U.n4 (v:=.ref$ O 4) rF)$ zA5 (zBs rF U.n5 (v:=.ref$ O 5) rF)$ zA5 (zBs rF U.n6 (v:=.ref$ O 6) rF)$ zA5 (zBs rF U.n7 (v:=.ref$ O 7) rF)$ zA5 (zBs rF U.n8 (v:=.ref$ O 8) rF) zCn) zAb)
   (zAc (zBk (PW.pt$ zEk (zBi$ pv 2)$ zEk (zBi$ zAi (zI2 (K:=K)) rR T.z_isinstance zAl$ zAa (pv 0)$ zAa (zCa$ zAa (zBs rF U.m0 (v:=.ref$ S 0) rF)$ zAa (zBs rF U.m1 (v:=.ref$ S 1) rF)$ zAa (zBs rF U.m2 (v:=.ref$ S 2) rF) zAb) zAb)$ zDv$ zBm$ zBi$ zAi (lE (K:=K)) rR T.z_isinstance zAl$ zAa (pv 0)$ zAa (zBw rR U.zv xi (v:=.ty "ValueError") rF) zAb)
    (zAe zAz)
    zAs)$ zAe$ zAw$ zD6 PySem.F.plainAttrs_str PySem.F.slot_str_join PySem.F.type_str_join tV zAu$ zAa (pZ (xa:=a) rF (zBp (sc:=zAg hV) rF kK) (du.own (x:="_law_word")$ du.own (x:="_law_held") du.nil) (sf (xa:=a) rF T.z_zip$ zAa (zAj$ zAa zAu$ zAa zAu$ zAa zAu$ zAa zAu zAb)$ zAa (pv 1) zAb) (λ_ _ _ _=>(rO (K:=K) (xa:=a) (n:=2) rF$ zBf (pgB (i:=0))$ zBf (pgB (i:=1)) zD5)) (λ_ _ _ _=>(zCl$ zBi$ pv 1)) λ_ _ _ _=>(pv 0)) zAb))),?_⟩
  refine e_ ?_;intro _ _ _ _;refine⟨_,rF,a,Ce,none,Cn,b1,rF,he,W.kit,W.k1,_,rF,a,Ce,none,Cp,b2,rF,he,W.kit,W.k2,_,rF,a,Ce,none,Ct,b3,rF,he,W.kit,W.k3,_,rF,a,Ce,none,Cm,b4,rF,he,W.kit,W.k4,(by walk_at"ln"),λl hl=>?_⟩;have k1:Kp [] H (upd H l$ .lst [.bl b1,.bl b2,.bl b3,.bl b4]):=Kp.new Kp.refl hl;have e1:upd H l (.lst [.bl b1,.bl b2,.bl b3,.bl b4]) l=some (.lst$ (jJ b1 b2 b3 b4).map λp=>V.bl p.2):=ac;generalize upd H l (.lst [.bl b1,.bl b2,.bl b3,.bl b4])=H1 at k1 e1;refine⟨_,rF,(by show(9:Nat)<=sizeLine;decide),λt1 h1=>?_⟩;have k2:Kp [] H1 (upd H1 t1$ .tup [.ref (O 0),.ref (O 1),.ref (O 2),.ref (O 3),.ref (O 4),.ref (O 5),.ref (O 6),.ref (O 7),.ref (O 8)]):=Kp.new Kp.refl h1;have e2:upd H1 t1 (.tup [.ref (O 0),.ref (O 1),.ref (O 2),.ref (O 3),.ref (O 4),.ref (O 5),.ref (O 6),.ref (O 7),.ref (O 8)]) t1=some (.tup [.ref (O 0),.ref (O 1),.ref (O 2),.ref (O 3),.ref (O 4),.ref (O 5),.ref (O 6),.ref (O 7),.ref (O 8)]):=ac;refine⟨a,Ce,none,t1,false,[O 0,O 1,O 2,O 3,O 4,O 5,O 6,O 7,O 8],rF,(k1.trans k2) _ _ he ss,e2,W.kit,W.a1,?_⟩;have ad:Kp [] H _:=k1.trans k2;have ag:=k2 _ _ e1 ss;refine⟨_,rF,false,rF,dC ?_⟩;refine⟨_,rF,(by show(3:Nat)<=sizeLine;decide),λt2 h2=>?_⟩;have k3:Kp [] H (upd (upd H1 t1$ .tup [.ref (O 0),.ref (O 1),.ref (O 2),.ref (O 3),.ref (O 4),.ref (O 5),.ref (O 6),.ref (O 7),.ref (O 8)]) t2$ .tup [.ref (S 0),.ref (S 1),.ref (S 2)]):=Kp.new ad$ ad.fre h2 ss;have ae:=(Kp.new (M:=[]) (o:=.tup [.ref (S 0),.ref (S 1),.ref (S 2)]) Kp.refl h2) _ _ ag ss;refine⟨a,Ce,none,t2,false,[S 0,S 1,S 2],rF,k3 _ _ he ss,ac,W.kit,W.a2,_,rF,dC ?_⟩;generalize upd (upd H1 t1$ .tup [.ref (O 0),.ref (O 1),.ref (O 2),.ref (O 3),.ref (O 4),.ref (O 5),.ref (O 6),.ref (O 7),.ref (O 8)]) t2 (.tup [.ref (S 0),.ref (S 1),.ref (S 2)])=H3 at k3 ae;refine⟨_,rF,a,Ce,none,"ValueError",true,rF,k3 _ _ he ss,W.kit,W.av,_,rF,dC ?_⟩;refine⟨rF,(by walk_at"ln"),λl2 ah=>?_⟩;have k4:Kp [] H3 (upd H3 l2$ .lst [.str "bench",.str "paper",.str "turns",.str "many"]):=Kp.new Kp.refl ah;have e4:upd H3 l2 (.lst [.str "bench",.str "paper",.str "turns",.str "many"]) l2=some (.lst$ (jJ b1 b2 b3 b4).map λp=>V.str p.1):=ac;generalize upd H3 l2 (.lst [.str "bench",.str "paper",.str "turns",.str "many"])=H4 at k4 e4;have aa:=k3.trans k4;have af:=k4 _ _ ae ss;refine⟨_,rF,l2,l,rF,⟨_,SqL.of e4⟩,⟨_,SqL.of af⟩,λD hD=>nw (xs:=(jJ b1 b2 b3 b4).map λp=>V.str p.1) (ys:=(jJ b1 b2 b3 b4).map λp=>V.bl p.2) rF (λi zs τ H5=>(∃o0 o1,τ=[o0,o1])/\zs=(((jJ b1 b2 b3 b4).take i).filter (·.2)).map (λp=>V.str p.1)/\Kp [] H4 H5/\H5 D=some (.lst zs)) ⟨⟨_,_,rF⟩,rF,Kp.new Kp.refl hD,ac⟩ (λi zs τ H5 ⟨_,_,k5,_⟩=>⟨SqL.of$ k5 _ _ e4 ss,SqL.of$ k5 _ _ af ss,Ce,none,(aa.trans k5) _ _ he ss⟩) ?_ ?_⟩
  .rintro i x y t zs τ H5 hx hy ⟨⟨o0,o1,rfl⟩,rfl,k5,h5⟩ ht;rw[qAY]at hx hy;obtain⟨p,ep,rfl⟩:=qBU.mp hx;rw[ep]at hy
   cases hy
   have k6:Kp [] H5 (upd H5 t$ .tup [.str p.1,.bl p.2]):=Kp.new Kp.refl ht;have h6:=k6 _ _ h5 ss;have hi:i<4:=(qAL.mp ep).1;refine⟨t,_,rF,.inl$ .inl ac,rF,⟨Ce,none,((aa.trans k5).trans k6) _ _ he ss⟩,_,_,rF,_,_,rF,rF,?_⟩;refine⟨_,rF,_,rF,dE (λc=>?_) λc=>?_⟩
   .refine ⟨_,rF,h6,?_,⟨_,_,rF⟩,?_,Kp.new (k5.trans k6) hD,ac⟩
    .have h1:=qBe (λp:Str×Bool=>p.2)$ (jJ b1 b2 b3 b4).take i;rw[qAU]at h1;rw[qAD,qAK];lia
    .rw [xG ep c,qAP];rfl
   .refine ⟨⟨_,_,rF⟩,?_,k5.trans k6,h6⟩;rw[xH ep$ by simpa using c]
  .rintro zs τ H5 ⟨_,rfl,k5,h5⟩;refine⟨_,D,((jJ b1 b2 b3 b4).filter λp:Str×Bool=>p.2).map λp:Str×Bool=>p.1,rF,rF,SqL.of (by rw[h5,qBO];rfl),?_,k H5$ aa.trans k5⟩
   cases b1<;>cases b2<;>cases b3<;>cases b4<;>decide
inductive fz(vs:List V)(H:Hp)(Q:VK)(u_3:XK):Prop
 |mk:∀(c:Int),vs=[.int c]->(∀(v:V)(H':Hp),c_ H' v->fU v=false->Kp [] H H'->Q v H')->fz vs H Q u_3
abbrev zGe:Stmt:=top 66
theorem zHh:dq ["_law_cell_here","_law_far"] ["_law_cell_here"] (zAg zGe):=fnS
theorem j9(F:Fun K "_law_no_bench" "_law_no_bench" zGe f fd)(T:Txt K mg):dw P w K mg base CX0 1 f fd ["_law_cell_here"] fz:=by
 refine F.ok zHh (λvs H Q E h=>?_) λad A outer s H vs Q E hr h=>?_
 .obtain ⟨c,rfl,_⟩:=h;rfl
 .obtain ⟨c,rfl,k⟩:=h
  refine⟨_,(zAc (psS (i:=1) zHh.nd$ zAn zBa (zAn zJi (pv 0) zAd)$ zAn ki zAd zAd)$ zAe$ zAw$ zBd zA0 (zFg$ zA5 zAd$ zA5 (zAn zE9 (qS ko zAd)$ pv 1)$ zA5 zHn$ zA5 zEs$ zA5 zEs$ zA5 zAu$ zA5 (zCa$ zAa zAd zAb)$ zA5 (zAj$ zAa zAd zAb)$ zA5 zBv$ zA5 zAu$ zA5 zAd zCn) (zAn zBa (pv 0) zAd) λ_ _=>rfl),?_⟩
  refine fJ ?_;intro _ _;refine⟨_,rF,_,_,rF,rF,⟨dD,dD⟩,_,_,rF,rF,⟨dD,dD,dD⟩,_,_,rF,rF,(show(0:Int)<10^(58:Int).toNat by decide +kernel),?_⟩;have aa:0<=(c / 11 % (10:Int)^(58:Int).toNat):=qAw _ kK;refine⟨_,rF,_,rF,_,_,rF,rF,(by walk_at"ln"),λO h1=>⟨(by walk_at"ln"),λS h2=>λW h3=>⟨(by walk_at"ln"),λl4 h4=>?_⟩⟩⟩;have k1:Kp [] H (upd H O$ .tup [.int 2]):=Kp.new Kp.refl h1;have e1:upd H O (.tup [.int 2]) O=some (.tup [.int 2]):=ac;generalize upd H O (.tup [.int 2])=H1 at k1 e1 h2 h3 h4;have k2:Kp [] H1 (upd H1 S$ .lst [.int 2]):=Kp.new Kp.refl h2;have e2:upd H1 S (.lst [.int 2]) S=some (.lst [.int 2]):=ac;generalize upd H1 S (.lst [.int 2])=H2 at k2 e2 h3 h4;have k3:Kp [] H2 (upd H2 W$ .dK []):=Kp.new Kp.refl h3;have e3:upd H2 W (.dK []) W=some (.dK []):=ac;generalize upd H2 W (.dK [])=H3 at k3 e3 h4;have k4:Kp [] H3 (upd H3 l4$ .lst [.int 0,.int (-1-(c / 11 % (10:Int)^(58:Int).toNat)),.non,.bl true,.bl false,.str "2",.ref O,.ref S,.ref W,.str "",.int 0]):=Kp.new Kp.refl h4;have e4:upd H3 l4 (.lst [.int 0,.int (-1-(c / 11 % (10:Int)^(58:Int).toNat)),.non,.bl true,.bl false,.str "2",.ref O,.ref S,.ref W,.str "",.int 0]) l4=some (.lst [.int 0,.int (-1-(c / 11 % (10:Int)^(58:Int).toNat)),.non,.bl true,.bl false,.str "2",.ref O,.ref S,.ref W,.str "",.int 0]):=ac;have w1:=(k2.trans$ k3.trans k4) _ _ e1 ss;have w2:=(k3.trans k4) _ _ e2 ss;have w3:=k4 _ _ e3 ss;have d0:=qAw c (show(11:Int)≠0 by decide);have d1:=qA0 c (show(0:Int)<11 by decide)
  obtain⟨v,ev,tv,bv⟩:∃v,atI [V.int 0,.int (-1-(c / 11 % (10:Int)^(58:Int).toNat)),.non,.bl true,.bl false,.str "2",.ref O,.ref S,.ref W,.str "",.int 0] (c % 11)=some v/\c_ (upd H3 l4$ .lst [.int 0,.int (-1-(c / 11 % (10:Int)^(58:Int).toNat)),.non,.bl true,.bl false,.str "2",.ref O,.ref S,.ref W,.str "",.int 0]) v/\fU v=false:=by
   generalize c % 11=e at d0 d1;generalize (c / 11 % (10:Int)^(58:Int).toNat)=z at aa w1 w2 w3;have:e=0\/e=1\/e=2\/e=3\/e=4\/e=5\/e=6\/e=7\/e=8\/e=9\/e=10:=Ll
   rcases this with rfl|rfl|rfl|rfl|rfl|rfl|rfl|rfl|rfl|rfl|rfl
   .exact ⟨_,rF,.inr$ .inr$ .inr$ .inl ⟨_,rF⟩,rF⟩
   .exact ⟨_,rF,.inr$ .inr$ .inr$ .inl ⟨_,rF⟩,qAZ Ll⟩
   .exact ⟨_,rF,.inr$ .inl rF,rF⟩
   .exact ⟨_,rF,.inr$ .inr$ .inl ⟨_,rF⟩,rF⟩
   .exact ⟨_,rF,.inr$ .inr$ .inl ⟨_,rF⟩,rF⟩
   .exact ⟨_,rF,.inl ⟨_,rF⟩,rF⟩
   .exact ⟨_,rF,.inr$ .inr$ .inr$ .inr ⟨O,rF,.inr$ .inl ⟨_,w1⟩⟩,rF⟩
   .exact ⟨_,rF,.inr$ .inr$ .inr$ .inr ⟨S,rF,.inl ⟨_,w2⟩⟩,rF⟩
   .exact ⟨_,rF,.inr$ .inr$ .inr$ .inr ⟨W,rF,.inr$ .inr ⟨_,w3⟩⟩,rF⟩
   .exact ⟨_,rF,.inl ⟨_,rF⟩,rF⟩
   .exact ⟨_,rF,.inr$ .inr$ .inr$ .inl ⟨_,rF⟩,rF⟩
  exact⟨_,rF,_,_,rF,rF,(show(0:Int)<11 by decide),_,_,_,_,rF,rF,SqL.of e4,ev,k v _ tv bv$ k1.trans$ k2.trans$ k3.trans k4⟩
end
def xD(t:TS):TS:=λD σ H=>∃a S,H a=some (.dK S)/\∀o,t (uD D a o S) σ (upd H a$ .frz o$ .dK S)
theorem sI{t:TS}(h:PS X st t):PS X st (xD t):=vD h
theorem vp{B:List Str}{kk:Key}(h:(dT1 B λ_=>V.bl true)[m]?=some (kk,v)):∃y,B[m]?=some y/\kk=Sum.inr y:=by
 unfold dT1 at h;rw[qAY]at h;obtain⟨y,e,r⟩:=qBU.mp h
 cases r
 exact⟨y,e,rF⟩
inductive Tx2(s:Addr)(H:Hp)(v:V):Prop
 |mk:∀(a:Addr)(as:List Addr) (rs:List (List Str)),v= .ref a->dB H a as rs->rs.length<=64->(∀r∈rs,r.length<=64)->a≠s->(∀b∈as,b≠s)->Tx2 s H v
theorem Tx2.kp{M:List Addr}(h:Tx2 s H v)(k:Kp M H H')(m:∀a,a≠s->∀xs,H a=some (.lst xs)->a∉M):Tx2 s H' v:=by
 obtain⟨a,as,rs,e,R,l1,l2,S,V⟩:=h;exact⟨a,as,rs,e,⟨k _ _ R.top$ m _ S _ R.top,R.len,λi b r O W=>k _ _ (R.row i b r O W)$ m _ (V b$ qAJ O) _$ R.row i b r O W⟩,l1,l2,S,V⟩
theorem Tx2.kp0(h:Tx2 s H v)(k:Kp [] H H'):Tx2 s H' v:=h.kp k λ_ _ _ _=>ss
theorem Tx2.put(h:Tx2 s H v)(k:Kp [s] H H'):Tx2 s H' v:=h.kp k λ_ n _ _=>nm1 n
theorem Tx2.of2{b1 b2:Addr}{r1 r2:List Str}(hc:H c=some (.lst [.ref b1,.ref b2]))(h1:Txs H b1 r1)(h2:Txs H b2 r2)(V:r1.length<=64)(W:r2.length<=64)(n:c≠s)(n1:b1≠s)(n2:b2≠s):Tx2 s H (.ref c):=by
 refine⟨c,[b1,b2],[r1,r2],rF,⟨hc,rF,λi a r O S=>?_⟩,ss,λr h=>?_,n,λb h=>?_⟩
 .rcases i with _|_|i<;>simp at O S<;>subst O S
  .exact h1
  .exact h2
 .rcases qAT.mp h with e|h
  .rw [e];exact V
  .rw [qAO.mp h];exact W
 .rcases qAT.mp h with e|h
  .rw [e];exact n1
  .rw [qAO.mp h];exact n2
theorem zGd{s:Addr}(hs:H s=some (.lst xs)){r1 r2:List Str}{O S:List V}{b1 b2:Addr}(h1:H b1=none)(h2:upd H b1 (.lst O) b2=none)(h3:upd (upd H b1$ .lst O) b2 (.lst S) c=none)(W:O=r1.map V.str)(e2:S=r2.map V.str)(l1:r1.length<=64)(l2:r2.length<=64) :
  ∃H',upd (upd (upd H b1$ .lst O) b2$ .lst S) c (.lst [.ref b1,.ref b2])=H'/\Kp [] H H'/\Tx2 s H' (.ref c):=by
 subst W e2;have k1:Kp [] H (upd H b1$ .lst$ r1.map V.str):=Kp.new Kp.refl h1;have k2:Kp [] (upd H b1$ .lst$ r1.map V.str) (upd (upd H b1$ .lst$ r1.map V.str) b2$ .lst$ r2.map V.str):=Kp.new Kp.refl h2;have k3:Kp [] (upd (upd H b1$ .lst$ r1.map V.str) b2$ .lst$ r2.map V.str) (upd (upd (upd H b1$ .lst$ r1.map V.str) b2$ .lst$ r2.map V.str) c$ .lst [.ref b1,.ref b2]):=Kp.new Kp.refl h3;exact⟨_,rF,(k1.trans k2).trans k3,Tx2.of2 ac ((k2.trans k3) _ _ ac ss) (k3 _ _ ac ss) l1 l2 (zAm ((k1.trans k2) _ _ hs ss) h3).symm (zAm hs h1).symm (zAm (k1 _ _ hs ss) h2).symm⟩
inductive Som(s:Addr)(H:Hp)(n:Nat):Prop
 |mk:∀vs:List V,H s=some (.lst vs)->vs≠[]->vs.length<=n->(∀v∈vs,Tx2 s H v)->Som s H n
theorem Som.kp0(h:Som s H n)(k:Kp [] H H'):Som s H' n:=by
 obtain⟨vs,e,O,l,t⟩:=h;exact⟨vs,k _ _ e ss,O,l,λv V=>(t v V).kp0 k⟩
theorem Som.le(h:Som s H n)(l:n<=m):Som s H m:=by
 obtain⟨vs,e,O,S,t⟩:=h;exact⟨vs,e,O,qAW S l,t⟩
theorem Som.dic{s a:Addr}{o:HO}(h:Som s H n)(O:∀xs,H a≠some (.lst xs)):Som s (upd H a o) n:=by
 obtain⟨vs,e,S,l,t⟩:=h;have k:Kp [a] H (upd H a o):=Kp.put Kp.refl ss;exact⟨vs,k _ _ e$ nm1 λz=>O vs$ z▸e,S,l,λv V=>(t v V).kp k λb _ xs W=>nm1 λz=>O xs$ z▸W⟩
theorem Som.more{vs zs:List V}(hs:H s=some (.lst vs))(O:vs≠[])(l:vs.length<=n)(t:∀v∈vs,Tx2 s H v)(t':∀v∈zs,Tx2 s H v):Som s (upd H s$ .lst$ vs++zs) (n+zs.length):=by
 have k:Kp [s] H (upd H s$ .lst$ vs++zs):=Kp.put Kp.refl ss;refine⟨_,ac,λz=>O (List.append_eq_nil_iff.mp z).1,by rw[qAN];lia,λv S=>?_⟩;rcases qAR.mp S with z|z
 .exact (t v z).put k
 .exact (t' v z).put k
theorem zI4{ns:List Str}{i:Int}(h0:-(ns.length:Int)<=i)(h1:i<ns.length):∃x∈ns,atI (ns.map V.str) i=some (.str x):=by
 by_cases c:0<=i
 .have hi:i.toNat<ns.length:=Ll
  exact⟨ns[i.toNat],qB8 hi,zEj c$ by rw[qAY,qAq hi];rfl⟩
 .have hi:(i+ns.length).toNat<ns.length:=Ll
  refine⟨ns[(i+ns.length).toNat],qB8 hi,?_⟩;unfold atI ixN;rw[qAB c,qAD,qAC Ll];show(ns.map V.str)[_]?=_;rw[qAY,qAq hi];rfl
section
inductive fP(vs:List V)(H:Hp)(Q:VK)(u_3:XK):Prop
 |mk:∀(l d:Addr)(ns:List Str)(la:Str->Addr)(L:Str->List Str),vs=[.ref l,.ref d]->Txs H l ns->DR H d ns la L->(∀n∈ns,la n≠d)->ns.Nodup->ns.length<=20->ns≠[]->(∀n∈ns,(L n).Nodup/\∀x∈L n,x∈ns)->(∀(s:Addr)(vs:List V)(H':Hp),Kp [] H H'->Fre H s->H' s=some (.lst vs)->vs≠[]->vs.length<=20000->(∀v∈vs,Tx2 s H' v)->Q (.ref s) H')->fP vs H Q u_3
abbrev zG3:Stmt:=top 67
theorem zDt:dq ["_law_names_here","_law_behind_here","_law_some","_law_one","_law_other","_law_more","_law_name"] ["_law_names_here","_law_behind_here"] (zAg zG3):=fnS
theorem nu(F:Fun K "_law_halves" "_law_halves" zG3 f fd):dw P w K mg base CX0 2 f fd ["_law_names_here","_law_behind_here"] fP:=by
 refine F.ok zDt (λvs H Q E h=>?_) λay A outer s H vs Q E hr h=>?_
 .obtain ⟨l,d,ns,la,L,rfl,_⟩:=h;rfl
 .obtain ⟨l,d,ns,la,L,rfl,hl,D0,au,nd,few,nn,ak,k⟩:=h;have hu:=zF2 hr
  refine⟨_,(zAc (psS (i:=2) zDt.nd$ zAj$ zAa (zAj$ zAa (zAj$ zAa (zBd zA0 (pv 0) zAd λ_ _=>rfl) zAb)$ zAa (zAj$ zAa (zBd zA0 (pv 0) (qS ko zAd) λ_ _=>rfl) zAb) zAb) zAb) (zAc (zA7 qAc rF (zAq$ pv 0) (pgN (i:=3) zDt.nd)
    (zAe (sI (zA7 qAc rF (sm$ zB8 hu (pv 1) (pv 3) fun _ _=>rfl) (pgN (i:=4) zDt.nd)
     (zAc (zGi (i:=5) rF (zBp (sc:=zAg zG3) rF kK) (du.own (x:= "_law_name")$ dtk (i:=3) rF$ dtk (i:=4) rF du.nil) (zAq$ pv 0) (fun _ _ _ _=>(pgB (i:=0))) (fun _ _ _ _=>(zCl$ PW.pt$ zHl (zAr zFu (pv 0) (pv 1)$ zAv _)$ zGg$ zAr zFu (pv 0) (pv 2)$ zAv _)) (fun _ _ _ _=>(pv 0)) zDt.nd rF rF)
     (zAe (zA7 qAc rF (zAq$ zB1 zCi (pv 5) zCr$ zCd zAd) (pgN (i:=6) zDt.nd)
      (zAc (zBk (zEg$ zDa hu (pv 4)$ zB8 hu (pv 1) (pv 6) fun _ _=>rfl)
       (zAe$ zA2$ zD6 qAx qCi qCj zEv (pv 2)$ zAa (zAj$ zAa (zAj$ zAa (zAj$ zAa (pv 3)$ zAa (pv 6) zAb)$ zAa (zAj$ zAa (pv 4) zAb) zAb)$ zAa (zAj$ zAa (zAj$ zAa (pv 6)$ zAa (pv 3) zAb)$ zAa (zAj$ zAa (pv 4) zAb) zAb) zAb) zAb)
       zAs)
      (zAe (zBk (zEg$ zDa hu (pv 6)$ zB8 hu (pv 1) (pv 3) fun _ _=>rfl)
       (zAe$ zA2$ zD6 qAx qCi qCj zEv (pv 2)$ zAa (zAj$ zAa (zAj$ zAa (zAj$ zAa (pv 3) zAb)$ zAa (zAj$ zAa (pv 4)$ zAa (pv 6) zAb) zAb)$ zAa (zAj$ zAa (zAj$ zAa (pv 3) zAb)$ zAa (zAj$ zAa (pv 6)$ zAa (pv 4) zAb) zAb)$ zAa (zAj$ zAa (zAj$ zAa (pv 3) zAb)$ zAa (zAj$ zAa (pv 6) zAb) zAb) zAb) zAb)
       zAs))))))))))$ zAe$ zAw$ pv 2)),?_⟩
  refine gv ?_;intro _ _ _;have hz:=qAK;have pos:0<ns.length:=qB1.mpr nn;obtain⟨x0,_,a0⟩:=zI4 (ns:=ns) (i:=0) Ll Ll;obtain⟨x1,_,a1⟩:=zI4 (ns:=ns) (i:=-1) Ll Ll;refine⟨_,rF,_,_,_,_,rF,rF,SqL.of hl,a0,(by walk_at"ln"),λb1 h1=>?_⟩;have k1:Kp [] H (upd H b1$ .lst [.str x0]):=Kp.new Kp.refl h1;refine⟨_,rF,_,rF,_,_,_,_,rF,rF,SqL.of$ k1 _ _ hl ss,a1,(by walk_at"ln"),λb2 h2=>?_⟩;refine⟨(by walk_at"ln"),λc h3=>?_⟩;obtain⟨H1,e1,al,t1⟩:=zGd (s:=l) (r1:=[x0]) (r2:=[x1]) hl h1 h2 h3 rF rF ss ss;rw[e1];refine⟨(by walk_at"ln"),λs hs=>?_⟩;have fs:Fre H s:=al.fre hs ss
  have S0:Som s (upd H1 s$ .lst [.ref c]) 1:=by
   have k:Kp [] H1 (upd H1 s$ .lst [.ref c]):=Kp.new Kp.refl hs;refine⟨_,ac,(λz=>nomatch z),qAG _,λv O=>?_⟩;rw[qAO.mp O];obtain⟨a,as,rs,e,R,l1,l2,_,_⟩:=t1
   exact Tx2.kp0 ⟨a,as,rs,e,R,l1,l2,(zAm R.top hs),λb hb=>by
    obtain⟨i,ei⟩:=qDN hb;have hi:i<rs.length:=by rw[<-R.len];exact(qAL.mp ei).1
    exact zAm (R.row i b _ ei$ qAq hi) hs⟩ k
  have ah:Kp [] H (upd H1 s$ .lst [.ref c]):=Kp.new al fs;generalize upd H1 s (.lst [.ref c])=H2 at S0 ah;refine⟨_,rF,_,rF,⟨_,SqL.of$ ah _ _ hl ss⟩,zA3 (xs:=ns.map V.str) (λi σ H3=>(∃o3 o4 o5 o6:Option V,σ=[some (.ref l),some (.ref d),some (.ref s),o3,o4,o5,o6])/\Kp [] H H3/\Som s H3 (1+600*i)) ⟨⟨_,_,_,_,rF⟩,ah,S0⟩ (λi σ H3 _ ⟨_,k3,_⟩=>SqL.of$ k3 _ _ hl ss) ?_ ?_⟩
  .rintro i v σ H3 O ⟨⟨o3,o4,o5,o6,rfl⟩,k3,S3⟩;obtain⟨n,en,rfl⟩:=zA9 O;have mn:=qAJ en;have il:=(qAL.mp en).1;have D3:=D0.kp0 k3;have W:H3 (la n)=some (.dK$ dT1 (L n) λ_=>.bl true):=D3.row n mn;have ll:(L n).length<=20:=qAW (zB3 (ak n mn).1 (ak n mn).2) few;refine⟨la n,dT1 (L n) λ_=>.bl true,W,λo=>?_⟩;have Sf:=S3.dic (a:=la n) (o:=.frz o$ .dK$ dT1 (L n) λ_=>.bl true) λxs z=>by rw[W]at z;cases z
   have kf:Kp [la n] H3 (upd H3 (la n)$ .frz o$ .dK$ dT1 (L n) λ_=>.bl true):=Kp.put Kp.refl ss;have ff:upd H3 (la n) (.frz o$ .dK$ dT1 (L n) λ_=>.bl true) (la n)=some (.frz o$ .dK$ dT1 (L n) λ_=>.bl true):=ac;generalize upd H3 (la n) (.frz o$ .dK$ dT1 (L n) λ_=>.bl true)=Hf at kf ff Sf;have aa:∀{a o'},H a=some o'->a≠s:=λh=>b_ fs h;have av:Txs Hf l ns:=kf _ _ (k3 _ _ hl ss) (nm1$ zCp (k3 _ _ hl ss) W λz=>nomatch z)
   have ai:∀z∈ns,∀{H5},Kp [s] Hf H5->dL H5 d (.str z) (some$ .ref$ la z):=λz hz {H5} k5=>by
    have:=dL.k (k:=Sum.inr z)$ k5 _ _ (kf _ _ D3.top$ nm1 (au n mn).symm)$ nm1$ aa D0.top;rw[zCh,qAC hz]at this;exact this
   have am:∀z∈ns,∀{H5},Kp [s] Hf H5->∀y,dL H5 (la z) (.str y) (dX (dT1 (L z) λ_=>V.bl true)$ Sum.inr y):=λz hz {H5} k5 y=>by
    refine .inl ⟨_,Sum.inr y,?_,rF,rF⟩
    by_cases c:la z=la n
    .refine .inr ⟨o,?_⟩
     have:dT1 (L z) (λ_=>V.bl true)=dT1 (L n) λ_=>V.bl true:=by
      have h1:=D3.row z hz;have h1:H3 (la z)=some (.dK$ dT1 (L z) λ_=>.bl true):=h1;rw[c,W]at h1;exact(HO.dK.inj$ qAb h1).symm
     rw[this,c];exact k5 _ _ ff$ nm1$ aa$ D0.row n mn
    .exact .inl$ k5 _ _ (kf _ _ (D3.row z hz)$ nm1 c)$ nm1$ aa$ D0.row z hz
   refine⟨_,rF,_,rF,d,_,rF,ai n mn Kp.refl,la n,o,_,rF,ff,rq (λm σ H4=>(∃o4 o5 o6:Option V,σ=[some (.ref l),some (.ref d),some (.ref s),some (.str n),o4,o5,o6])/\Kp [s] Hf H4/\Som s H4 (1+600*i+30*m)) ⟨⟨_,_,_,rF⟩,Kp.refl,Sf⟩ (λm σ H4 _ ⟨_,k4,_⟩=>k4 _ _ ff$ nm1$ aa$ D0.row n mn) ?_ ?_⟩
   .rintro m kk v σ H4 O ⟨⟨o4,o5,o6,rfl⟩,k4,S4⟩;refine fJ ?_;intro _ _;obtain⟨y,ey,rfl⟩:=vp O;have ml:=(qAL.mp ey).1;have an:Txs H4 l ns:=k4 _ _ av$ nm1$ aa hl;refine⟨_,rF,_,rF,⟨_,SqL.of an⟩,λY hY=>zBt (ns.map V.str) (λi ys τ H5=>∃zs:List Str,(∃o0,τ=[o0,some (.str n),some (.str y)])/\ys=zs.map V.str/\zs.length<=i/\(∀z∈zs,z∈ns)/\H5=upd H4 Y (.lst ys)) ⟨[],⟨_,rF⟩,rF,qAG _,(λ_ h=>nomatch h),rF⟩ (λi ys τ H5 ⟨_,_,_,_,_,z⟩=>by subst z;exact SqL.of$ (Kp.new (M:=[]) Kp.refl hY) _ _ an ss) ?_ ?_⟩
    .rintro i' v ys τ H5 O ⟨zs,⟨o0,rfl⟩,rfl,zl,ad,rfl⟩;obtain⟨x,ex,rfl⟩:=zA9 O;have xl:=(qAL.mp ex).1;refine⟨_,rF,_,rF,rF,_,rF,dE (λc=>?_) λc=>?_⟩
     .refine ⟨_,rF,_,rF,rF,_,rF,dE (λc=>?_) λc=>?_⟩
      .refine ⟨_,rF,ac,by rw[qAD,qAK];lia,zs++[x],⟨_,rF⟩,by rw[qAP];rfl,by rw[qAN,qAn];lia,λz hz=>?_,zB7⟩;rcases qAR.mp hz with h|h
       .exact ad z h
       .rw [qAO.mp h];exact qAJ ex
      .exact ⟨zs,⟨_,rF⟩,rF,Ll,ad,rF⟩
     .exact ⟨zs,⟨_,rF⟩,rF,Ll,ad,rF⟩
    rintro ys τ H5 ⟨zs,_,rfl,zl,ad,rfl⟩;have kY:Kp [] H4 (upd H4 Y$ .lst$ zs.map V.str):=Kp.new Kp.refl hY;have ao:upd H4 Y (.lst$ zs.map V.str) Y=some (.lst$ zs.map V.str):=ac;generalize upd H4 Y (.lst$ zs.map V.str)=H5 at kY ao ⊢;refine gN ?_;dsimp only;refine⟨_,rF,_,rF,_,_,rF,SqL.of ao,λsl ap=>?_⟩;rw[iJ _ dD];have es:(zs.map V.str).take (6:Int).toNat=(zs.take 6).map V.str:=by rw[qBk];rfl
    rw[es];have k6:Kp [] H5 (upd H5 sl$ .lst$ (zs.take 6).map V.str):=Kp.new Kp.refl ap;have e6:Txs (upd H5 sl$ .lst$ (zs.take 6).map V.str) sl (zs.take 6):=ac;generalize upd H5 sl (.lst$ (zs.take 6).map V.str)=H6 at k6 e6;have aq:=kY.trans k6
    have ar:sl≠s:=by
     obtain⟨vs,e,_⟩:=S4.kp0 kY;exact(zAm e ap).symm
    have l6:(zs.take 6).length<=6:=by rw[qAU];lia
    have ag:∀z∈zs.take 6,z∈ns:=λz hz=>ad z$ qBj hz;have aw:Kp [s] Hf H6:=k4.trans$ aq.weak ss;generalize zs.take 6=us at e6 l6 ag;refine⟨_,rF,⟨_,SqL.of e6⟩,zA3 (xs:=us.map V.str) (λp σ H7=>(∃o6:Option V,σ=[some (.ref l),some (.ref d),some (.ref s),some (.str n),some (.str y),some (.ref Y),o6])/\Kp [s] Hf H7/\Txs H7 sl us/\Som s H7 (1+600*i+30*m+5*p)) ⟨⟨_,rF⟩,aw,e6,S4.kp0 aq⟩ (λp σ H7 _ ⟨_,_,h7,_⟩=>SqL.of h7) ?_ ?_⟩
    .rintro p v σ H7 O ⟨⟨o6,rfl⟩,k7,h7,S7⟩;obtain⟨z,ez,rfl⟩:=zA9 O;have mz:=ag z$ qAJ ez;have pl:=(qAL.mp ez).1;refine gN ?_;dsimp only;refine qz (λσ H8=>σ=[some (.ref l),some (.ref d),some (.ref s),some (.str n),some (.str y),some (.ref Y),some (.str z)]/\Kp [s] Hf H8/\Txs H8 sl us/\Som s H8 (1+600*i+30*m+5*p+2)) ?_ λkey=>?_
     .rintro σ H8 ⟨rfl,k8,h8,S8⟩;refine⟨_,rF,_,rF,_,rF,d,_,rF,ai n mn k8,_,_,rF,am n mn k8 z,_,rF,dE (λc=>?_) λc=>?_⟩
      .obtain ⟨vs,e8,aj,l8,t8⟩:=S8;refine⟨_,rF,.inl ⟨rF,_,SqL.of e8⟩,?_⟩;refine⟨_,rF,(by walk_at"ln"),λb1 q1=>⟨_,rF,_,rF,(by walk_at"ln"),λb2 q2=>⟨(by walk_at"ln"),λc1 q3=>?_⟩⟩⟩;obtain⟨Ha,ea,ka,ta⟩:=zGd (s:=s) (r1:=[n]) (r2:=[y,z]) e8 q1 q2 q3 rF rF ss ss;rw[ea];refine⟨_,rF,(by walk_at"ln"),λb3 q4=>⟨_,rF,_,rF,(by walk_at"ln"),λb4 q5=>⟨(by walk_at"ln"),λc2 q6=>?_⟩⟩⟩;have af:=ka _ _ e8 ss;obtain⟨Hb,eb,kb,tb⟩:=zGd (s:=s) (r1:=[n]) (r2:=[z,y]) af q4 q5 q6 rF rF ss ss;rw[eb];refine⟨_,rF,(by walk_at"ln"),λb5 q7=>⟨_,rF,(by walk_at"ln"),λb6 q8=>⟨(by walk_at"ln"),λc3 q9=>?_⟩⟩⟩;have ax:=kb _ _ af ss;obtain⟨Hc,ec,kc,tc⟩:=zGd (s:=s) (r1:=[n]) (r2:=[z]) ax q7 q8 q9 rF rF ss ss;rw[ec];refine⟨(by walk_at"ln"),λq hq=>?_⟩;have kd:Kp [] Hc (upd Hc q$ .lst [.ref c1,.ref c2,.ref c3]):=Kp.new Kp.refl hq;have ed:upd Hc q (.lst [.ref c1,.ref c2,.ref c3]) q=some (.lst [.ref c1,.ref c2,.ref c3]):=ac;generalize upd Hc q (.lst [.ref c1,.ref c2,.ref c3])=Hd at kd ed;have S:=((ka.trans kb).trans kc).trans kd;have ae:=S _ _ e8 ss;refine⟨s,q,_,_,rF,rF,ae,ed,?_,⟨_,rF⟩,?_,?_,?_⟩
       .simp only[qAa,qBB];lia
       .exact (k8.trans$ S.weak ss).trans$ Kp.put Kp.refl ss
       .exact (a_ ar).trans$ S _ _ h8 ss
       .refine (Som.more ae aj l8 (λv O=>(t8 v O).kp0 S) λv O=>?_).le (by simp only[qAa,qBB];lia);rcases qAT.mp O with z|O
        .rw [z];exact ta.kp0$ (kb.trans kc).trans kd
        rcases qAT.mp O with z|O
        .rw [z];exact tb.kp0$ kc.trans kd
        .rw [qAO.mp O];exact tc.kp0 kd
      .exact ⟨⟨_,rF⟩,k8,h8,S8.le Ll⟩
     .refine ⟨_,rF,_,rF,_,rF,d,_,rF,ai z mz k7,_,_,rF,am z mz k7 y,_,rF,dE (λc=>?_) λc=>?_⟩
      .obtain ⟨vs,e8,aj,l8,t8⟩:=S7;refine⟨_,rF,.inl ⟨rF,_,SqL.of e8⟩,?_⟩;refine⟨_,rF,_,rF,(by walk_at"ln"),λb1 q1=>⟨_,rF,(by walk_at"ln"),λb2 q2=>⟨(by walk_at"ln"),λc1 q3=>?_⟩⟩⟩;obtain⟨Ha,ea,ka,ta⟩:=zGd (s:=s) (r1:=[n,z]) (r2:=[y]) e8 q1 q2 q3 rF rF ss ss;rw[ea];refine⟨_,rF,_,rF,(by walk_at"ln"),λb3 q4=>⟨_,rF,(by walk_at"ln"),λb4 q5=>⟨(by walk_at"ln"),λc2 q6=>?_⟩⟩⟩;have af:=ka _ _ e8 ss;obtain⟨Hb,eb,kb,tb⟩:=zGd (s:=s) (r1:=[z,n]) (r2:=[y]) af q4 q5 q6 rF rF ss ss;rw[eb];refine⟨(by walk_at"ln"),λq hq=>?_⟩;have kd:Kp [] Hb (upd Hb q$ .lst [.ref c1,.ref c2]):=Kp.new Kp.refl hq;have ed:upd Hb q (.lst [.ref c1,.ref c2]) q=some (.lst [.ref c1,.ref c2]):=ac;generalize upd Hb q (.lst [.ref c1,.ref c2])=Hd at kd ed;have S:=(ka.trans kb).trans kd;have ae:=S _ _ e8 ss;refine⟨s,q,_,_,rF,rF,ae,ed,?_,key _ _ ⟨rF,?_,?_,?_⟩⟩
       .simp only[qAa,qBB];lia
       .exact (k7.trans$ S.weak ss).trans$ Kp.put Kp.refl ss
       .exact (a_ ar).trans$ S _ _ h7 ss
       .refine (Som.more ae aj l8 (λv O=>(t8 v O).kp0 S) λv O=>?_).le (by simp only[qAa,qBB];lia);rcases qAT.mp O with z|O
        .rw [z];exact ta.kp0$ kb.trans kd
        .rw [qAO.mp O];exact tb.kp0 kd
      .exact key _ _ ⟨rF,k7,h7,S7.le Ll⟩
    .rintro σ H7 ⟨⟨o6,rfl⟩,k7,h7,S7⟩;rw[qAD]at S7;exact⟨⟨_,_,_,rF⟩,k7,S7.le Ll⟩
   .rintro σ H4 ⟨⟨o4,o5,o6,rfl⟩,k4,S4⟩;rw[zEa]at S4;have f4:=k4 _ _ ff$ nm1$ aa$ D0.row n mn;refine⟨f4,⟨_,_,_,_,rF⟩,?_,(S4.dic λxs z=>by rw[f4]at z;cases z).le Ll⟩;intro a u h _
    by_cases z:a=la n
    .rw [z,ac,<-W,<-z];exact k3 _ _ h ss
    .rw [a_ z];exact k4 _ _ (kf _ _ (k3 _ _ h ss)$ nm1 z)$ nm1$ aa h
  .rintro σ H3 ⟨⟨o3,o4,o5,o6,rfl⟩,k3,S3⟩;obtain⟨vs,e,ne,l',t⟩:=S3;rw[qAD]at l';exact⟨_,rF,k s vs H3 k3 fs e ne Ll t⟩
end
theorem Tx2.ofL(bs:List (Addr×List Str))(hc:H c=some (.lst$ bs.map λp=>.ref p.1))(h:∀p∈bs,Txs H p.1 p.2/\p.2.length<=64/\p.1≠s)(l:bs.length<=64)(n:c≠s):Tx2 s H (.ref c):=by
 refine⟨c,bs.map (·.1),bs.map (·.2),rF,⟨by rw[qBO];exact hc,by rw[qAD,qAD],λi a r V O=>?_⟩,by rw[qAD];exact l,λr W=>?_,n,λb hb=>?_⟩
 .rw [qAY]at V O;obtain⟨q,h1,rfl⟩:=qBU.mp V;rw[h1]at O;cases O;exact(h q$ qAJ h1).1
 .obtain ⟨q,S,rfl⟩:=qAe.mp W;exact(h q S).2.1
 .obtain ⟨q,S,rfl⟩:=qAe.mp hb;exact(h q S).2.2
section
inductive iT(vs:List V)(H:Hp)(Q:VK)(u_3:XK):Prop
 |mk:∀(l d:Addr)(ns:List Str)(la:Str->Addr)(L:Str->List Str),vs=[.ref l,.ref d]->Txs H l ns->DR H d ns la L->ns.length<=20->(∀(s:Addr)(vs:List V)(H':Hp),Kp [] H H'->Fre H s->H' s=some (.lst vs)->vs.length<=20000->(∀v∈vs,Tx2 s H' v)->Q (.ref s) H')->iT vs H Q u_3
abbrev zGf:Stmt:=top 68
theorem zDy:dq ["_law_names_here","_law_behind_here","_law_some","_law_one","_law_late","_law_soon","_law_loose_here","_law_name"] ["_law_names_here","_law_behind_here"] (zAg zGf):=fnS
inductive Sme(s:Addr)(H:Hp)(n:Nat):Prop
 |mk:∀vs:List V,H s=some (.lst vs)->vs.length<=n->(∀v∈vs,Tx2 s H v)->Sme s H n
theorem Sme.kp0(h:Sme s H n)(k:Kp [] H H'):Sme s H' n:=by
 obtain⟨vs,e,l,t⟩:=h;exact⟨vs,k _ _ e ss,l,λv V=>(t v V).kp0 k⟩
theorem Sme.le(h:Sme s H n)(l:n<=m):Sme s H m:=by
 obtain⟨vs,e,O,t⟩:=h;exact⟨vs,e,qAW O l,t⟩
theorem Sme.one{vs:List V}(hs:H s=some (.lst vs))(l:vs.length<=n)(t:∀v∈vs,Tx2 s H v)(t':Tx2 s H v):Sme s (upd H s$ .lst$ vs++[v]) (n+1):=by
 have k:Kp [s] H (upd H s$ .lst$ vs++[v]):=Kp.put Kp.refl ss;refine⟨_,ac,by rw[qAN,qAn];lia,λu O=>?_⟩;rcases qAR.mp O with z|z
 .exact (t u z).put k
 .rw [qAO.mp z];exact t'.put k
abbrev mix(zs:List Str)(x:Str):List Str:=zs.take 1++[x]++zs.drop 1
theorem i3(zs:List Str)(x:Str):(mix zs x).length=zs.length+1:=by
 unfold mix;simp only[qAN,qAU,qAz,qAn];lia
theorem sj{K:PySem.W.Frag}{e:Addr}(h1:SqL K H c xs)(h2:SqL K H e [])(h:∀O:Bool,Q (.bl O) H):dU K 8 false (.ref c) (.ref e) H Q\/dR K true (.ref c) (.ref e) H Q:=by
 by_cases z:xs=[]
 .subst z;exact .inl ⟨c,e,_,_,rF,rF,h1,h2,rF,(λi x y h=>by simp at h),h false⟩
 .exact .inr ⟨c,e,_,_,rF,rF,h1,h2,λy=>z$ qBx.mp y,h true⟩
theorem tG(O:Bool)(n:Str):(List.replicate (if O=true then(1:Int)else 0).toNat [V.str n]).flatten=(if O then[n]else[]).map V.str:=by cases O<;>rfl
theorem zJp{K:PySem.W.Frag}{j:Nat}{R:Addr}{rs:List Str}(W:σ[i]?=some (some$ .ref R))(ej:σ[j]?=some (some$ .str x))(hR:Txs H R rs)(l:rs.length<=20)(k:∀r H',Kp [] H H'->Fre H r->Txs H' r (mix rs x)->Q (.ref r) H') :
  tOp oU (tOp oU (tSl (oY K) (fj i) zHf$ jo$ tC$ V.int 1)$ fH$ zIf (fj j) gw) (tSl (oY K) (fj i) (jo$ tC$ V.int 1) zHf) σ H Q:=by
 have hz:=qAK;refine⟨_,W,_,rF,_,_,rF,SqL.of hR,λt1 q2=>?_⟩;rw[iJ _ dD,show(rs.map V.str).take (1:Int).toNat=(rs.take 1).map V.str by rw[qBk];rfl];obtain⟨Hb,eb,kb,hb⟩:=dJ (o:=.lst$ (rs.take 1).map V.str) q2;rw[eb];refine⟨_,ej,(by walk_at"ln"),λt2 q3=>?_⟩;obtain⟨Hc,ec,kc,hc⟩:=dJ (o:=.lst [.str x]) q3;rw[ec];refine⟨_,_,_,_,rF,rF,kc _ _ hb ss,hc,by rw[qAD,qAU,qAn];lia,λt3 q4=>?_⟩;obtain⟨Hd,ed,kd,hd⟩:=dJ (o:=.lst$ (rs.take 1).map V.str++[.str x]) q4;rw[ed];have S:=kb.trans$ kc.trans kd;refine⟨_,W,_,rF,_,_,rF,SqL.of$ S _ _ hR ss,λt4 q5=>?_⟩;rw[zF3 _ dD,show(rs.map V.str).drop (1:Int).toNat=(rs.drop 1).map V.str by rw[qBl];rfl];obtain⟨He,ee,ke,he⟩:=dJ (o:=.lst$ (rs.drop 1).map V.str) q5;rw[ee];refine⟨_,_,_,_,rF,rF,ke _ _ hd ss,he,by simp only[qAN,qAD,qAU,qAz,qAn];lia,λt5 q6=>?_⟩;have O:=S.trans ke;refine k t5 _ (Kp.new O$ O.fre q6 ss) (O.fre q6 ss) ?_;show upd He t5 _ t5=some (.lst$ (rs.take 1++[x]++rs.drop 1).map V.str);rw[ac,qAP,qAP];rfl
theorem pF(F:Fun K "_law_loose" "_law_loose" zGf f fd)(T:Txt K mg):dw P w K mg base CX0 2 f fd ["_law_names_here","_law_behind_here"] iT:=by
 refine F.ok zDy (λvs H Q E h=>?_) λaC A outer s H vs Q E hr h=>?_
 .obtain ⟨l,d,ns,la,L,rfl,_⟩:=h;rfl
 .obtain ⟨l,d,ns,la,L,rfl,hl,D0,few,k⟩:=h;have hu:=zF2 hr
  refine⟨_,(zAc (psS (i:=2) zDy.nd$ zAj zAb) (zAc (zA7 qAc rF (zAq$ pv 0) (pgN (i:=3) zDy.nd)
    (zAc (psS (i:=4) zDy.nd$ zBn rF (zBp (sc:=zAg zGf) rF kK) (du.own (x:= "_law_name")$ dtk (i:=1) rF$ dtk (i:=3) rF du.nil) (zAq$ pv 0) (fun _ _ _ _=>(pgB (i:=0))) (fun _ _ _ _=>(zCl$ zEg$ zHp hu (pv 0)$ zB8 hu (pv 1) (pv 2) fun _ _=>rfl)) fun _ _ _ _=>(pv 0))
    (zAc (psS (i:=5) zDy.nd$ zBn rF (zBp (sc:=zAg zGf) rF kK) (du.own (x:= "_law_name")$ dtk (i:=3) rF$ dtk (i:=1) rF du.nil) (zAq$ pv 0) (fun _ _ _ _=>(pgB (i:=0))) (fun _ _ _ _=>(zCl$ zEg$ zHp hu (pv 1)$ zB8 hu (pv 2) (pv 0) fun _ _=>rfl)) fun _ _ _ _=>(pv 0))
    (zAc (zGi (i:=6) rF (zBp (sc:=zAg zGf) rF kK) (du.own (x:= "_law_name")$ dtk (i:=3) rF$ dtk (i:=4) rF$ dtk (i:=5) rF du.nil) (zAq$ pv 0) (fun _ _ _ _=>(pgB (i:=0))) (fun _ _ _ _=>(zCl$ PW.pt$ zHl (zAr zFu (pv 0) (pv 1)$ zAv _)$ zHl (zAr (zD7 (K:=K)) (pv 0) (pv 2) rR)$ zGg$ zAr (zD7 (K:=K)) (pv 0) (pv 3) rR)) (fun _ _ _ _=>(pv 0)) zDy.nd rF rF)
    (zAe (zA7 qAc rF (zAq$ zB1 zCi (pv 6) zCr$ zCd zAd) (pgN (i:=7) zDy.nd)
     (zAc (zA2$ zD6 qAx qBz qB0 zCb (pv 2)$ zAa (zAj$ zAa (zAj$ zAa (pv 3) zAb)$ zAa (zAn zC0 (zAn zC0 (zB1 zCi (pv 4) zCr$ zCd zAd)$ zAj$ zAa (pv 7) zAb)$ zB1 zCi (pv 4) (zCd zAd) zCr) zAb) zAb)
     (zAc (zA2$ zD6 qAx qBz qB0 zCb (pv 2)$ zAa (zAj$ zAa (zAn zC0 (zAn zC0 (zB1 zCi (pv 5) zCr$ zCd zAd)$ zAj$ zAa (pv 7) zAb)$ zB1 zCi (pv 5) (zCd zAd) zCr)$ zAa (zAj$ zAa (pv 3) zAb) zAb) zAb)$ zAe$ zA2$ zD6 qAx qBz qB0 zCb (pv 2)$ zAa (zAj$ zAa (zAn zC0 (zAn zC0 (zB1 zCi (pv 5) zCr$ zCd zAd)$ zAj$ zAa (pv 7) zAb)$ zB1 zCi (pv 5) (zCd zAd) zCr)$ zAa (zAn lH (zAj$ zAa (pv 3) zAb)$ zA8 zEz rR T.z_int zIb$ zAa (zCs (zEt hr) (pv 5) (zAj zAb)$ zAv _) zAb)$ zAa (pv 4) zAb) zAb))))))))$ zAe$ zAw$ pv 2)),?_⟩
  refine gv ?_;intro _ _ _;have hz:=qAK;refine⟨(by walk_at"ln"),λs hs=>?_⟩;have fs:Fre H s:=hs;have k0:Kp [] H (upd H s$ .lst []):=Kp.new Kp.refl hs;have S0:Sme s (upd H s$ .lst []) 0:=⟨[],ac,qAG _,(λ_ h=>nomatch h)⟩;generalize upd H s (.lst [])=H1 at k0 S0;refine⟨_,rF,_,rF,⟨_,SqL.of$ k0 _ _ hl ss⟩,zA3 (xs:=ns.map V.str) (λi σ H3=>(∃o3 o4 o5 o6 o7:Option V,σ=[some (.ref l),some (.ref d),some (.ref s),o3,o4,o5,o6,o7])/\Kp [] H H3/\Sme s H3 (9*i)) ⟨⟨_,_,_,_,_,rF⟩,k0,S0⟩ (λi σ H3 _ ⟨_,k3,_⟩=>SqL.of$ k3 _ _ hl ss) ?_ ?_⟩
  .rintro i v σ H3 hv ⟨⟨o3,o4,o5,o6,o7,rfl⟩,k3,S3⟩;refine e_ ?_;intro _ _ _ _;obtain⟨n,en,rfl⟩:=zA9 hv;have mn:=qAJ en;have il:=(qAL.mp en).1;have ah:Txs H3 l ns:=k3 _ _ hl ss;have D3:=D0.kp0 k3;refine⟨_,rF,_,rF,⟨_,SqL.of ah⟩,λY hY=>zBt (ns.map V.str) (λi ys τ H5=>∃zs:List Str,(∃o0,τ=[o0,some (.ref d),some (.str n)])/\ys=zs.map V.str/\zs.length<=i/\H5=upd H3 Y (.lst ys)) ⟨[],⟨_,rF⟩,rF,qAG _,rF⟩ (λi ys τ H5 ⟨_,_,_,_,z⟩=>by subst z;exact SqL.of$ (Kp.new (M:=[]) Kp.refl hY) _ _ ah ss) ?_ ?_⟩
   .rintro i' v ys τ H5 hv ⟨zs,⟨o0,rfl⟩,rfl,zl,rfl⟩;obtain⟨x,ex,rfl⟩:=zA9 hv;have xl:=(qAL.mp ex).1;have D5:=D3.kp0$ Kp.new (l:=Y) (o:=.lst$ zs.map V.str) Kp.refl hY;obtain⟨o,g1,g2⟩:=zEm (D5.row n mn) x;refine⟨_,rF,_,rF,_,rF,_,_,rF,D5.get mn,_,o,rF,g1,_,rF,dE (λc=>?_) λc=>?_⟩
    .exact ⟨_,rF,ac,by rw[qAD,qAK];lia,zs++[x],⟨_,rF⟩,by rw[qAP];rfl,by rw[qAN,qAn];lia,zB7⟩
    .exact ⟨zs,⟨_,rF⟩,rF,Ll,rF⟩
   rintro ys τ H5 ⟨zs,_,rfl,zl,rfl⟩;rw[qAD]at zl;obtain⟨H4,e4,k4,an⟩:=dJ (o:=.lst$ zs.map V.str) hY;rw[e4];have D4:=D3.kp0 k4;have ai:Txs H4 l ns:=k4 _ _ ah ss;refine⟨_,rF,_,rF,⟨_,SqL.of ai⟩,λZ hZ=>zBt (ns.map V.str) (λi ys τ H5=>∃us:List Str,(∃o0,τ=[o0,some (.str n),some (.ref d)])/\ys=us.map V.str/\us.length<=i/\H5=upd H4 Z (.lst ys)) ⟨[],⟨_,rF⟩,rF,qAG _,rF⟩ (λi ys τ H5 ⟨_,_,_,_,z⟩=>by subst z;exact SqL.of$ (Kp.new (M:=[]) Kp.refl hZ) _ _ ai ss) ?_ ?_⟩
   .rintro i' v ys τ H5 hv ⟨us,⟨o0,rfl⟩,rfl,ul,rfl⟩;obtain⟨x,ex,rfl⟩:=zA9 hv;have xl:=(qAL.mp ex).1;have mx:=qAJ ex;have D5:=D4.kp0$ Kp.new (l:=Z) (o:=.lst$ us.map V.str) Kp.refl hZ;obtain⟨o,g1,g2⟩:=zEm (D5.row x mx) n;refine⟨_,rF,_,rF,_,rF,_,_,rF,D5.get mx,_,o,rF,g1,_,rF,dE (λc=>?_) λc=>?_⟩
    .exact ⟨_,rF,ac,by rw[qAD,qAK];lia,us++[x],⟨_,rF⟩,by rw[qAP];rfl,by rw[qAN,qAn];lia,zB7⟩
    .exact ⟨us,⟨_,rF⟩,rF,Ll,rF⟩
   rintro ys τ H5 ⟨us,_,rfl,ul,rfl⟩;rw[qAD]at ul;obtain⟨H5,e5,k5,ao⟩:=dJ (o:=.lst$ us.map V.str) hZ;rw[e5];have av:=k5 _ _ an ss;have ap:Txs H5 l ns:=k5 _ _ ai ss;refine⟨_,rF,_,rF,⟨_,SqL.of ap⟩,λW hW=>zBt (ns.map V.str) (λi ys τ H6=>∃ws:List Str,(∃o0,τ=[o0,some (.str n),some (.ref Y),some (.ref Z)])/\ys=ws.map V.str/\ws.length<=i/\H6=upd H5 W (.lst ys)) ⟨[],⟨_,rF⟩,rF,qAG _,rF⟩ (λi ys τ H6 ⟨_,_,_,_,z⟩=>by subst z;exact SqL.of$ (Kp.new (M:=[]) Kp.refl hW) _ _ ap ss) ?_ ?_⟩
   .rintro i' v ys τ H6 hv ⟨ws,⟨o0,rfl⟩,rfl,wl,rfl⟩;obtain⟨x,ex,rfl⟩:=zA9 hv;have xl:=(qAL.mp ex).1;have kk:Kp [] H5 (upd H5 W$ .lst$ ws.map V.str):=Kp.new Kp.refl hW;have no:∃aq:List Str,(∃o0,[some (V.str x),some (.str n),some (.ref Y),some (.ref Z)]=[o0,some (.str n),some (.ref Y),some (.ref Z)])/\ws.map V.str=aq.map V.str/\aq.length<=i'+1/\upd H5 W (.lst$ ws.map V.str)=upd H5 W (.lst$ ws.map V.str):=⟨ws,⟨_,rF⟩,rF,Ll,rF⟩;refine⟨_,rF,_,rF,rF,_,rF,dE (λc=>?_) λc=>no⟩;refine⟨_,rF,_,rF,_,_,rF,.inl$ SqL.of$ kk _ _ av ss,rF,zDd _,_,rF,dE (λc=>?_) λc=>no⟩;refine⟨_,rF,_,rF,_,_,rF,.inl$ SqL.of$ kk _ _ ao ss,rF,zDd _,_,rF,dE (λc=>?_) λc=>no⟩;exact⟨_,rF,ac,by rw[qAD,qAK];lia,ws++[x],⟨_,rF⟩,by rw[qAP];rfl,by rw[qAN,qAn];lia,zB7⟩
   rintro ys τ H6 ⟨ws,_,rfl,wl,rfl⟩;obtain⟨H6,e6,k6,aw⟩:=dJ (o:=.lst$ ws.map V.str) hW;rw[e6];refine gN ?_;dsimp only;refine⟨_,rF,_,rF,_,_,rF,SqL.of aw,λsl ar=>?_⟩;rw[iJ _ dD,show(ws.map V.str).take (3:Int).toNat=(ws.take 3).map V.str by rw[qBk];rfl];obtain⟨H7,e7,k7,h7⟩:=dJ (o:=.lst$ (ws.take 3).map V.str) ar;rw[e7];have l3:(ws.take 3).length<=3:=by rw[qAU];lia
   generalize ws.take 3=qs at h7 l3;have au:=(k4.trans k5).trans$ k6.trans k7;have S7:=S3.kp0 au
   have aj:sl≠s:=by
    obtain⟨vs,e,_⟩:=S3.kp0$ (k4.trans k5).trans k6;exact(zAm e ar).symm
   have nY:Y≠s:=by
    obtain⟨vs,e,_⟩:=S3;exact(zAm e hY).symm
   have nZ:Z≠s:=by
    obtain⟨vs,e,_⟩:=S3.kp0 k4;exact(zAm e hZ).symm
   have ax:=(k5.trans$ k6.trans k7) _ _ an ss;have ay:=(k6.trans k7) _ _ ao ss;have K7:=k3.trans au;refine⟨_,rF,⟨_,SqL.of h7⟩,zA3 (xs:=qs.map V.str) (λp σ H8=>(∃o7:Option V,σ=[some (.ref l),some (.ref d),some (.ref s),some (.str n),some (.ref Y),some (.ref Z),some (.ref W),o7])/\Kp [] H H8/\Txs H8 sl qs/\Txs H8 Y zs/\Txs H8 Z us/\Sme s H8 (9*i+3*p)) ⟨⟨_,rF⟩,K7,h7,ax,ay,S7⟩ (λp σ H8 _ ⟨_,_,h8,_⟩=>SqL.of h8) ?_ ?_⟩
   .rintro p v σ H8 hv ⟨⟨o7,rfl⟩,k8,h8,ad,ak,S8⟩;refine gv ?_;intro _ _ _;obtain⟨z,ez,rfl⟩:=zA9 hv;have pl:=(qAL.mp ez).1;obtain⟨vs,e8,l8,t8⟩:=S8;have aD:∀{a o},H a=some o->a≠s:=λh=>b_ fs h;refine⟨_,rF,.inl ⟨rF,_,SqL.of e8⟩,_,rF,(by walk_at"ln"),λb1 q1=>?_⟩;obtain⟨Ha,ea,ka,ha⟩:=dJ (o:=.lst [.str n]) q1;rw[ea];refine zJp rF rF (ka _ _ ad ss) Ll λr1 Hb kb f1 aa=>?_;refine⟨(by walk_at"ln"),λc1 q2=>?_⟩;obtain⟨Hc,ec,kc,hc⟩:=dJ (o:=.lst [.ref b1,.ref r1]) q2;rw[ec];have O:=ka.trans$ kb.trans kc;have S:=O _ _ e8 ss;refine⟨_,_,_,rF,rF,S,Ll,?_⟩
    have t1:Tx2 s Hc (.ref c1):=Tx2.ofL [(b1,[n]),(r1,mix zs z)] hc (λp hp=>by
     rcases qAT.mp hp with e|hp
     .rw [e];exact⟨(kb.trans kc) _ _ ha ss,ss,(zAm e8 q1).symm⟩
     .rw [qAO.mp hp];exact⟨kc _ _ aa ss,by rw[i3];lia,(b_ f1$ ka _ _ e8 ss).symm⟩) ss (zAm ((ka.trans kb) _ _ e8 ss) q2).symm
    have S9:=Sme.one S l8 (λv hv=>(t8 v hv).kp0 O) t1;have k9:Kp [] H (upd Hc s$ .lst$ vs++[.ref c1]):=Kp.new (k8.trans O) fs;have o9:∀{a xs},H8 a=some (.lst xs)->a≠s->upd Hc s (.lst$ vs++[.ref c1]) a=some (.lst xs):=λh n=>(a_ n).trans$ O _ _ h ss;have h9:=o9 h8 aj;have al:=o9 ad nY;have ae:=o9 ak nZ;generalize upd Hc s (.lst$ vs++[.ref c1])=H9 at S9 k9 h9 al ae;clear o9 t1 hc kc O aa f1 kb ha ka e8 l8 t8 S k8 h8 ad ak;obtain⟨vs,e8,l8,t8⟩:=S9;refine⟨_,rF,.inl ⟨rF,_,SqL.of e8⟩,?_⟩;refine zJp rF rF ae Ll λr1 Hb kb f1 aa=>?_;refine⟨_,rF,(by walk_at"ln"),λb1 q1=>?_⟩;obtain⟨Ha,ea,ka,ha⟩:=dJ (o:=.lst [.str n]) q1;rw[ea];refine⟨(by walk_at"ln"),λc1 q2=>?_⟩;obtain⟨Hc,ec,kc,hc⟩:=dJ (o:=.lst [.ref r1,.ref b1]) q2;rw[ec];have O:=kb.trans$ ka.trans kc;have S:=O _ _ e8 ss;refine⟨_,_,_,rF,rF,S,Ll,?_⟩
    have t1:Tx2 s Hc (.ref c1):=Tx2.ofL [(r1,mix us z),(b1,[n])] hc (λp hp=>by
     rcases qAT.mp hp with e|hp
     .rw [e];exact⟨(ka.trans kc) _ _ aa ss,by rw[i3];lia,(b_ f1 e8).symm⟩
     .rw [qAO.mp hp];exact⟨kc _ _ ha ss,ss,(zAm (kb _ _ e8 ss) q1).symm⟩) ss (zAm ((kb.trans ka) _ _ e8 ss) q2).symm
    have SA:=Sme.one S l8 (λv hv=>(t8 v hv).kp0 O) t1;have kA:Kp [] H (upd Hc s$ .lst$ vs++[.ref c1]):=Kp.new (k9.trans O) fs;have o9:∀{a xs},H9 a=some (.lst xs)->a≠s->upd Hc s (.lst$ vs++[.ref c1]) a=some (.lst xs):=λh n=>(a_ n).trans$ O _ _ h ss;have hA:=o9 h9 aj;have am:=o9 al nY;have af:=o9 ae nZ;generalize upd Hc s (.lst$ vs++[.ref c1])=HA at SA kA hA am af;clear o9 t1 hc kc O aa f1 kb ha ka e8 l8 t8 S k9 h9 al ae;obtain⟨vs,e8,l8,t8⟩:=SA;refine⟨_,rF,.inl ⟨rF,_,SqL.of e8⟩,?_⟩;refine zJp rF rF af Ll λr1 Hb kb f1 aa=>?_;refine⟨_,rF,(by walk_at"ln"),λb1 q1=>?_⟩;obtain⟨Ha,ea,ka,ha⟩:=dJ (o:=.lst [.str n]) q1;rw[ea];refine⟨_,rF,(by walk_at"ln"),λe0 qe=>?_⟩;obtain⟨Hz,az,kz,aA⟩:=dJ (o:=.lst []) qe;rw[az];have ag:=kb.trans$ ka.trans kz;refine sj (SqL.of$ ag _ _ af ss) (SqL.of aA) λbb=>?_;refine .inr ⟨_,rF,_,_,_,rF,rF,kz _ _ ha ss,by split<;>decide,by split<;>decide,by rw[qAK];show 1*_<=_;split<;>decide,λr2 q3=>?_⟩;rw[tG];obtain⟨Hr,er,kr,aB⟩:=dJ (o:=.lst$ (if bb then[n]else[]).map V.str) q3;rw[er];refine⟨_,rF,(by walk_at"ln"),λc1 q2=>?_⟩;obtain⟨Hc,ec,kc,hc⟩:=dJ (o:=.lst [.ref r1,.ref r2,.ref Y]) q2;rw[ec];have O:=ag.trans$ kr.trans kc;have S:=O _ _ e8 ss;refine⟨_,_,_,rF,rF,S,Ll,?_⟩
    have t1:Tx2 s Hc (.ref c1):=Tx2.ofL [(r1,mix us z),(r2,if bb then[n]else[]),(Y,zs)] hc (λp hp=>by
     rcases qAT.mp hp with e|hp
     .rw [e];exact⟨((ka.trans kz).trans$ kr.trans kc) _ _ aa ss,by rw[i3];lia,(b_ f1 e8).symm⟩
     rcases qAT.mp hp with e|hp
     .rw [e];exact⟨kc _ _ aB ss,by dsimp only;split<;>simp,(zAm (ag _ _ e8 ss) q3).symm⟩
     .rw [qAO.mp hp];exact⟨O _ _ am ss,by dsimp only;lia,nY⟩) ss (zAm ((ag.trans kr) _ _ e8 ss) q2).symm
    have o9:∀{a xs},HA a=some (.lst xs)->a≠s->upd Hc s (.lst$ vs++[.ref c1]) a=some (.lst xs):=λh n=>(a_ n).trans$ O _ _ h ss;exact⟨⟨_,rF⟩,Kp.new (kA.trans O) fs,o9 hA aj,o9 am nY,o9 af nZ,(Sme.one S l8 (λv hv=>(t8 v hv).kp0 O) t1).le Ll⟩
   .rintro σ H8 ⟨⟨o7,rfl⟩,k8,h8,ad,ak,S8⟩;rw[qAD]at S8;exact⟨⟨_,_,_,_,_,rF⟩,k8,S8.le Ll⟩
  .rintro σ H3 ⟨⟨o3,o4,o5,o6,o7,rfl⟩,k3,S3⟩;obtain⟨vs,e,l',t⟩:=S3;rw[qAD]at l';exact⟨_,rF,k s vs H3 k3 fs e Ll t⟩
end
inductive TxB(H:Hp)(v:V):Prop
 |mk:∀(a:Addr)(as:List Addr) (rs:List (List Str)),v= .ref a->dB H a as rs->rs.length<=64->(∀r∈rs,r.length<=64)->TxB H v
theorem TxB.kp0(h:TxB H v)(k:Kp [] H H'):TxB H' v:=by
 obtain⟨a,as,rs,e,R,O,S⟩:=h;exact⟨a,as,rs,e,R.kp k,O,S⟩
theorem Tx2.b(h:Tx2 s H v):TxB H v:=by
 obtain⟨a,as,rs,e,R,O,S,_⟩:=h;exact⟨a,as,rs,e,R,O,S⟩
theorem dB.of{as:List Addr}{rs:List (List Str)}(R:dB H l as rs)(h:(as.map V.ref)[i]?=some v):∃a r,as[i]?=some a/\rs[i]?=some r/\v= .ref a/\H a=some (.lst$ r.map V.str):=by
 have hi:i<rs.length:=by
  have:=(qAL.mp h).1;rw[qAD,R.len]at this;exact this
 obtain⟨a,r,O,S,W,ha⟩:=R.at hi;rw[W]at h;exact⟨a,r,O,S,(qAb h).symm,ha⟩
structure kT(H0 H:Hp)(l:Addr)(as:List Addr)(rs:List (List Str)):Prop where
 r:dB H l as rs
 ne:∀a∈as,a≠l
 nd:as.Nodup
 fr:Fre H0 l
 frs:∀a∈as,Fre H0 a
theorem kT.push{H0:Hp}{as:List Addr}{rs:List (List Str)}{r:List Str}(R:kT H0 H l as rs)(hc:H c=none)(k:Kp [] H0 H):kT H0 (upd (upd H c$ .lst$ r.map V.str) l$ .lst$ as.map V.ref++[.ref c]) l (as++[c]) (rs++[r]):=by
 have kc:Kp [] H (upd H c$ .lst$ r.map V.str):=Kp.new Kp.refl hc;have W:l≠c:=zAm R.r.top hc
 have old:∀a∈as,∃xs,H a=some (.lst xs):=λa h=>by
  obtain⟨i,ei⟩:=qDN h;have hi:i<rs.length:=by rw[<-R.r.len];exact(qAL.mp ei).1
  exact⟨_,R.r.row i a _ ei$ qAq hi⟩
 refine⟨⟨by rw[ac,qAP];rfl,by rw[qAN,qAN,R.r.len];rfl,λi a r' O S=>?_⟩,λa h=>?_,?_,R.fr,λa h=>?_⟩
 .by_cases hp:i<as.length
  .rw [qA5 hp]at O;rw[qA5$ R.r.len▸hp]at S;exact(a_$ R.ne a$ qAJ O).trans$ kc _ _ (R.r.row i a r' O S) ss
  .have:i=as.length:=by
    have:=(qAL.mp O).1;rw[qAN,qAn]at this;lia
   subst this;rw[qBJ$ qAG _,qCC]at O;rw[R.r.len,qBJ$ qAG _,qCC]at S
   cases O;cases S
   exact(a_ W.symm).trans ac
 .rcases qAR.mp h with z|z
  .exact R.ne a z
  .rw [qAO.mp z];exact W.symm
 .refine qBX.mpr ⟨R.nd,ss,λa ha b hb=>?_⟩;rw[qAO.mp hb];obtain⟨xs,e⟩:=old a ha;exact zAm e hc
 .rcases qAR.mp h with z|z
  .exact R.frs a z
  .rw [qAO.mp z];exact k.fre hc ss
theorem kT.set{H0:Hp}{as:List Addr}{rs:List (List Str)}{r:List Str}(R:kT H0 H l as rs)(h:as[i]?=some a)(W:rs.length<=64)(l2:∀r∈rs,r.length<=64)(l3:r.length<=64):TxB (upd H a$ .lst$ r.map V.str) (.ref l):=by
 have hi:i<rs.length:=by rw[<-R.r.len];exact(qAL.mp h).1
 refine⟨l,as,rs.set i r,rF,⟨(a_ (R.ne a$ qAJ h).symm).trans R.r.top,by rw[qCq];exact R.r.len,λj b q O S=>?_⟩,by rw[qCq];exact W,λq hq=>?_⟩
 .by_cases c:i=j
  .subst c;rw[h]at O;cases O;rw[qCE hi]at S;cases S;exact ac
  .rw [qCl c]at S
   have nb:b≠a:=λz=>by
    subst z;exact c$ (List.getElem?_inj (qAL.mp h).1 R.nd).mp$ h.trans O.symm
   exact(a_ nb).trans$ R.r.row j b q O S
 .rcases List.mem_or_eq_of_mem_set hq with z|z
  .exact l2 q z
  .rw [z];exact l3
section
inductive iC(vs:List V)(H:Hp)(Q:VK)(u_3:XK):Prop
 |mk:∀(l m:Addr)(far:Int)(ns:List Str)(as:List Addr) (rs:List (List Str)),vs=[.ref l,.ref m,.int far]->Txs H l ns->ns≠[]->ns.length<=20->dB H m as rs->rs.length<=20->(∀r∈rs,r≠[]/\r.length<=20)->0<=far->(∀v H',Kp [] H H'->TxB H' v->Q v H')->iC vs H Q u_3
abbrev zG2:Stmt:=top 69
theorem zEn:dq ["_law_names_here","_law_rows","_law_far","_law_found","_law_row","_law_name","_law_at"] ["_law_names_here","_law_rows","_law_far"] (zAg zG2):=fnS
theorem oZ(F:Fun K "_law_put_in" "_law_put_in" zG2 f fd)(T:Txt K mg):dw P w K mg base CX0 2 f fd ["_law_names_here","_law_rows","_law_far"] iC:=by
 refine F.ok zEn (λvs H Q E h=>?_) λao A outer s H vs Q E hr h=>?_
 .obtain ⟨l,m,O,ns,as,rs,rfl,_⟩:=h;rfl
 .obtain ⟨l,m,O,ns,as,rs,rfl,hl,nn,few,R,rl,ag,f0,k⟩:=h;have hu:=zF2 hr
  refine⟨_,(zAc (zGi (i:=3) rF (zBp (sc:=zAg zG2) rF kK) (du.own (x:="_law_row") du.nil) (zAq$ pv 1) (λ_ _ _ _=>(pgB (i:=0))) (λ_ _ _ _=>zCm) (λ_ _ _ _=>(zA8 (zJ3 (K:=K)) rR T.z_list zCe$ zAa (pv 0) zAb)) zEn.nd rF rF) (zAc (zBk (zAr (ir hr) (pv 3) (zAj zAb)$ zAv _)
    (zAe$ zAw$ zAj$ zAa (zAj$ zAa (zBd zA0 (pv 0) zAd λ_ _=>rfl)$ zAa (zBd zA0 (pv 0) zAd λ_ _=>rfl) zAb) zAb)
    zAs)
   (zAc (psS (i:=4) zEn.nd$ zBd zA0 (pv 3) (zAn zBa (pv 2)$ zAi zAp rR T.z_len zBy$ zAa (pv 3) zAb) fun _ _=>rfl)
   (zAc (psS (i:=5) zEn.nd$ zBd zA0 (pv 0) (zAn zBa (zAn zBr (pv 2)$ zAi zAp rR T.z_len zBy$ zAa (pv 3) zAb)$ zAi zAp rR T.z_len zBy$ zAa (pv 0) zAb) fun _ _=>rfl)
   (zAc (psS (i:=6) zEn.nd$ zAn zBa (zAn zBr (zAn zBr (pv 2)$ zAi zAp rR T.z_len zBy$ zAa (pv 3) zAb)$ zAi zAp rR T.z_len zBy$ zAa (pv 0) zAb)$ zAn zCy (zAi zAp rR T.z_len zBy$ zAa (pv 4) zAb) zAd)
   (zAc (zBk (zAr zD8 (zAn zBa (zAn zBr (pv 2) zAd) zAd) zAd$ zAv _)
    (zAe$ zA2$ zD6 qAx qC8 qC9 kD (pv 4)$ zAa (pv 6)$ zAa (pv 5) zAb)$ zAe$ iU (pv 5)$ lj (pv 4) (zAn zBa (pv 6)$ zAi zAp rR T.z_len zBy$ zAa (pv 4) zAb) zI9)$ zAe$ zAw$ pv 3)))))),?_⟩
  refine xT ?_;intro _ _ _ _ _ _ _;have hz:=qAK;have pos:0<ns.length:=qB1.mpr nn;refine⟨_,rF,_,rF,⟨_,SqL.of R.top⟩,λY hY=>zBc (as.map V.ref) (λi ys τ H2=>∃S:List Addr,(∃o0,τ=[o0])/\ys=S.map V.ref/\kT H H2 Y S (rs.take i)/\Kp [] H H2) ⟨[],⟨_,rF⟩,rF,⟨⟨ac,rF,(λ_ _ _ h=>nomatch h)⟩,(λ_ h=>nomatch h),qBC,hY,(λ_ h=>nomatch h)⟩,Kp.new Kp.refl hY⟩ (λi ys τ H2 ⟨_,_,_,_,k2⟩=>SqL.of$ k2 _ _ R.top ss) ?_ ?_⟩
  .rintro i v ys τ H2 hv ⟨S,⟨o0,rfl⟩,rfl,RY,k2⟩;obtain⟨a,r,_,er,rfl,ha⟩:=R.of hv;refine⟨_,rF,_,_,rF,.inl$ SqL.of$ k2 _ _ ha ss,λc hc=>?_⟩;have kc:Kp [] H2 (upd H2 c$ .lst$ r.map V.str):=Kp.new Kp.refl hc;exact⟨kc _ _ RY.r.top ss,by rw[qAD,RY.r.len,qAU];lia,S++[c],⟨_,rF⟩,by rw[qAP];rfl,by rw[zAk er];exact RY.push hc k2,Kp.new (k2.trans kc) hY⟩
  rintro ys τ H2 ⟨S,_,rfl,RY,k2⟩;rw[show rs.take (as.map V.ref).length=rs by rw[qAD,R.len,qAg]]at RY;refine gN ?_;dsimp only;have ai:Txs H2 l ns:=k2 _ _ hl ss;refine⟨_,rF,(by walk_at"ln"),λe0 qe=>?_⟩;have k3:Kp [] H2 (upd H2 e0$ .lst []):=Kp.new Kp.refl qe;have h3:upd H2 e0 (.lst []) e0=some (.lst []):=ac;have W:kT H (upd H2 e0$ .lst []) Y S rs:=⟨RY.r.kp k3,RY.ne,RY.nd,RY.fr,RY.frs⟩;generalize upd H2 e0 (.lst [])=H3 at k3 h3 W;have ae:Txs H3 l ns:=k3 _ _ ai ss;have ah:=k2.trans k3;refine zD9 (SqL.of W.r.top) (SqL.of h3) λbb aj=>⟨_,rF,dE (λc=>?_) λc=>?_⟩
  .obtain ⟨x0,_,a0⟩:=zI4 (ns:=ns) (i:=0) Ll Ll;refine⟨_,rF,_,_,_,_,rF,rF,SqL.of ae,a0,_,rF,_,_,_,_,rF,rF,SqL.of ae,a0,(by walk_at"ln"),λb1 q1=>?_⟩;obtain⟨Ha,ea,ka,ha⟩:=dJ (o:=.lst [.str x0,.str x0]) q1;rw[ea];refine⟨(by walk_at"ln"),λc1 q2=>?_⟩;obtain⟨Hc,ec,kc,hc⟩:=dJ (o:=.lst [.ref b1]) q2;rw[ec];refine k _ Hc (ah.trans$ ka.trans kc) ⟨c1,[b1],[[x0,x0]],rF,⟨hc,rF,λi a r e1 e2=>?_⟩,ss,λr hr=>by rw[qAO.mp hr];simp⟩;rcases i with _|i<;>simp at e1 e2;subst e1 e2;exact kc _ _ ha ss
  .have cl:S.length=rs.length:=RY.r.len
   have cpos:0<S.length:=by
    rcases Nat.eq_zero_or_pos S.length with z|z
    .exact absurd (aj.mpr$ by rw[qBx.mp z];rfl) c
    .exact z
   obtain⟨p,ep⟩:∃p:Nat,O % (S.length:Int)=p:=⟨(O % (S.length:Int)).toNat,by have:=qAw O (show(S.length:Int)≠0 by lia);lia⟩;have pl:p<S.length:=by have:=qA0 O (show(0:Int)<S.length by lia);lia
   have ec:S[p]?=some S[p]:=qAq pl;have er:rs[p]?=some (rs[p]' Ll):=qAq Ll;generalize S[p]=ad at ec;generalize rs[p]' Ll=r0 at er;have aa:=W.r.row p ad r0 ec er;obtain⟨rn,ap⟩:=ag r0$ qAJ er;have an:0<r0.length:=qB1.mpr rn;refine⟨_,rF,_,rF,_,rF,_,_,rF,.inl$ SqL.of W.r.top,_,_,rF,rF,by rw[qAD];lia,_,_,_,.ref ad,rF,rF,SqL.of W.r.top,by rw[qAD,ep];exact jG (by rw[qAY,ec];rfl),?_⟩;have af:∀{n:Nat},n<=20->(n:Int)<10^100:=λh=>Int.lt_trans (show(_:Int)<1000 by lia) kK;obtain⟨x,_,ax⟩:=zI4 (ns:=ns) (i:=O / (S.length:Int) % (ns.length:Int)) (by have:=qAw (O / (S.length:Int)) (show(ns.length:Int)≠0 by lia);lia)$ qA0 _ Ll;refine⟨_,rF,_,rF,_,rF,_,_,rF,.inl$ SqL.of W.r.top,_,_,rF,rF,⟨by rw[qAD];lia,by rw[qAD];exact af Ll⟩,_,rF,_,_,rF,.inl$ SqL.of ae,_,_,rF,rF,by rw[qAD];lia,_,_,_,.str x,rF,rF,SqL.of ae,by rw[qAD,qAD];exact ax,?_⟩;obtain⟨q,eq⟩:∃q:Nat,O / (S.length:Int) / (ns.length:Int) % ((r0.length:Int)+1)=q:=⟨(O / (S.length:Int) / (ns.length:Int) % ((r0.length:Int)+1)).toNat,by have:=qAw (O / (S.length:Int) / (ns.length:Int)) (show(r0.length:Int)+1≠0 by lia);lia⟩;have ql:q<r0.length+1:=by have:=qA0 (O / (S.length:Int) / (ns.length:Int)) (show(0:Int)<(r0.length:Int)+1 by lia);lia
   refine⟨_,rF,_,rF,_,_,rF,.inl$ SqL.of W.r.top,_,_,rF,rF,⟨by rw[qAD];lia,by rw[qAD];exact af Ll⟩,_,rF,_,_,rF,.inl$ SqL.of ae,_,_,rF,rF,⟨by rw[qAD];lia,by rw[qAD];exact af few⟩,_,rF,_,_,rF,.inl$ SqL.of aa,_,_,rF,rF,_,_,rF,rF,by rw[qAD];lia,?_⟩;rw[qAD,qAD,qAD,eq];have ak:rs.length<=64:=Ll
   have al:∀r∈rs,r.length<=64:=λr h=>by have:=(ag r h).2;lia
   have fin:∀{r:List Str},r.length<=64->Q (.ref Y) (upd H3 ad$ .lst$ r.map V.str):=λ{r} am=>by
    refine k _ _ (λa o h _=>?_)$ W.set ec ak al am;rw[a_$ b_ (W.frs ad$ qAJ ec) h];exact ah _ _ h ss
   refine⟨_,rF,_,_,rF,rF,⟨dD,kK⟩,_,_,rF,rF,dD,rF,_,rF,dE (λc=>?_) λc=>?_⟩
   .refine ⟨_,rF,.inl ⟨rF,_,SqL.of aa⟩,_,rF,_,rF,ad,_,_,_,rF,rF,aa,by rw[qAD];lia,Ll,Ll,_,rF,?_⟩
    have e:(r0.map V.str).take (q:Int).toNat++V.str x::(r0.map V.str).drop (q:Int).toNat=(r0.take q++x::r0.drop q).map V.str:=by
     rw[qAP,qAt,qBk,qBl];rfl
    rw[e];exact fin (by simp only[qAN,qAU,qAa,qAz];lia)
   .obtain ⟨u,eu⟩:∃u:Nat,(q:Int) % (r0.length:Int)=u:=⟨((q:Int) % (r0.length:Int)).toNat,by have:=qAw (q:Int) (show(r0.length:Int)≠0 by lia);lia⟩;have ul:u<r0.length:=by have:=qA0 (q:Int) (show(0:Int)<r0.length by lia);lia
    refine⟨_,rF,_,rF,_,rF,_,rF,_,_,rF,.inl$ SqL.of aa,_,_,rF,rF,by rw[qAD];lia,ad,_,_,u,rF,rF,aa,?_,_,rF,?_⟩
    .rw [qAD,eu];unfold ixN;rw[qAC Ll,qAC Ll];rfl
    .have e:(r0.map V.str).set u (V.str x)=(r0.set u x).map V.str:=by rw[List.map_set]
     rw[e];exact fin (by rw[qCq];lia)
end
theorem zCu(h:c_ H v)(k:Kp [] H H'):c_ H' v:=by
 rcases h with h|h|h|h|⟨a,e,⟨xs,h⟩|⟨xs,h⟩|⟨xs,h⟩⟩
 .exact .inl h
 .exact .inr$ .inl h
 .exact .inr$ .inr$ .inl h
 .exact .inr$ .inr$ .inr$ .inl h
 .exact .inr$ .inr$ .inr$ .inr ⟨a,e,.inl ⟨xs,k _ _ h ss⟩⟩
 .exact .inr$ .inr$ .inr$ .inr ⟨a,e,.inr$ .inl ⟨xs,k _ _ h ss⟩⟩
 .exact .inr$ .inr$ .inr$ .inr ⟨a,e,.inr$ .inr ⟨xs,k _ _ h ss⟩⟩
theorem zHe(x:Str):c_ H (.str x):=.inl ⟨x,rF⟩
theorem zFm(h:H a=some (.lst xs)):c_ H (.ref a):=.inr$ .inr$ .inr$ .inr ⟨a,rF,.inl ⟨xs,h⟩⟩
theorem zEl(h:H a=some (.tup xs)):c_ H (.ref a):=.inr$ .inr$ .inr$ .inr ⟨a,rF,.inr$ .inl ⟨xs,h⟩⟩
theorem zFn{xs:List (Key×V)}(h:H a=some (.dK xs)):c_ H (.ref a):=.inr$ .inr$ .inr$ .inr ⟨a,rF,.inr$ .inr ⟨xs,h⟩⟩
def zE8(H:Hp)(v:V):Prop:=c_ H v/\∀a xs,v= .ref a->H a≠some (.lst xs)
theorem zE8.kp0(h:zE8 H v)(k:Kp [] H H'):zE8 H' v:=by
 refine⟨zCu h.1 k,λa xs e z=>?_⟩;subst e;rcases h.1 with⟨_,e⟩|e|⟨_,e⟩|⟨_,e⟩|⟨b,e,y⟩
 .cases e
 .cases e
 .cases e
 .cases e
 .cases e
  rcases y with⟨ys,y⟩|⟨ys,y⟩|⟨ys,y⟩
  .exact h.2 a ys rF y
  .rw [k _ _ y ss]at z;cases z
  .rw [k _ _ y ss]at z;cases z
inductive dW(H:Hp)(v:V):Prop
 |lst:∀(a:Addr)(xs:List V),v= .ref a->H a=some (.lst xs)->xs.length<=64->(∀x∈xs,c_ H x)->dW H v
 |no:zE8 H v->dW H v
theorem dW.kp0(h:dW H v)(k:Kp [] H H'):dW H' v:=by
 cases h with
 |lst a xs e h l t=>exact .lst a xs e (k _ _ h ss) l λx O=>zCu (t x O) k
 |no h=>exact .no$ h.kp0 k
theorem dW.txs{r:List Str}(h:Txs H a r)(l:r.length<=64):dW H (.ref a):=.lst a _ rF h (by rw[qAD];exact l) λx O=>by
 obtain⟨y,_,rfl⟩:=qAe.mp O;exact zHe y
inductive dM(H:Hp)(v:V):Prop
 |lst:∀(a:Addr)(xs:List V),v= .ref a->H a=some (.lst xs)->xs.length<=64->(∀x∈xs,dW H x)->dM H v
 |no:zE8 H v->dM H v
theorem dM.kp0(h:dM H v)(k:Kp [] H H'):dM H' v:=by
 cases h with
 |lst a xs e h l t=>exact .lst a xs e (k _ _ h ss) l λx O=>(t x O).kp0 k
 |no h=>exact .no$ h.kp0 k
theorem dB.blk{as:List Addr}{rs:List (List Str)}(R:dB H a as rs)(O:∀r∈rs,r.length<=64):∀v∈as.map V.ref,dW H v:=λv S=>by
 obtain⟨i,W⟩:=qDN S;obtain⟨b,r,_,er,rfl,hb⟩:=R.of W;exact dW.txs hb$ O r$ qAJ er
theorem TxB.blks(h:TxB H v):dM H v:=by
 obtain⟨a,as,rs,e,R,O,S⟩:=h;exact .lst a _ e R.top (by rw[qAD,R.len];exact O)$ R.blk S
theorem u0{xs:List V}(h:0<xs.length)(i:Int):∃v∈xs,atI xs (i % (xs.length:Int))=some v:=by
 have h1:=qAw i (show(xs.length:Int)≠0 by lia);have h2:=qA0 i (show(0:Int)<xs.length by lia);have hi:(i % (xs.length:Int)).toNat<xs.length:=Ll
 exact⟨_,qB8 hi,zEj h1$ qAq hi⟩
def Gn(R:Hp->V->Prop)(te:TE)(σ:St)(H:Hp):Prop:=∀H1,Kp [] H H1->∀Q:VK,(∀v H',Kp [] H1 H'->R H' v->Q v H')->te σ H1 Q
def GnL(R:Hp->V->Prop)(t:L2.TA)(σ:St)(H:Hp)(n:Nat):Prop:=∀H1,Kp [] H H1->∀Q:List V->Hp->Prop,(∀vs H',Kp [] H1 H'->vs.length=n->(∀v∈vs,R H' v)->Q vs H')->t σ H1 Q
def eg(R:Hp->V->Prop):Prop:=∀H H' v,R H v->Kp [] H H'->R H' v
def zGo(R:Hp->V->Prop)(n:Nat)(H:Hp)(v:V):Prop:=∃a xs,v= .ref a/\H a=some (.lst xs)/\xs.length=n/\∀x∈xs,R H x
def zE0(R:Hp->V->Prop)(n:Nat)(H:Hp)(v:V):Prop:=∃a xs,v= .ref a/\H a=some (.lst xs)/\xs.length<=n/\∀x∈xs,R H x
theorem zAo:eg c_:=λ_ _ _ h k=>zCu h k
theorem zBh:eg dW:=λ_ _ _ h k=>h.kp0 k
theorem zA4:eg dM:=λ_ _ _ h k=>h.kp0 k
theorem zGo.le{R:Hp->V->Prop}(h:zGo R n H v)(l:n<=m):zE0 R m H v:=by
 obtain⟨a,xs,e,O,S,r⟩:=h;exact⟨a,xs,e,O,Ll,r⟩
theorem zE0.blk(h:zE0 c_ n H v)(l:n<=64):dW H v:=by
 obtain⟨a,xs,e,O,S,r⟩:=h;exact .lst a xs e O Ll r
theorem zE0.blks(h:zE0 dW n H v)(l:n<=64):dM H v:=by
 obtain⟨a,xs,e,O,S,r⟩:=h;exact .lst a xs e O Ll r
section
variable{R R':Hp->V->Prop}{te ta tb:TE}{t:L2.TA}{σ:St}{H:Hp}{n m:Nat}{K:PySem.W.Frag}
theorem zH8(h:Gn R te σ H)(f:∀H v,R H v->R' H v):Gn R' te σ H:=λH1 k1 _ k=>h H1 k1 _ λv H2 k2 r=>k v H2 k2$ f _ _ r
theorem zAt:GnL R gw σ H 0:=λH1 _ _ k=>k [] H1 Kp.refl rF (λ_ h=>nomatch h)
theorem zAf(S:eg R)(h:Gn R te σ H)(hs:GnL R t σ H n):GnL R (zIf te t) σ H (n+1):=λH1 k1 _ k=>h H1 k1 _ λv H2 k2 r=>hs H2 (k1.trans k2) _ λvs O k3 l rs=>k (v::vs) O (k2.trans k3) (by rw[qAa,l]) λu V=>by
 rcases qAT.mp V with e|e
 .rw [e];exact S _ _ _ r k3
 .exact rs u e
theorem zC1(S:eg R)(h:GnL R t σ H n)(l:n<=1000):Gn (zGo R n) (fH t) σ H:=λH1 k1 _ k=>h H1 k1 _ λvs H2 k2 e rs=>⟨by rw[e,qAK];lia,λp O=>k _ _ (k2.trans$ Kp.new Kp.refl O) ⟨p,vs,rF,ac,e,λx V=>S _ _ _ (rs x V)$ Kp.new Kp.refl O⟩⟩
theorem vq(h:GnL R t σ H n)(l:n<=1000):Gn c_ (gx t) σ H:=λH1 k1 _ k=>h H1 k1 _ λvs H2 k2 e _=>⟨by rw[e,qAK];lia,λp O=>k _ _ (k2.trans$ Kp.new Kp.refl O)$ zEl ac⟩
theorem xh:Gn c_ zIr σ H:=λH1 _ _ k p O=>k _ _ (Kp.new Kp.refl O)$ zFn ac
theorem zDc(S:eg R)(e:σ[i]?=some (some v))(r:R H v):Gn R (fj i) σ H:=λH1 k1 _ k=>⟨v,e,k v H1 Kp.refl$ S _ _ _ r k1⟩
theorem gu(r:∀H,R H v):Gn R (tC v) σ H:=λH1 _ _ k=>k v H1 Kp.refl$ r H1
theorem zFa :Gn c_ (tC$ .str x) σ H:=gu λ_=>.inl ⟨x,rF⟩
theorem fS{i:Int}:Gn c_ (tC$ .int i) σ H:=gu λ_=>.inr$ .inr$ .inr$ .inl ⟨i,rF⟩
theorem uZ:Gn c_ (tC .non) σ H:=gu λ_=>.inr$ .inl rF
theorem fO(S:eg R)(V:Gn (zE0 R n) ta σ H)(W:Gn (zE0 R m) tb σ H)(l:n+m<=1000):Gn (zE0 R$ n+m) (tOp oU ta tb) σ H:=λH1 k1 _ k=>V H1 k1 _ λx H2 k2 ⟨p,xs,ex,hp,lx,rx⟩=>W H2 (k1.trans k2) _ λy H3 k3 ⟨q,ys,ey,hq,ly,ry⟩=>⟨p,q,xs,ys,ex,ey,k3 _ _ hp ss,hq,by rw[qAK];lia,λr O=>k _ _ ((k2.trans k3).trans$ Kp.new Kp.refl O) ⟨r,xs++ys,rF,ac,by rw[qAN];lia,λu hu=>by
 rcases qAR.mp hu with e|e
 .exact S _ _ _ (rx u e)$ k3.trans$ Kp.new Kp.refl O
 .exact S _ _ _ (ry u e)$ Kp.new Kp.refl O⟩⟩
theorem i8(S:eg R)(V:Gn (zGo R n) ta σ H)(W:Gn (zGo R m) tb σ H)(l:n+m<=1000):Gn (zGo R$ n+m) (tOp oU ta tb) σ H:=λH1 k1 _ k=>V H1 k1 _ λx H2 k2 ⟨p,xs,ex,hp,lx,rx⟩=>W H2 (k1.trans k2) _ λy H3 k3 ⟨q,ys,ey,hq,ly,ry⟩=>⟨p,q,xs,ys,ex,ey,k3 _ _ hp ss,hq,by rw[qAK];lia,λr O=>k _ _ ((k2.trans k3).trans$ Kp.new Kp.refl O) ⟨r,xs++ys,rF,ac,by rw[qAN];lia,λu hu=>by
 rcases qAR.mp hu with e|e
 .exact S _ _ _ (rx u e)$ k3.trans$ Kp.new Kp.refl O
 .exact S _ _ _ (ry u e)$ Kp.new Kp.refl O⟩⟩
theorem wW(S:eg R){j:Int}(V:0<=j)(W:Gn (zE0 R n) ta σ H):Gn (zE0 R n) (tSl (oY K) ta zHf$ jo$ tC$ .int j) σ H:=λH1 k1 _ k=>W H1 k1 _ λx H2 k2 ⟨p,xs,ex,hp,lx,rx⟩=>⟨_,rF,p,xs,ex,SqL.of hp,λr O=>by
 rw[iJ _ V];exact k _ _ (k2.trans$ Kp.new Kp.refl O) ⟨r,_,rF,ac,by rw[qAU];lia,λu hu=>S _ _ _ (rx u$ qBj hu)$ Kp.new Kp.refl O⟩⟩
theorem sX(S:eg R){j:Int}(V:0<=j)(W:Gn (zE0 R n) ta σ H):Gn (zE0 R n) (tSl (oY K) ta (jo$ tC$ .int j) zHf) σ H:=λH1 k1 _ k=>W H1 k1 _ λx H2 k2 ⟨p,xs,ex,hp,lx,rx⟩=>⟨_,rF,p,xs,ex,SqL.of hp,λr O=>by
 rw[zF3 _ V];exact k _ _ (k2.trans$ Kp.new Kp.refl O) ⟨r,_,rF,ac,by rw[qAz];lia,λu hu=>S _ _ _ (rx u$ qCz hu)$ Kp.new Kp.refl O⟩⟩
def Ixd(tb:TE)(σ:St)(H:Hp)(n:Nat):Prop:=∀H1,Kp [] H H1->∀Q:VK,(∀i:Int,0<=i->i<n->Q (.int i) H1)->tb σ H1 Q
theorem zFk{j:Nat}{c:Int}(e:σ[j]?=some (some$ .int c))(n:Nat)(O:0<n):Ixd (tOp (rI (λ_ j=>0<j) λi j=>.int$ i % j) (fj j)$ tC$ .int n) σ H n:=λH1 _ _ k=>⟨_,e,_,_,rF,rF,Ll,k _ (qAw _ Ll)$ qA0 _ Ll⟩
theorem zJx(O:Gn (zGo R n) ta σ H)(S:Ixd tb σ H n):Gn R (tOp (t9 K) ta tb) σ H:=λH1 k1 _ k=>O H1 k1 _ λx H2 k2 ⟨p,xs,ex,V,lx,W⟩=>S H2 (k1.trans k2) _ λi h0 h1=>by
 have hi:i.toNat<xs.length:=Ll
 exact⟨p,xs,i,_,ex,rF,SqL.of V,zEj h0$ qAq hi,k _ _ k2$ W _$ qB8 hi⟩
end
theorem fW{R:Hp->V->Prop}(S:eg R):eg (zGo R n):=λ_ _ _ ⟨a,xs,e,O,l,r⟩ k=>⟨a,xs,e,k _ _ O ss,l,λx W=>S _ _ _ (r x W) k⟩
theorem gG{R:Hp->V->Prop}(S:eg R):eg (zE0 R n):=λ_ _ _ ⟨a,xs,e,O,l,r⟩ k=>⟨a,xs,e,k _ _ O ss,l,λx W=>S _ _ _ (r x W) k⟩
theorem io(h:GnL c_ t σ H n)(l:n<=64:=by decide):Gn dW (fH t) σ H:=zH8 (zC1 zAo h Ll) λ_ _ r=>(r.le$ qAG _).blk l
theorem jI(h:GnL dW t σ H n)(l:n<=64:=by decide):Gn dM (fH t) σ H:=zH8 (zC1 zBh h Ll) λ_ _ r=>(r.le$ qAG _).blks l
theorem gle{R:Hp->V->Prop}(h:Gn (zGo R n) te σ H):Gn (zE0 R n) te σ H:=zH8 h λ_ _ r=>r.le$ qAG _
theorem gbk(h:Gn (zE0 dW n) te σ H)(l:n<=64:=by decide):Gn dM te σ H:=zH8 h λ_ _ r=>r.blks l
theorem pB{R:Hp->V->Prop}{u:TS}(g:Gn R te σ H)(k:∀v H',Kp [] H H'->R H' v->u D (σ.set i$ some v) H'):dA (pb te$ zJy i) u D σ H:=g H Kp.refl _ λv H' k1 r=>k v H' k1 r
theorem vB(h:∀H,c_ H v)(n:∀a,v≠.ref a):Gn dW (tC v) σ H:=gu λH=>.no ⟨h H,λa _ e=>absurd e$ n a⟩
theorem zE8.tup{H:Hp}{a:Addr}{xs:List V}(h:H a=some (.tup xs)):zE8 H (.ref a):=⟨zEl h,λb ys e z=>by cases e;rw[h]at z;cases z⟩
theorem zIm{K:PySem.W.Frag}(O:X.K=K:=by rfl):zCz X (.type "tuple") (λxs H Q=>∃p ys,xs=[.ref p]/\((SqL K H p ys/\∀l,H l=none->Q (.ref l) (upd H l$ .tup ys))\/(SqT K H p ys/\Q (.ref p) H))):=by subst O;exact zF7
section
inductive gq(vs:List V)(H:Hp)(Q:VK)(u_3:XK):Prop
 |mk:∀(c:Int)(l m h:Addr)(ns:List Str)(as:List Addr) (rs:List (List Str)) (hs:List V),vs=[.int c,.ref l,.ref m,.ref h]->Txs H l ns->ns≠[]->ns.length<=20->dB H m as rs->rs.length<=20->(∀r∈rs,r≠[]/\r.length<=20)->0<=c->H h=some (.lst hs)->hs≠[]->hs.length<=40000->(∀v∈hs,TxB H v)->(∀v H',Kp [] H H'->dM H' v->Q v H')->gq vs H Q u_3
abbrev zFr:Stmt:=top 70
theorem zB6:dq ["_law_cell_here","_law_names_here","_law_rows","_law_halves_here","_law_far","_law_thing","_law_one","_law_other","_law_some"] ["_law_cell_here","_law_names_here","_law_rows","_law_halves_here"] (zAg zFr):=fnS
theorem lv(F:Fun K "_law_bad_row" "_law_bad_row" zFr f fd)(T:Txt K mg)(O:Cal P w K mg base "_law_put_in" 2 ["_law_names_here","_law_rows","_law_far"] iC):dw P w K mg base CX0 3 f fd ["_law_cell_here","_law_names_here","_law_rows","_law_halves_here"] gq:=by
 refine F.ok zB6 (λvs H Q E h=>?_) λan A outer s H vs Q E hr h=>?_
 .obtain ⟨c,l,m,h,ns,as,rs,hs,rfl,_⟩:=h;rfl
 .obtain ⟨c,l,m,h,ns,as,rs,hs,rfl,hl,nn,few,R,rl,ad,c0,hh,aj,am,ht,k⟩:=h
  refine⟨_,(@zAc _ _ _ _ _ (by exact(psS (i:=4) zB6.nd$ zAn zBr (pv 0) zAd)) (@zAc _ _ _ _ _ (@zIt _ _ 5 _ _ _ _ (by exact zB6.nd) rR (by walk_at "lc") (@zBd _ _ _ _ _ _ _ zA0 (@zFg _ _ _ _$ zA5 zHn$ zA5 zAd$ zA5 zAu$ zA5 zAu$ zA5 (by exact (zCa$ zAa zAu zAb))$ zA5 (by exact (zAj$ zAa zAu zAb))$ zA5 zBv$ zA5 zAu zCn) (by exact (zAn zBa (pv 4) zAd))$ by exact (fun _ _=>rfl)) rR$ by first| exact Or.inl rF| exact Or.inr rF)
   (@zAc _ _ _ _ _ (by exact (psS (i:=6) zB6.nd$ zBd zA0 (pv 1) (zAn zBa (zAn zBr (pv 4) zAd)$ zAi zAp rR T.z_len zBy$ zAa (pv 1) zAb) fun _ _=>rfl))
   (@zAc _ _ _ _ _ (by exact (psS (i:=7) zB6.nd$ zBd zA0 (pv 1) (zAn zBa (zAn zBr (zAn zBr (pv 4) zAd)$ zAi zAp rR T.z_len zBy$ zAa (pv 1) zAb)$ zAi zAp rR T.z_len zBy$ zAa (pv 1) zAb) fun _ _=>rfl))
   (@zAc _ _ _ _ _ (@zIt _ _ 8 _ _ _ _ (by exact zB6.nd) rR (by walk_at "lc") (@zFg _ _ _ _$ zA5 (by exact (zAn zC0 (pv 2)$ zAj$ zAa (zAj zAb) zAb))$ zA5 (by exact (zAn zC0 (zAj$ zAa (zAj zAb) zAb)$ pv 2))$ zA5 (by exact (zAn zC0 (zAn zC0 (zB1 zCi (pv 2) zCr$ zCd zAd)$ zAj$ zAa (zAj zAb) zAb)$ zB1 zCi (pv 2) (zCd zAd) zCr))$ zA5 (by exact (zAj$ zAa (zAj$ zAa (pv 6)$ zAa (pv 7)$ zAa (pv 6) zAb) zAb))$ zA5 (by exact (zAj$ zAa (zAj$ zAa (pv 6) zAb)$ zAa (zAj$ zAa (pv 6) zAb) zAb)) zCn) rR$ by first| exact Or.inl rF| exact Or.inr rF)
   (@zAc _ _ _ _ _ (@zIt _ _ 8 _ _ _ _ (by exact zB6.nd) rR (by walk_at "lc") (@zAn _ _ _ _ _ _ _ _ zC0 (by exact (pv 8))$ @zFg _ _ _ _$ zA5 (by exact (zAn zC0 (pv 2)$ zAj$ zAa (zAj$ zAa (pv 5) zAb) zAb))$ zA5 (by exact (zAj$ zAa (zAj$ zAa (pv 5)$ zAa (pv 6) zAb) zAb))$ zA5 (by exact (zAj$ zAa (zBd zA0 (zAj$ zAa (zAj$ zAa zAu zAb)$ zAa zAu$ zAa zHn$ zAa zAd zAb) (zAn zBa (pv 4) zAd) fun _ _=>rfl) zAb))$ zA5 (by exact (zA8 zF7 rR T.z_tuple zGa$ zAa (pv 2) zAb)) zCn) rR$ by first| exact Or.inl rF| exact Or.inr rF)
   (@zAc _ _ _ _ _ (@zIt _ _ 8 _ _ _ _ (by exact zB6.nd) rR (by walk_at "lc") (@zAn _ _ _ _ _ _ _ _ zC0 (by exact (pv 8))$ @zFg _ _ _ _$ zA5 (by exact (zBn rF (zBp (sc:=zAg zFr) rF kK) (du.own (x:= "_law_row") du.nil) (zAq$ pv 2) (fun _ _ _ _=>(pgB (i:=0))) (fun _ _ _ _=>zCm) fun _ _ _ _=>(zA8 (zIm (K:=K)) rR T.z_tuple zGa$ zAa (pv 0) zAb)))$ zA5 (by exact (zBd zA0 (pv 3) (zAn zBa (pv 4)$ zAi zAp rR T.z_len zBy$ zAa (pv 3) zAb) fun _ _=>rfl))$ zA5 (by exact (zAj$ zAa (zAj$ zAa (pv 6) zAb)$ zAa (zAj$ zAa (pv 7) zAb) zAb)) zCn) rR$ by first| exact Or.inl rF| exact Or.inr rF)
   (@zAc _ _ _ _ _ (by exact (psS (i:=8) zB6.nd$ zAn zC0 (pv 8)$ zAj$ zAa (zAh O hr rF$ zAa (pv 1)$ zAa (pv 2)$ zAa (pv 4) zAb)$ zAa (zAh O hr rF$ zAa (pv 1)$ zAa (pv 2)$ zAa (zAn zBr (pv 4) zAd) zAb) zAb))$ by exact(zAe$ zAw$ zBd zA0 (pv 8) (zAn zBa (pv 0) zAd) λ_ _=>rfl))))))))),?_⟩
  refine wt ?_;intro _ _ _ _ _ _ _ _ _;have hz:=qAK;have pos:0<ns.length:=qB1.mpr nn;have af:∀{n:Nat},n<=20->(n:Int)<10^100:=λh=>Int.lt_trans (show(_:Int)<1000 by lia) kK;refine⟨_,rF,_,_,rF,rF,⟨dD,kK⟩,?_⟩;refine gN ?_;dsimp only;refine zJx (R:=c_) (n:=8) ?_ ?_ H Kp.refl _ λv5 H1 k1 r5=>?_
  .exact (zC1 zAo (zAf zAo uZ$ zAf zAo fS$ zAf zAo zFa$ zAf zAo zFa$ zAf zAo (vq (zAf zAo zFa zAt) dD)$ zAf zAo (zH8 (zC1 zAo (zAf zAo zFa zAt) dD) λ_ _ ⟨_,_,e,h,_⟩=>by rw[e];exact zFm h)$ zAf zAo xh$ zAf zAo zFa zAt) dD)
  .exact zFk rF 8 dD
  have W:Txs H1 l ns:=k1 _ _ hl ss;obtain⟨x6,_,a6⟩:=zI4 (ns:=ns) (i:=c / 14 / 8 % (ns.length:Int)) (by have:=qAw (c / 14 / 8) (show(ns.length:Int)≠0 by lia);lia)$ qA0 _ Ll;refine⟨_,rF,_,rF,_,_,rF,rF,⟨dD,kK⟩,_,rF,_,_,rF,.inl$ SqL.of W,_,_,rF,rF,by rw[qAD];lia,_,_,_,.str x6,rF,rF,SqL.of W,by rw[qAD];exact a6,?_⟩;obtain⟨x7,_,a7⟩:=zI4 (ns:=ns) (i:=c / 14 / 8 / (ns.length:Int) % (ns.length:Int)) (by have:=qAw (c / 14 / 8 / (ns.length:Int)) (show(ns.length:Int)≠0 by lia);lia)$ qA0 _ Ll;refine⟨_,rF,_,rF,_,_,rF,rF,⟨dD,kK⟩,_,rF,_,_,rF,.inl$ SqL.of W,_,_,rF,rF,⟨by rw[qAD];lia,by rw[qAD];exact af few⟩,_,rF,_,_,rF,.inl$ SqL.of W,_,_,rF,rF,by rw[qAD];lia,_,_,_,.str x7,rF,rF,SqL.of W,by rw[qAD];exact a7,?_⟩;have R1:=R.kp k1;have B2:zE0 dW 20 H1 (.ref m):=⟨m,_,rF,R1.top,by rw[qAD,R1.len];exact rl,R1.blk λr hr=>by have:=(ad r hr).2;lia⟩;have E1:∀{σ:St}{H:Hp},Gn (zE0 dW 1) (fH$ zIf (fH gw) gw) σ H:=gle$ zC1 zBh (zAf zBh (io zAt) zAt) dD;have s6:∀{σ:St}{H:Hp},σ[6]?=some (some$ .str x6)->Gn c_ (fj 6) σ H:=λe=>zDc zAo e$ zHe x6;have s7:∀{σ:St}{H:Hp},σ[7]?=some (some$ .str x7)->Gn c_ (fj 7) σ H:=λe=>zDc zAo e$ zHe x7;refine gN ?_;dsimp only;refine pB (R:=zGo dM 5) ?_ λv8 H2 k2 r8=>?_
  .refine zC1 zA4 (zAf zA4 ?_$ zAf zA4 ?_$ zAf zA4 ?_$ zAf zA4 ?_$ zAf zA4 ?_ zAt) dD
   .exact gbk$ fO zBh (zDc (gG zBh) rF B2) E1 dD
   .exact gbk$ fO zBh E1 (zDc (gG zBh) rF B2) dD
   .exact gbk$ fO zBh (fO zBh (wW zBh dD$ zDc (gG zBh) rF B2) E1 dD) (sX zBh dD$ zDc (gG zBh) rF B2) dD
   .exact jI$ zAf zBh (io$ zAf zAo (s6 rF)$ zAf zAo (s7 rF)$ zAf zAo (s6 rF) zAt) zAt
   .exact jI$ zAf zBh (io$ zAf zAo (s6 rF) zAt)$ zAf zBh (io$ zAf zAo (s6 rF) zAt) zAt
  have R2:=R.kp$ k1.trans k2;have B3:=gG zBh _ _ _ B2 k2;have ag:=zCu r5 k2;refine pB (R:=zGo dM 9) (i8 (n:=5) (m:=4) zA4 ?_ ?_ dD) λv9 H3 k3 r9=>?_
  .exact zDc (fW zA4) rF r8
  .refine zC1 zA4 (zAf zA4 ?_$ zAf zA4 ?_$ zAf zA4 ?_$ zAf zA4 ?_ zAt) dD
   .exact gbk$ fO zBh (zDc (gG zBh) rF B3) (gle$ zC1 zBh (zAf zBh (io$ zAf zAo (zDc zAo rF ag) zAt) zAt) dD) dD
   .exact jI$ zAf zBh (io$ zAf zAo (zDc zAo rF ag)$ zAf zAo (s6 rF) zAt) zAt
   .refine jI$ zAf zBh (zJx (n:=4) ?_ ?_) zAt
    .exact zC1 zBh (zAf zBh (io$ zAf zAo zFa zAt)$ zAf zBh (vB (λ_=>.inl ⟨_,rF⟩) λ_ e=>nomatch e)$ zAf zBh (vB (λ_=>.inr$ .inl rF) λ_ e=>nomatch e)$ zAf zBh (vB (λ_=>.inr$ .inr$ .inr$ .inl ⟨_,rF⟩) λ_ e=>nomatch e) zAt) dD
    .exact zFk rF 4 dD
   .exact λH3 k3 Q k=>⟨_,rF,_,_,rF,.inl ⟨SqL.of$ k3 _ _ R2.top ss,λl hl=>k _ _ (Kp.new Kp.refl hl)$ .no$ zE8.tup ac⟩⟩
  have R3:=R2.kp k3;have ah:=((k1.trans k2).trans k3) _ _ hh ss;refine pB (R:=zGo dM 12) (i8 (n:=9) (m:=3) zA4 ?_ ?_ dD) λao H4 k4 ak=>?_
  .exact zDc (fW zA4) rF r9
  .refine zC1 zA4 (zAf zA4 ?_$ zAf zA4 ?_$ zAf zA4 ?_ zAt) dD
   .intro H4 k4 Q k;have R4:=R3.kp k4;refine⟨_,rF,_,rF,⟨_,SqL.of R4.top⟩,λY hY=>zBc (as.map V.ref) (λi ys τ S=>(∃o0,τ=[o0])/\Kp [] H4 S/\S Y=some (.lst ys)/\ys.length=i/\∀y∈ys,∃t xs,y= .ref t/\S t=some (.tup xs)) ⟨⟨_,rF⟩,Kp.new Kp.refl hY,ac,rF,(λ_ h=>nomatch h)⟩ (λi ys τ S ⟨_,k5,_⟩=>SqL.of$ k5 _ _ R4.top ss) ?_ ?_⟩
    .rintro i v ys τ S hv ⟨⟨o0,rfl⟩,k5,hy,ly,ty⟩;obtain⟨a,r,_,er,rfl,ha⟩:=R4.of hv;have il:=(qAL.mp er).1;refine⟨_,rF,_,_,rF,.inl ⟨SqL.of$ k5 _ _ ha ss,λt ht=>?_⟩⟩;have kt:Kp [] S (upd S t$ .tup$ r.map V.str):=Kp.new Kp.refl ht;refine⟨kt _ _ hy ss,Ll,⟨_,rF⟩,Kp.new (k5.trans kt) hY,ac,by rw[qAN,ly];rfl,λy ae=>?_⟩
     have nY:∀{b xs},upd S t (.tup$ r.map V.str) b=some (.tup xs)->b≠Y:=λh z=>by
      rw[z,kt _ _ hy ss]at h;cases h
     rcases qAR.mp ae with z|z
     .obtain ⟨b,xs,e,hb⟩:=ty y z;have ai:=kt _ _ hb ss;exact⟨b,xs,e,(a_$ nY ai).trans ai⟩
     .exact ⟨t,_,qAO.mp z,(a_$ nY ac).trans ac⟩
    .rintro ys τ S ⟨_,k5,hy,ly,ty⟩;refine k _ _ k5$ .lst Y ys rF hy (by rw[ly,qAD,R4.len];lia) λy ae=>?_;obtain⟨t,xs,e,ht⟩:=ty y ae;rw[e];exact .no$ zE8.tup ht
   .refine zJx (n:=hs.length) ?_ ?_
    .exact zDc (fW zA4) rF ⟨h,hs,rF,ah,rF,λv hv=>((ht v hv).kp0$ (k1.trans k2).trans k3).blks⟩
    .intro H4 k4 Q k;have hp:0<hs.length:=qB1.mpr aj;exact⟨_,rF,_,rF,_,_,rF,.inl$ SqL.of$ k4 _ _ ah ss,_,_,rF,rF,Ll,k _ (qAw _ Ll)$ qA0 _ Ll⟩
   .exact jI$ zAf zBh (io$ zAf zAo (s6 rF) zAt)$ zAf zBh (io$ zAf zAo (s7 rF) zAt) zAt
  refine pB (R:=zGo dM 14) (i8 (n:=12) (m:=2) zA4 ?_ ?_ dD) λap S k5 al=>?_
  .exact zDc (fW zA4) rF ak
  .have aa:=((k1.trans k2).trans k3).trans k4;refine zC1 zA4 (zAf zA4 ?_$ zAf zA4 ?_ zAt) dD
   .intro S k5 Q k;exact⟨_,rF,_,rF,_,rF,l,m,c / 14,ns,as,rs,rF,(aa.trans k5) _ _ hl ss,nn,few,R.kp$ aa.trans k5,rl,ad,qCQ c0 dD,λv H6 k6 t=>k v H6 k6 t.blks⟩
   .intro S k5 Q k;exact⟨_,rF,_,rF,_,rF,_,_,rF,rF,⟨dD,kK⟩,l,m,c / 14 / 2,ns,as,rs,rF,(aa.trans k5) _ _ hl ss,nn,few,R.kp$ aa.trans k5,rl,ad,qCQ (qCQ c0 dD) dD,λv H6 k6 t=>k v H6 k6 t.blks⟩
  refine zJx (R:=dM) (n:=14) ?_ ?_ S Kp.refl _ λv H6 k6 r=>?_
  .exact zDc (fW zA4) rF al
  .exact zFk rF 14 dD
  exact k _ _ (((((k1.trans k2).trans k3).trans k4).trans k5).trans k6) r
end
def zGt(H:Hp)(v:V):Prop:=c_ H v/\∀i,v= .int i->i<0
def Oth(H:Hp)(v:V):Prop:=c_ H v/\∀t xs,v= .ref t->H t=some (.tup xs)->xs.length≠2
def oQ(H:Hp)(v:V):Prop:=c_ H v/\∀x,v= .str x->x≠ "blocks"/\x≠ "behind"/\x≠ "ahead"
inductive fE(H:Hp)(v:V):Prop
 |blk:∀(t:Addr)(b:V),v= .ref t->H t=some (.tup [.str "blocks",b])->dM H b->fE H v
 |num:∀(t:Addr)(x:Str)(n:V),v= .ref t->H t=some (.tup [.str x,n])->(x="behind"\/x="ahead")->zGt H n->fE H v
 |odd:∀(t:Addr)(x n:V),v= .ref t->H t=some (.tup [x,n])->oQ H x->c_ H n->fE H v
 |oth:Oth H v->fE H v
theorem zIg:eg zE8:=λ_ _ _ h k=>h.kp0 k
theorem zEd:eg zGt:=λ_ _ _ h k=>⟨zCu h.1 k,h.2⟩
theorem zC5:eg oQ:=λ_ _ _ h k=>⟨zCu h.1 k,h.2⟩
theorem Oth.kp0(h:Oth H v)(k:Kp [] H H'):Oth H' v:=by
 refine⟨zCu h.1 k,λt xs e z=>?_⟩;subst e;rcases h.1 with⟨_,e⟩|e|⟨_,e⟩|⟨_,e⟩|⟨b,e,y⟩
 .cases e
 .cases e
 .cases e
 .cases e
 .cases e
  rcases y with⟨ys,y⟩|⟨ys,y⟩|⟨ys,y⟩
  .rw [k _ _ y ss]at z;cases z
  .rw [k _ _ y ss]at z;cases z;exact h.2 t _ rF y
  .rw [k _ _ y ss]at z;cases z
theorem zFo:eg Oth:=λ_ _ _ h k=>h.kp0 k
theorem fE.kp0(h:fE H v)(k:Kp [] H H'):fE H' v:=by
 cases h with
 |blk t b e h r=>exact .blk t b e (k _ _ h ss)$ r.kp0 k
 |num t x n e h w r=>exact .num t x n e (k _ _ h ss) w$ zEd _ _ _ r k
 |odd t x n e h w r=>exact .odd t x n e (k _ _ h ss) (zC5 _ _ _ w k)$ zCu r k
 |oth h=>exact .oth$ h.kp0 k
def uX(R S:Hp->V->Prop)(H:Hp)(v:V):Prop:=∃t x y,v= .ref t/\H t=some (.tup [x,y])/\R H x/\S H y
section
variable{R R':Hp->V->Prop}{te ta tb:TE}{t:L2.TA}{σ:St}{H:Hp}{n m:Nat}{K:PySem.W.Frag}
theorem iq(S:eg R)(V:eg R')(h1:Gn R ta σ H)(h2:Gn R' tb σ H):Gn (uX R R') (gx$ zIf ta$ zIf tb gw) σ H:=λH1 k1 _ k=>h1 H1 k1 _ λx H2 k2 r=>h2 H2 (k1.trans k2) _ λy H3 k3 W=>⟨by show(2:Nat)<=sizeLine;decide,λp O=>k _ _ ((k2.trans k3).trans$ Kp.new Kp.refl O) ⟨p,x,y,rF,ac,S _ _ _ r$ k3.trans$ Kp.new Kp.refl O,V _ _ _ W$ Kp.new Kp.refl O⟩⟩
theorem kI(h:∀H,c_ H v)(n:∀a,v≠.ref a):Gn Oth (tC v) σ H:=gu λH=>⟨h H,λt _ e=>absurd e$ n t⟩
theorem hU(h:∀H,c_ H v)(n:∀a,v≠.ref a):Gn zE8 (tC v) σ H:=gu λH=>⟨h H,λt _ e=>absurd e$ n t⟩
theorem iw(h:GnL R t σ H n)(l:n<=1000)(S:n≠2):Gn Oth (gx t) σ H:=λH1 k1 _ k=>h H1 k1 _ λvs H2 k2 e _=>⟨by rw[e,qAK];lia,λp O=>k _ _ (k2.trans$ Kp.new Kp.refl O) ⟨zEl ac,λt xs z y=>by cases z;rw[ac]at y;cases y;lia⟩⟩
theorem rS(h:GnL R t σ H n)(l:n<=1000):Gn Oth (fH t) σ H:=λH1 k1 _ k=>h H1 k1 _ λvs H2 k2 e _=>⟨by rw[e,qAK];lia,λp O=>k _ _ (k2.trans$ Kp.new Kp.refl O) ⟨zFm ac,λt xs z y=>by cases z;rw[ac]at y;cases y⟩⟩
theorem wu:Gn Oth zIr σ H:=λH1 _ _ k p O=>k _ _ (Kp.new Kp.refl O) ⟨zFn ac,λt xs z y=>by cases z;rw[ac]at y;cases y⟩
theorem vv:Gn zE8 zIr σ H:=λH1 _ _ k p O=>k _ _ (Kp.new Kp.refl O) ⟨zFn ac,λt xs z y=>by cases z;rw[ac]at y;cases y⟩
theorem sA(h:GnL R t σ H n)(l:n<=1000):Gn zE8 (gx t) σ H:=λH1 k1 _ k=>h H1 k1 _ λvs H2 k2 e _=>⟨by rw[e,qAK];lia,λp O=>k _ _ (k2.trans$ Kp.new Kp.refl O)$ zE8.tup ac⟩
theorem mS(h:GnL R t σ H n)(l:n<=1000):Gn c_ (fH t) σ H:=λH1 k1 _ k=>h H1 k1 _ λvs H2 k2 e _=>⟨by rw[e,qAK];lia,λp O=>k _ _ (k2.trans$ Kp.new Kp.refl O)$ zFm ac⟩
theorem zJw(h:∀H,c_ H v)(n:∀i,v≠.int i):Gn zGt (tC v) σ H:=gu λH=>⟨h H,λi e=>absurd e$ n i⟩
theorem sq(h:GnL R t σ H n)(l:n<=1000):Gn zGt (gx t) σ H:=λH1 k1 _ k=>h H1 k1 _ λvs H2 k2 e _=>⟨by rw[e,qAK];lia,λp O=>k _ _ (k2.trans$ Kp.new Kp.refl O) ⟨zEl ac,λ_ z=>nomatch z⟩⟩
theorem rP(h:GnL R t σ H n)(l:n<=1000):Gn zGt (fH t) σ H:=λH1 k1 _ k=>h H1 k1 _ λvs H2 k2 e _=>⟨by rw[e,qAK];lia,λp O=>k _ _ (k2.trans$ Kp.new Kp.refl O) ⟨zFm ac,λ_ z=>nomatch z⟩⟩
theorem sZ:Gn zGt zIr σ H:=λH1 _ _ k p O=>k _ _ (Kp.new Kp.refl O) ⟨zFn ac,λ_ z=>nomatch z⟩
theorem zIz(h:∀H,c_ H v)(n:∀x,v= .str x->x≠ "blocks"/\x≠ "behind"/\x≠ "ahead"):Gn oQ (tC v) σ H:=gu λH=>⟨h H,n⟩
theorem uM(h:GnL R t σ H n)(l:n<=1000):Gn oQ (gx t) σ H:=λH1 k1 _ k=>h H1 k1 _ λvs H2 k2 e _=>⟨by rw[e,qAK];lia,λp O=>k _ _ (k2.trans$ Kp.new Kp.refl O) ⟨zEl ac,λ_ z=>nomatch z⟩⟩
theorem wq:Gn oQ zIr σ H:=λH1 _ _ k p O=>k _ _ (Kp.new Kp.refl O) ⟨zFn ac,λ_ z=>nomatch z⟩
theorem qH{j:Nat}{c:Int}(e:σ[j]?=some (some$ .int c))(d n:Nat)(hd:0<d)(O:(d:Int)<10^100)(S:0<n):Ixd (tOp (rI (λ_ j=>0<j) λi j=>.int$ i % j) (tOp (rI (λ_ j=>0<j/\j<10^100) λi j=>.int$ i / j) (fj j)$ tC$ .int d)$ tC$ .int n) σ H n:=λH1 _ _ k=>⟨_,e,_,_,rF,rF,⟨Ll,O⟩,_,_,rF,rF,Ll,k _ (qAw _ Ll)$ qA0 _ Ll⟩
end
theorem vG{R:Hp->V->Prop}(g:Gn R te σ H)(k:∀v H',Kp [] H H'->R H' v->D.rt v H'):wx te D σ H:=g H Kp.refl _ k
theorem neR{K:PySem.W.Frag}{e:Addr}(h1:SqL K H c xs)(h2:SqL K H e [])(h:∀O:Bool,(O=true↔xs≠[])->Q (.bl O) H):dU K 8 false (.ref c) (.ref e) H Q\/dR K true (.ref c) (.ref e) H Q:=by
 by_cases z:xs=[]
 .subst z;exact .inl ⟨c,e,_,_,rF,rF,h1,h2,rF,(λi x y h=>by simp at h),h false ss⟩
 .exact .inr ⟨c,e,_,_,rF,rF,h1,h2,λy=>z$ qBx.mp y,h true$ by simp[z]⟩
theorem nxG(h:D.nx σ H):ma D σ H:=h
theorem tI{i:Int}:c_ H (.int i):=.inr$ .inr$ .inr$ .inl ⟨i,rF⟩
theorem tS :c_ H (.str x):=.inl ⟨x,rF⟩
theorem tN :c_ H .non:=.inr$ .inl rF
theorem tB{b:Bool}:c_ H (.bl b):=.inr$ .inr$ .inl ⟨b,rF⟩
structure PEW(X:Cx)(e:Expr)(t:TE):Prop where
 to:PE X e t
structure PSW(X:Cx)(st:Stmt)(t:TS):Prop where
 to:PS X st t
structure PSZ(X:Cx)(st:List Stmt)(t:TS):Prop where
 to:PSs X st t
section
variable{X:Cx}
theorem dI{t:TE}(h:PE X e t):PEW X e t:=⟨h⟩
theorem eY{e:Stmt}{t:TS}(h:PS X e t):PSW X e t:=⟨h⟩
theorem zBx(O:PEW X e te)(S:PAI X es t)(hs:iL e=true:=by rfl):PAI X (e::es) (zIf te t):=zA5 O.to S hs
theorem zJg(h:PAI X es t):PEW X (.List es pos) (fH t):=⟨zFg h⟩
theorem i7{O}(h:PAI X es t):PEW X (.Tuple es O pos) (gx t):=⟨nr h⟩
theorem iK{a b:Expr}{ta tb:TE}{r:R2}(O:IxR X r)(S:PEW X a ta)(V:PEW X b tb)(hs:mL b):PEW X (.Subscript a b pos) (tOp r ta tb):=⟨zBd O S.to V.to hs⟩
theorem zBe{rest:List Stmt}{t u:TS}(h:PSW X st t)(r:PSZ X rest u):PSZ X (st::rest) (dA t u):=⟨zAc h.to r.to⟩
theorem zEq{t:TS}(h:PSW X st t):PSZ X [st] t:=⟨zAe h.to⟩
theorem zHm:PSZ X [] ma:=⟨zAs⟩
theorem zGh(h:PEW X e te):PSW X (.Return (some e) pos) (wx te):=⟨zAw h.to⟩
theorem gk{c:Expr}{a b:List Stmt}{tc:TT}{t u:TS}(hc:PT X c tc)(O:PSZ X a t)(S:PSZ X b u):PSW X (.If c a b pos) (wV tc t u):=⟨zBk hc O.to S.to⟩
theorem tZ{i:Nat}{pos':Pos}(h1:X.N.Nodup)(h2:X.N[i]?=some x)(h3:Loc X.env.scope x)(h4:PEW X e te)(h5:PySem.swapsWith e (some$ .Name x pos') pos.line X.env=pure false:=by rfl)(h6:X.fn x=true\/List.lookup x X.env.scope.names=some .local:=by first|exact Or.inl rF|exact Or.inr rF):PSW X (.Assign [.Name x pos'] e pos) (pb te$ zJy i):=⟨zIt h1 h2 h3 h4.to h5 h6⟩
end
section
inductive pz(vs:List V)(H:Hp)(Q:VK)(u_3:XK):Prop
 |mk:∀(c:Int)(l m h:Addr)(ns:List Str)(as:List Addr) (rs:List (List Str)) (hs:List V),vs=[.int c,.ref l,.ref m,.ref h]->Txs H l ns->ns.length<=20->dB H m as rs->rs.length<=20->(∀r∈rs,r≠[]/\r.length<=20)->0<=c->H h=some (.lst hs)->(ns≠[]->hs≠[])->hs.length<=40000->(∀v∈hs,TxB H v)->(∀v H',Kp [] H H'->fE H' v->Q v H')->pz vs H Q u_3
abbrev qr:Stmt:=top 71
theorem k_:dq ["_law_cell_here","_law_names_here","_law_rows","_law_halves_here","_law_far","_law_number"] ["_law_cell_here","_law_names_here","_law_rows","_law_halves_here"] (zAg qr):=fnS
theorem vM(F:Fun K "_law_bad" "_law_bad" qr f fd)(T:Txt K mg)(W:Cal P w K mg base "_law_bad_row" 3 ["_law_cell_here","_law_names_here","_law_rows","_law_halves_here"] gq):dw P w K mg base CX0 4 f fd ["_law_cell_here","_law_names_here","_law_rows","_law_halves_here"] pz:=by
 refine F.ok k_ (λvs H Q E h=>?_) λah A outer s H vs Q E hr h=>?_
 .obtain ⟨c,l,m,h,ns,as,rs,hs,rfl,_⟩:=h;rfl
 .obtain ⟨c,l,m,h,ns,as,rs,hs,rfl,hl,few,R,rl,ae,c0,hh,af,aa,ht,k⟩:=h
  refine⟨_,(PSZ.to (zBe (eY$ by exact(psS (i:=4) k_.nd$ zAn zBr (pv 0) zAd)) (zBe (gk (by exact (PW.pt$ zHl (zAr jY (zAn zBa (pv 0) zAd) zAd$ zAv _)$ zGg$ zAr (zEt hr) (pv 1) (zAj zAb)$ zAv _))
    (zEq$ zGh$ i7$ zBx (dI zAu)$ zBx (dI$ by exact(zAh W hr rF$ zAa (pv 4)$ zAa (pv 1)$ zAa (pv 2)$ zAa (pv 3) zAb)) zCn)
    zHm)
   (zBe (tZ (i:=5) (by exact k_.nd) rR (by walk_at "lc")$ iK zA0 (zJg$ zBx (dI$ by exact (zAn zE9 (qS ko zAd)$ zAn zBa (pv 4)$ zAn ki zAd zAd))$ zBx (dI zHn)$ zBx (dI zEs)$ zBx (dI zEs)$ zBx (dI zAu)$ zBx (dI$ by exact (zCa$ zAa zAd zAb))$ zBx (dI$ by exact (zAj zAb))$ zBx (dI zBv) zCn) (dI$ by exact (zAn zBa (pv 4) zAd))$ by exact (fun _ _=>rfl))
   (zBe (gk (by exact (zAr zD8 (zAn zBa (pv 0) zAd) zAd$ zAv _))
    (zEq$ zGh$ dI$ by exact(zCa$ zAa zAu$ zAa (pv 5) zAb))
    zHm)
   (zBe (gk (by exact (zAr zD8 (zAn zBa (pv 0) zAd) zAd$ zAv _))
    (zEq$ zGh$ dI$ by exact(zCa$ zAa zAu$ zAa (pv 5) zAb))
    zHm)
   (zBe (gk (by exact (zAr zD8 (zAn zBa (pv 0) zAd) zAd$ zAv _))
    (zEq$ zGh$ iK zA0 (zJg$ zBx (dI zHn)$ zBx (dI zAu)$ zBx (dI$ by exact(zCa$ zAa zAu zAb))$ zBx (dI$ by exact(zCa$ zAa zAu$ zAa zAd$ zAa zAd zAb))$ zBx (dI$ by exact(zAj$ zAa zAu$ zAa (zAj zAb) zAb))$ zBx (dI zAd)$ zBx (dI$ by exact(zCa zAb))$ zBx (dI zBv) zCn) (dI$ by exact(zAn zBa (pv 4) zAd))$ by exact(λ_ _=>rfl))
    zHm)
   (zBe (gk (by exact (zAr zD8 (zAn zBa (pv 0) zAd) zAd$ zAv _))
    (zEq$ zGh$ i7$ zBx (dI zAu)$ zBx (iK zA0 (zJg$ zBx (dI zHn)$ zBx (dI zAu)$ zBx (dI zAd)$ zBx (dI zBv)$ zBx (dI zAu)$ zBx (dI zEs)$ zBx (dI zAd)$ zBx (dI$ by exact(zCa zAb)) zCn) (dI$ by exact(zAn zBa (pv 4) zAd))$ by exact(λ_ _=>rfl)) zCn)
    zHm)$ zEq$ zGh$ i7$ zBx (iK zA0 (zJg$ zBx (dI zHn)$ zBx (dI zAu)$ zBx (dI zAu)$ zBx (dI zAd)$ zBx (dI$ by exact(zCa$ zAa zAu zAb))$ zBx (dI zEs)$ zBx (dI zAu)$ zBx (dI zBv) zCn) (dI$ by exact(zAn zBa (pv 4) zAd))$ by exact(λ_ _=>rfl))$ zBx (dI$ by exact(zBd zA0 (zAj$ zAa (zAj zAb)$ zAa zAd zAb) (zAn zBa (zAn zBr (pv 4) zAd) zAd) λ_ _=>rfl)) zCn)))))))),?_⟩
  refine xK ?_;intro _ _ _ _ _ _ _ _;have hz:=qAK;refine⟨_,rF,_,_,rF,rF,⟨dD,kK⟩,?_⟩;refine gN ?_;dsimp only;refine qz (λσ H'=>σ=[some (.int c),some (.ref l),some (.ref m),some (.ref h),some (.int$ c / 10),none]/\Kp [] H H') ?_ λkey=>?_
  .rintro σ H1 ⟨rfl,k1⟩;have ad:∀(x:Str),(x="behind"\/x="ahead")->∀(v5:V)(H2:Hp),Kp [] H H2->zGt H2 v5->∀(σ:St),σ[5]?=some (some v5)->gx (zIf (tC$ .str x)$ zIf (fj 5) gw) σ H2 Q:=λx hx v5 H2 k2 r5 σ e5=>iq (R:=λ_ v=>v= .str x) (λ_ _ _ h _=>h) zEd (gu λ_=>rfl) (zDc zEd e5 r5) H2 Kp.refl _ λv S k3 ⟨t,y,z,e,h,ey,rz⟩=>k v S (k2.trans k3)$ .num t x z e (ey▸h) hx rz;refine pB (R:=zGt) (zJx (n:=8) ?_ ?_) λv5 H2 k2 r5=>?_
   .refine zC1 zEd (zAf zEd ?_$ zAf zEd (zJw (λ_=>tN) λ_ e=>nomatch e)$ zAf zEd (zJw (λ_=>tB) λ_ e=>nomatch e)$ zAf zEd (zJw (λ_=>tB) λ_ e=>nomatch e)$ zAf zEd (zJw (λ_=>tS) λ_ e=>nomatch e)$ zAf zEd (sq (zAf zAo fS zAt) dD)$ zAf zEd (rP (R:=c_) zAt dD)$ zAf zEd sZ zAt) dD;intro H2 k2 Q' k';refine⟨_,rF,_,rF,_,_,rF,rF,⟨dD,dD,dD⟩,_,_,rF,rF,(show(0:Int)<10^(58:Int).toNat by decide +kernel),_,_,rF,rF,k' _ _ Kp.refl ⟨tI,λi e=>?_⟩⟩;have:=qAw (c / 10) (show(10:Int)^(58:Int).toNat≠0 by decide +kernel)
    cases e
    lia
   .exact zFk rF 8 dD
   have O:=k1.trans k2;refine⟨_,rF,_,_,rF,rF,dD,rF,_,rF,dE (λc5=>ad _ (.inl rF) _ _ O r5 _ rF) λc5=>?_⟩;refine⟨_,rF,_,_,rF,rF,dD,rF,_,rF,dE (λc6=>ad _ (.inr rF) _ _ O r5 _ rF) λc6=>?_⟩;refine⟨_,rF,_,_,rF,rF,dD,rF,_,rF,dE (λc7=>?_) λc7=>?_⟩
   .refine vG (R:=Oth) (zJx (n:=8) ?_ ?_) λv S k3 r=>k v S (O.trans k3)$ .oth r
    .exact zC1 zFo (zAf zFo (kI (λ_=>tN) λ_ e=>nomatch e)$ zAf zFo (kI (λ_=>tS) λ_ e=>nomatch e)$ zAf zFo (iw (zAf zAo zFa zAt) dD dD)$ zAf zFo (iw (zAf zAo zFa$ zAf zAo fS$ zAf zAo fS zAt) dD dD)$ zAf zFo (rS (zAf zAo zFa$ zAf zAo (mS (R:=c_) zAt dD) zAt) dD)$ zAf zFo (kI (λ_=>tI) λ_ e=>nomatch e)$ zAf zFo (iw (R:=c_) zAt dD dD)$ zAf zFo wu zAt) dD
    .exact zFk rF 8 dD
   refine⟨_,rF,_,_,rF,rF,dD,rF,_,rF,dE (λc8=>?_) λc8=>?_⟩
   .refine vG (R:=uX (λ_ v=>v= .str "blocks") zE8) (iq (λ_ _ _ h _=>h) zIg (gu λ_=>rfl)$ zJx (n:=8) ?_ ?_) λv S k3 ⟨t,x,y,e,h,ex,ry⟩=>k v S (O.trans k3)$ .blk t y e (ex▸h)$ .no ry
    .exact zC1 zIg (zAf zIg (hU (λ_=>tN) λ_ e=>nomatch e)$ zAf zIg (hU (λ_=>tS) λ_ e=>nomatch e)$ zAf zIg (hU (λ_=>tI) λ_ e=>nomatch e)$ zAf zIg vv$ zAf zIg (hU (λ_=>tS) λ_ e=>nomatch e)$ zAf zIg (hU (λ_=>tB) λ_ e=>nomatch e)$ zAf zIg (hU (λ_=>tI) λ_ e=>nomatch e)$ zAf zIg (sA (R:=c_) zAt dD) zAt) dD
    .exact zFk rF 8 dD
   refine nxG ?_;dsimp only
   refine vG (R:=uX oQ c_) (iq zC5 zAo (zJx (n:=8) ?_ ?_)$ zJx (n:=2) ?_ ?_) λv S k3 r=>by
    obtain⟨t,x,y,e,h,ex,ry⟩:=r;exact k v S (O.trans k3)$ .odd t x y e h ex ry
   .exact zC1 zC5 (zAf zC5 (zIz (λ_=>tN) λ_ e=>nomatch e)$ zAf zC5 (zIz (λ_=>tS) λ_ e=>by cases e;decide)$ zAf zC5 (zIz (λ_=>tS) λ_ e=>by cases e;decide)$ zAf zC5 (zIz (λ_=>tI) λ_ e=>nomatch e)$ zAf zC5 (uM (zAf zAo zFa zAt) dD)$ zAf zC5 (zIz (λ_=>tB) λ_ e=>nomatch e)$ zAf zC5 (zIz (λ_=>tS) λ_ e=>by cases e;decide)$ zAf zC5 wq zAt) dD
   .exact zFk rF 8 dD
   .exact zC1 zAo (zAf zAo (mS (R:=c_) zAt dD)$ zAf zAo fS zAt) dD
   .exact qH rF 8 2 dD kK dD
  .refine ⟨_,rF,_,_,rF,rF,dD,_,_,rF,rF,_,rF,dE (λc1=>?_) λc1=>key _ _ ⟨rF,Kp.refl⟩⟩;refine⟨_,rF,(by walk_at"ln"),λe0 qe=>?_⟩;obtain⟨H1,e1,k1,h1⟩:=dJ (o:=.lst []) qe;rw[e1];refine neR (SqL.of$ k1 _ _ hl ss) (SqL.of h1) λbb ag=>⟨_,rF,dE (λc2=>?_) λc2=>key _ _ ⟨rF,k1⟩⟩;have nn:ns≠[]:=λz=>ag.mp c2 (by rw[z];rfl);refine⟨_,rF,_,rF,_,rF,_,rF,c / 10,l,m,h,ns,as,rs,hs,rF,k1 _ _ hl ss,nn,few,R.kp k1,rl,ae,qCQ c0 dD,k1 _ _ hh ss,af nn,aa,λv hv=>(ht v hv).kp0 k1,λv H2 k2 r=>⟨by show(2:Nat)<=sizeLine;decide,λp hp=>?_⟩⟩;have k3:Kp [] H2 (upd H2 p$ .tup [.str "blocks",v]):=Kp.new Kp.refl hp;exact k _ _ ((k1.trans k2).trans k3)$ .blk p v rF ac$ r.kp0 k3
end
theorem tK{bs:List (List Str)}{p:Nat}{B:List Str}(O:bs.flatten.Nodup)(h:bs[i]?=some B)(S:B[p]?=some x):x∉(bs.take i).flatten++B.take p:=by
 have hi:=(qAL.mp h).1
 have e:bs=bs.take i++(B::bs.drop (i+1)):=by
  have h1:=(qBb i bs).symm;rw[qC7 hi]at h1;rw[(qAL.mp h).2]at h1;exact h1
 have V:B=B.take p++(x::B.drop (p+1)):=by
  have W:=(qAL.mp S).1;have h1:=(qBb p B).symm;rw[qC7 W,(qAL.mp S).2]at h1;exact h1
 rw[e,qBn,qBA]at O;generalize (bs.take i).flatten=U at O ⊢;rw[V,qBK,<-qBK]at O;intro hm;exact(qBX.mp O).2.2 x hm x ss rF
theorem mO:∀{l:List (List Str)},(∀r∈l,r.length<=64)->l.flatten.length<=64*l.length
 |[],_=>qAG _
 |r::l,h=>by
  have h1:=h r ss;have h2:=mO (l:=l) λr O=>h r$ qAX _ O;rw[qBA,qAN,qAa];lia
section
inductive h_(vs:List V)(H:Hp)(Q:VK)(u_3:XK):Prop
 |mk:∀(d bl:Addr)(k:Int)(J:JR)(as:List Addr) (bs:List (List Str)) (la:Str->Addr) (L:Str->List Str),vs=[.ref d,.int 1,.ref bl,.int k]->DR H d J.ns la L->(∀n∈J.ns,∀y∈J.ns,n∈J.S y->y∈L n)->dB H bl as bs->bs.length<=64->(∀B∈bs,B.length<=64)->k=(bs.map λB=>(B.length:Int)).sum->(∀bb H',Kp [] H H'->(eR J bs->bb=true)->Q (.bl bb) H')->h_ vs H Q u_3
abbrev zHk:Stmt:=top 60
theorem zDx:dq ["_law_behind_here","_law_benches","_law_rows","_law_length","_law_gone","_law_row","_law_name","_law_after","_law_one"] ["_law_behind_here","_law_benches","_law_rows","_law_length"] (zAg zHk):=fnS
theorem p0(F:Fun K "_law_shows" "_law_shows" zHk f fd)(T:Txt K mg):dw P w K mg base CX0 2 f fd ["_law_behind_here","_law_benches","_law_rows","_law_length"] h_:=by
 refine F.ok zDx (λvs H Q E h=>?_) λax A outer s H vs Q E hr h=>?_
 .obtain ⟨d,bl,k,J,as,bs,la,L,rfl,_⟩:=h;rfl
 .obtain ⟨d,bl,k,J,as,bs,la,L,rfl,D0,ao,R,ay,ad,ek,kk⟩:=h;have hu:=zF2 hr
  refine⟨_,(zAc (psS (i:=4) zDx.nd$ zAj zAb) (zAc (zA7 qAc rF (zAq$ pv 2) (pgN (i:=5) zDx.nd)
    (zAc (zBk (PW.pt$ zEk (zBm$ zBi$ zAi zBg rR T.z_isinstance zAl$ zAa (pv 5)$ zAa (zBw rR T.z_list zCe (v:=.ty "list") rF) zAb)$ zDv$ zAr (ir hr) (pv 5) (zAj zAb)$ zAv _)
     (zAe$ zAw zEs)
     zAs)
    (zAe (zA7 qAc rF (zAq$ pv 5) (pgN (i:=6) zDx.nd)
     (zAc (zBk (PW.pt$ zEk (zEg$ zDa hu (pv 6)$ pv 0)$ zDv$ zAr zFw (pv 6) (pv 4) rR)
      (zAe$ zAw zEs)
      zAs)$ zAe$ zA2$ zD6 qAx qBz qB0 zCb (pv 4)$ zAa (pv 6) zAb)))))
   (zAc (zA7 qAc rF (kJ rF T.z_zip$ zAa (pv 2)$ zAa (zB1 zCi (pv 2) (zCd zAd) zCr) zAb) (zIv rF$ zBf (pgN (i:=5) zDx.nd)$ zBf (pgN (i:=7) zDx.nd) zD5)
    (zAe (zA7 qAc rF (zAq$ pv 5) (pgN (i:=8) zDx.nd)
     (zAe (zBk (zAr (zEt hr) (zBn rF (zBp (sc:=zAg zHk) rF kK) (du.own (x:= "_law_other")$ dtk (i:=0) rF$ dtk (i:=8) rF du.nil) (zAq$ pv 7) (fun _ _ _ _=>(pgB (i:=0))) (fun _ _ _ _=>(zCl$ zEg$ zDa hu (pv 0)$ zB8 hu (pv 1) (pv 2) fun _ _=>rfl)) fun _ _ _ _=>(pv 0)) (zAj zAb)$ zAv _)
      (zAe$ zAw zEs)
      zAs)))))$ zAe$ zAw$ zCs zD8 (zAi (zF8 rF) rR T.z_sum iN$ zAa (zBn rF (zBp (sc:=zAg zHk) rF kK) (du.own (x:="_law_row")$ dtk (i:=1) rF du.nil) (zAq$ pv 2) (λ_ _ _ _=>(pgB (i:=0))) (λ_ _ _ _=>zCm) λ_ _ _ _=>(zAn zBr (zAn zE9 (zAn zCy (zAi (zC3 (K:=K)) rR T.z_len zBy$ zAa (pv 0) zAb)$ pv 1) zAd)$ pv 1)) zAb) (pv 3)$ zAv _))),?_⟩
  refine e_ ?_;intro _ _ _ _;have no:∀{H':Hp},Kp [] H H'->¬eR J bs->Q (.bl false) H':=λk' n=>kk false _ k' λg=>absurd g n
  have gl:∀i p B,bs[i]?=some B->((bs.take i).flatten++B.take p).length<=64*65:=λi p B e=>by
   have h1:=mO (l:=bs.take i) λr hr=>ad r$ qBj hr;have h2:=ad B$ qAJ e;rw[qAU]at h1;rw[qAN,qAU];have:min i bs.length<=64:=Ll
   lia
  refine⟨(by walk_at"ln"),λW ap=>?_⟩;have fg:Fre H W:=ap;have k1:Kp [] H (upd H W$ .lst []):=Kp.new Kp.refl fg;have e1:Txs (upd H W$ .lst []) W (bs.take 0).flatten:=ac;generalize upd H W (.lst [])=H1 at k1 e1;refine⟨_,rF,_,rF,⟨_,SqL.of$ k1 _ _ R.top ss⟩,zA3 (xs:=as.map V.ref) (λi σ H2=>(∃o5 o6 o7 o8:Option V,σ=[some (.ref d),some (.int 1),some (.ref bl),some (.int k),some (.ref W),o5,o6,o7,o8])/\Kp [] H H2/\Txs H2 W (bs.take i).flatten/\∀B∈bs.take i,∀x∈B,x∈J.ns) ⟨⟨_,_,_,_,rF⟩,k1,e1,(λ_ h=>by simp at h)⟩ (λi σ H2 _ ⟨_,k2,_⟩=>SqL.of$ k2 _ _ R.top ss) ?_ ?_⟩
  .rintro i v σ H2 hv ⟨⟨o5,o6,o7,o8,rfl⟩,k2,h2,n2⟩;refine fJ ?_;intro _ _
   have hi:i<bs.length:=by
    have:=(qAL.mp hv).1;rw[qAD,R.len]at this;exact this
   obtain⟨a,B,ea,eB,ev,ha⟩:=R.at hi;rw[ev]at hv
   cases hv
   have mB:=qAJ eB;have ai:=k2 _ _ ha ss;refine⟨_,rF,_,_,_,_,rF,dz.lst ai,zA1,_,rF,dC ?_⟩;refine⟨_,rF,(by walk_at"ln"),λz hz=>?_⟩;have kz:Kp [] H2 (upd H2 z$ .lst []):=Kp.new Kp.refl hz;have ez:upd H2 z (.lst []) z=some (.lst []):=ac;have aj:=kz _ _ h2 ss;generalize upd H2 z (.lst [])=H3 at kz ez aj;have k3:=k2.trans kz;refine zD9 (SqL.of$ kz _ _ ai ss) (SqL.of ez) λbb ae=>⟨_,rF,dE (λc=>no k3 λG=>G.ne B mB$ qCd.mp$ ae.mp c) λc=>?_⟩;have aq:=k3 _ _ ha ss;refine⟨_,rF,_,rF,⟨_,SqL.of aq⟩,zA3 (xs:=B.map V.str) (λp σ O=>(∃o6:Option V,σ=[some (.ref d),some (.int 1),some (.ref bl),some (.int k),some (.ref W),some (.ref a),o6,o7,o8])/\Kp [] H O/\Txs O W ((bs.take i).flatten++B.take p)/\∀x∈B.take p,x∈J.ns) ⟨⟨_,rF⟩,k3,by rw[qC6,qAm];exact aj,(λ_ h=>by simp at h)⟩ (λp σ O _ ⟨_,S,_⟩=>SqL.of$ S _ _ ha ss) ?_ ?_⟩
   .rintro p v σ O hv ⟨⟨o6,rfl⟩,S,h4,n4⟩;refine fJ ?_;intro _ _;obtain⟨x,ex,rfl⟩:=zA9 hv;have mx:=qAJ ex;refine⟨_,rF,_,rF,_,_,rF,dL.k (k:=Sum.inr x)$ S _ _ D0.top ss,_,rF,?_⟩;rw[zJv]
    by_cases xn:x∈J.ns
    .rw [qAV xn];refine dC ?_;refine⟨_,rF,_,rF,_,_,rF,.inl$ SqL.of h4,rF,zDd _,_,rF,?_⟩;rw[qAB qAd,zH5]
     by_cases xg:x∈(bs.take i).flatten++B.take p
     .rw [qAV xg];exact no S λG=>tK G.nd eB ex xg
     .rw [qAZ xg];refine dC ?_;have gl:=gl i p B eB;refine⟨_,rF,.inl ⟨rF,_,SqL.of h4⟩,_,rF,_,_,_,rF,rF,h4,by rw[qAD,qAK];lia,⟨_,rF⟩,Kp.new S fg,?_,λy hy=>?_⟩
      .show upd _ W _ W=some (.lst$ ((bs.take i).flatten++B.take (p+1)).map V.str);rw[ac,zAk ex,<-qBK,qAP (l₁:=(bs.take i).flatten++B.take p)];rfl
      .rw [zAk ex]at hy;rcases qAR.mp hy with z|z
       .exact n4 y z
       .rw [qAO.mp z];exact xn
    .rw [qAZ xn];exact no S λG=>xn$ G.ns B mB x mx
   .rintro σ O ⟨⟨o6,rfl⟩,S,h4,n4⟩;rw[qAD,qAg]at h4 n4;refine⟨⟨_,_,_,_,rF⟩,S,?_,λB' ak=>?_⟩
    .rw [zAk eB,qBn];simpa using h4
    .rw [zAk eB]at ak;rcases qAR.mp ak with z|z
     .exact n2 B' z
     .rw [qAO.mp z];exact n4
  rintro σ H2 ⟨⟨o5,o6,o7,o8,rfl⟩,k2,_,n2⟩;rw[qAD,R.len,qAg]at n2;refine⟨_,rF,_,rF,_,rF,_,_,rF,SqL.of$ k2 _ _ R.top ss,λsl ar=>?_⟩;rw[zF3 _ dD];have es:(as.map V.ref).drop (1:Int).toNat=(as.drop 1).map V.ref:=by rw[qBl];rfl
  rw[es];have k3:Kp [] H2 (upd H2 sl$ .lst$ (as.drop 1).map V.ref):=Kp.new Kp.refl ar;have e3:upd H2 sl (.lst$ (as.drop 1).map V.ref) sl=some (.lst$ (as.drop 1).map V.ref):=ac;generalize upd H2 sl (.lst$ (as.drop 1).map V.ref)=H3 at k3 e3;have K3:=k2.trans k3;refine⟨bl,sl,rF,⟨_,SqL.of$ K3 _ _ R.top ss⟩,⟨_,SqL.of e3⟩,iz (xs:=as.map V.ref) (ys:=(as.drop 1).map V.ref) (λi σ O=>(∃o5 o6 o7 o8:Option V,σ=[some (.ref d),some (.int 1),some (.ref bl),some (.int k),some (.ref W),o5,o6,o7,o8])/\Kp [] H3 O) ⟨⟨_,_,_,_,rF⟩,Kp.refl⟩ (λi σ O ⟨_,S⟩=>⟨SqL.of$ (K3.trans S) _ _ R.top ss,SqL.of$ S _ _ e3 ss⟩) ?_ ?_⟩
  .rintro i v1 v2 σ O t af ag ⟨⟨o5,o6,o7,o8,rfl⟩,S⟩ ht
   have hi:i<bs.length:=by
    have:=(qAL.mp af).1;rw[qAD,R.len]at this;exact this
   have au:i+1<bs.length:=by
    have:=(qAL.mp ag).1;rw[qAD,qAz,R.len]at this;lia
   obtain⟨a,B,ea,eB,ev,ha⟩:=R.at hi;obtain⟨a',B',av,al,az,aw⟩:=R.at au;rw[ev]at af
   cases af
   have e2:((as.drop 1).map V.ref)[i]?=some (.ref a'):=by
    rw[qAY,qCL,qCs,av];rfl
   rw[e2]at ag
   cases ag
   have kt:Kp [] O (upd O t$ .tup [.ref a,.ref a']):=Kp.new Kp.refl ht;refine⟨_,_,rF,.inl$ .inl ac,rF,_,_,rF,_,_,rF,rF,?_⟩;generalize upd O t (.tup [.ref a,.ref a'])=H5 at kt;have K5:=(K3.trans S).trans kt;have ah:=K5 _ _ ha ss;have mB:=qAJ eB;have am:=qAJ al;refine⟨_,rF,_,rF,⟨_,SqL.of ah⟩,zA3 (xs:=B.map V.str) (λp σ H6=>(∃o8:Option V,σ=[some (.ref d),some (.int 1),some (.ref bl),some (.int k),some (.ref W),some (.ref a),o6,some (.ref a'),o8])/\Kp [] H3 H6) ⟨⟨_,rF⟩,S.trans kt⟩ (λp σ H6 _ ⟨_,k6⟩=>SqL.of$ (K3.trans k6) _ _ ha ss) ?_ ?_⟩
   .rintro p v σ H6 hv ⟨⟨o8,rfl⟩,k6⟩;obtain⟨x,ex,rfl⟩:=zA9 hv;have mx:=qAJ ex;have xn:=n2 B mB x mx;have K6:=K3.trans k6;have D6:=D0.kp0 K6;have an:=K6 _ _ aw ss;refine⟨_,rF,_,rF,⟨_,SqL.of an⟩,λY hY=>zBt (B'.map V.str) (λm ys τ H7=>∃zs:List Str,(∃o0,τ=[o0,some (.ref d),some (.str x)])/\ys=zs.map V.str/\zs.length<=m/\(eR J bs->zs=[])/\H7=upd H6 Y (.lst ys)) ⟨[],⟨_,rF⟩,rF,qAG _,λ_=>rfl,rF⟩ (λm ys τ H7 ⟨_,_,_,_,_,z⟩=>by subst z;exact SqL.of$ (Kp.new (M:=[]) Kp.refl hY) _ _ an ss) ?_ ?_⟩
    .rintro m v ys τ H7 hv ⟨zs,⟨o0,rfl⟩,rfl,zl,zg,rfl⟩;obtain⟨y,ey,rfl⟩:=zA9 hv;have my:=qAJ ey;have yn:=n2 B' am y my;have ml:=(qAL.mp ey).1;have aA:=ad B' am;have D7:=D6.kp0$ Kp.new (l:=Y) (o:=.lst$ zs.map V.str) Kp.refl hY;obtain⟨o,g1,g2⟩:=zEm (D7.row x xn) y;refine⟨_,rF,_,rF,_,rF,_,_,rF,D7.get xn,_,o,rF,g1,_,rF,?_⟩;rw[g2]
     by_cases yl:y∈L x
     .rw [qAV yl];exact dC ⟨zs,⟨_,rF⟩,rF,Ll,zg,rF⟩
     .rw [qAZ yl];exact⟨_,rF,ac,by rw[qAD,qAK];lia,zs++[y],⟨_,rF⟩,by rw[qAP];rfl,by rw[qAN,qAn];lia,λG=>absurd (ao x xn y yn$ G.nx i B B' eB al x mx y my) yl,zB7⟩
    .rintro ys τ H7 ⟨zs,_,rfl,zl,zg,rfl⟩;have k7:Kp [] H6 (upd H6 Y$ .lst$ zs.map V.str):=Kp.new Kp.refl hY;have e7:upd H6 Y (.lst$ zs.map V.str) Y=some (.lst$ zs.map V.str):=ac;generalize upd H6 Y (.lst$ zs.map V.str)=H7 at k7 e7;refine⟨(by walk_at"ln"),λq hq=>?_⟩;have k8:Kp [] H7 (upd H7 q$ .lst []):=Kp.new Kp.refl hq;refine neR (SqL.of$ k8 _ _ e7 ss) (SqL.of ac) λbb ae=>⟨_,rF,dE (λc=>no ((K6.trans k7).trans k8) λG=>ae.mp c$ by rw[zg G];rfl) λc=>⟨⟨_,rF⟩,(k6.trans k7).trans k8⟩⟩
   .rintro σ H6 ⟨⟨o8,rfl⟩,k6⟩;exact⟨⟨_,_,_,_,rF⟩,k6⟩
  rintro i σ O _ ⟨⟨o5,o6,o7,o8,rfl⟩,S⟩;have K4:=K3.trans S;have aa:=K4 _ _ R.top ss;refine⟨_,rF,_,rF,⟨_,SqL.of aa⟩,λY hY=>zBc (as.map V.ref) (λm ys τ H5=>(∃o0,τ=[o0,some (.int 1)])/\ys=(((bs.take m).map λB=>(B.length:Int)).map V.int)/\H5=upd O Y (.lst ys)) ⟨⟨_,rF⟩,rF,rF⟩ (λm ys τ H5 ⟨_,_,z⟩=>by subst z;exact SqL.of$ (Kp.new (M:=[]) Kp.refl hY) _ _ aa ss) ?_ ?_⟩
  .rintro m v ys τ H5 hv ⟨⟨o0,rfl⟩,rfl,rfl⟩
   have hi:m<bs.length:=by
    have:=(qAL.mp hv).1;rw[qAD,R.len]at this;exact this
   obtain⟨a,B,ea,eB,ev,ha⟩:=R.at hi;rw[ev]at hv
   cases hv
   have ah:=(Kp.new (M:=[]) (l:=Y) (o:=.lst$ ((bs.take m).map λB=>(B.length:Int)).map V.int) Kp.refl hY) _ _ (K4 _ _ ha ss) ss;refine⟨_,rF,_,_,rF,.inl$ SqL.of ah,_,rF,_,_,rF,rF,_,_,rF,rF,_,rF,_,_,rF,rF,⟨dD,kK⟩,ac,?_,⟨_,rF⟩,?_,zB7⟩
   .rw [qAD,qAD,qAU,qAK];lia
   .rw [zAk eB,qAP,qAP,qAD];show _++[V.int (((B.length:Int)+1-1) / 1)]=_++[V.int (B.length:Int)];rw[Int.add_sub_cancel,Int.ediv_one]
  .rintro ys τ H5 ⟨_,rfl,rfl⟩;rw[qAD,R.len,qAg];have k5:Kp [] O (upd O Y$ .lst$ (bs.map λB=>(B.length:Int)).map V.int):=Kp.new Kp.refl hY;have e5:upd O Y (.lst$ (bs.map λB=>(B.length:Int)).map V.int) Y=some (.lst$ (bs.map λB=>(B.length:Int)).map V.int):=ac;generalize upd O Y (.lst$ (bs.map λB=>(B.length:Int)).map V.int)=H5 at k5 e5;refine⟨Y,_,rF,SqL.of e5,_,rF,rF,?_⟩;rw[<-ek,qAV rF];exact kk true H5 (K4.trans k5) λ_=>rfl
end
end My
namespace L2
open PySem PySem.Spec PyProof.Rows
open AutoSeq1 (wpAny_loadPart')
theorem jm(a:Addr)(O:Obj)(S:O.cls= .type "dict")(b:Str)(u:Tok) :
  Meets (Builtin.«dict.__ne__» ⟨[.ref a,.str b u],[]⟩) (λ_ R s=>s.heap.get? a=some O/\R (.ok$ .ret .notImplemented) s) :=
 .of_wp λP w A R s ⟨V,q⟩=>by
  have ta:s.TypeIs (.ref a) "dict":= ⟨_,V,S⟩;unfold Builtin.«dict.__ne__»;show wpAny _ _ (Builtin.Dict.dictSlotArgs "__ne__" ⟨[.ref a,.str b u],[]⟩ >>= _) _ _ s;unfold Builtin.Dict.dictSlotArgs;refine qAA$ qAA$ wpAny_notOrdered_dict ta ?_;show wpAny _ _ (pure ((Value.ref a,[Value.str b u]):Value×List Value) >>= _) _ _ s;refine qAA$ qAE$ qAE ?_;refine qAA$ qCP (qBp s b u) qC4 ?_;rw[qAC ss];exact qAA$ qBD$ qAE ⟨_,rF,q⟩
theorem jA(b:Str)(u:Tok)(l:Addr)(O:Obj)(es:Array DictEntry)(ep:Nat)(S:O.data= .dict es ep) :
  Meets (Builtin.«str.__ne__» ⟨[.str b u,.ref l],[]⟩) (λ_ R s=>s.heap.get? l=some O/\R (.ok$ .ret .notImplemented) s):=by
 obtain⟨c,dd,V,sl⟩:=O;simp only at S;subst S;exact .of_wp λprog w A R s h=>by obtain⟨hp,g,d,tk,os⟩:=s;obtain⟨W,h⟩:=h;wp_walk using wpAny_loadPart' W,qB4 W;exact⟨_,rF,h⟩
theorem jH{A:Around}{s:Shared}{l:Addr}{O:Obj}{es:Array DictEntry}{ep:Nat}(b:Str)(u:Tok)(V:s.heap.get? l=some O)(W:O.cls= .type "dict")(da:O.data= .dict es ep)(hu:A.units<cLine):SeqAt.RcNeAt A s (.ref l) (.str b u) true:=λprog w E Q h=>
 SeqAt.rc_ne_decline_or (k:=false) ⟨_,V,W⟩ (qBp s b u) dD qC4 F.slot_dict_ne F.slot_str_ne_refl
  (λ_ S=>qBT F.slot_dict_ne ⟨_,V,W⟩ F.entry_dict_ne (F.args_dict_ne_2 _ _) (jm l O W b u) ⟨V,S⟩)
  (λ_ S=>qBT F.slot_str_ne_refl (qBp s b u) F.entry_str_ne (F.args_str_ne_2 _ _) (jA b u l O es ep da) ⟨V,S⟩)
  (λ_ S=>qCM (rfl:isSame (.ref l) (.str b u)=pure false) S) (.inr hu) h
section
variable{X:Cx}
theorem t_(V:X.A.units<cLine):OpR X (compareOp .NotEq) (λx y H Q=>∃z,y= .str z/\c_ H x/\Q (.bl$ !decide (x= .str z)) H):=by
 intro pins s σ H x y v u Q I O S h;obtain⟨z,rfl,t,q⟩:=h;rcases t with⟨x,rfl⟩|rfl|⟨b,rfl⟩|⟨i,rfl⟩|⟨a,rfl,t⟩
 .exact zFu pins s σ H _ _ v u Q I O S ⟨rF,q⟩
 .exact zFu pins s σ H _ _ v u Q I O S ⟨rF,q⟩
 .exact zFu pins s σ H _ _ v u Q I O S ⟨rF,q⟩
 .exact zFu pins s σ H _ _ v u Q I O S ⟨rF,q⟩
 .cases O
  obtain⟨tk,rfl⟩:=S
  have q:Q (.bl true) H:=by
   rw[qAZ λz=>nomatch z]at q;exact q
  rcases t with⟨xs,t⟩|⟨xs,t⟩|⟨W,t⟩
  .obtain ⟨its,r,pl,hz⟩:=I.list$ SqL.of t;exact SeqAt.RcNeAt.list_str z tk pl.isList V X.prog X.w X.xe _ ⟨.bl true,H,I,rF,q⟩
  .obtain ⟨its,r,pl,hz⟩:=I.tuple$ SqT.of t;exact SeqAt.RcNeAt.tuple_str z tk (show s.heap.IsTuple a its.toArray from pl) V X.prog X.w X.xe _ ⟨.bl true,H,I,rF,q⟩
  .obtain ⟨z1,n1,vs,r1,o1,es,ep,g1,c1,d1,k1,p1,aa⟩:=gm I.hok$ show Rd H a (.dK W)from .inl t;exact jH z tk g1 c1.1 d1 V X.prog X.w X.xe _ ⟨.bl true,H,I,rF,q⟩
end
end L2
namespace My
open PySem L2
variable{H:Hp}{v:V}
section
variable{K:PySem.W.Frag}
theorem qO:PySem.W.kitOne K (.type "NoneType") (.type "str")=some false:=by rfl
theorem pE:PySem.W.kitOne K (.type "bool") (.type "str")=some false:=by rfl
theorem rg:PySem.W.kitOne K (.type "int") (.type "str")=some false:=by rfl
theorem px:PySem.W.kitOne K (.type "list") (.type "str")=some false:=by rfl
theorem p_:PySem.W.kitOne K (.type "tuple") (.type "str")=some false:=by rfl
theorem rp:PySem.W.kitOne K (.type "dict") (.type "str")=some false:=by rfl
theorem vY:PySem.W.kitOne K (.type "NoneType") (.type "list")=some false:=by rfl
theorem vE:PySem.W.kitOne K (.type "bool") (.type "list")=some false:=by rfl
theorem ww:PySem.W.kitOne K (.type "int") (.type "list")=some false:=by rfl
theorem vx:PySem.W.kitOne K (.type "str") (.type "list")=some false:=by rfl
theorem vm:PySem.W.kitOne K (.type "tuple") (.type "list")=some false:=by rfl
theorem vR:PySem.W.kitOne K (.type "dict") (.type "list")=some false:=by rfl
theorem vO:PySem.W.kitOne K (.type "NoneType") (.type "tuple")=some false:=by rfl
theorem u_:PySem.W.kitOne K (.type "bool") (.type "tuple")=some false:=by rfl
theorem vh:PySem.W.kitOne K (.type "int") (.type "tuple")=some false:=by rfl
theorem u8:PySem.W.kitOne K (.type "str") (.type "tuple")=some false:=by rfl
theorem vA:PySem.W.kitOne K (.type "list") (.type "tuple")=some false:=by rfl
theorem wm:PySem.W.kitOne K (.type "dict") (.type "tuple")=some false:=by rfl
end
theorem oS{K:PySem.W.Frag}(h:c_ H v):∃t b,dz K H v t/\PySem.W.kitOne K t (.type "str")=some b/\(b=true↔∃x,v= .str x):=by
 rcases h with⟨x,rfl⟩|rfl|⟨x,rfl⟩|⟨x,rfl⟩|⟨a,rfl,⟨xs,h⟩|⟨xs,h⟩|⟨xs,h⟩⟩
 .exact ⟨_,true,dz.str x,zA1,ss⟩
 .exact ⟨_,false,dz.non,qO,ss⟩
 .exact ⟨_,false,dz.bl x,pE,ss⟩
 .exact ⟨_,false,dz.int x,rg,ss⟩
 .exact ⟨_,false,dz.lst h,px,ss⟩
 .exact ⟨_,false,dz.tup h,p_,ss⟩
 .exact ⟨_,false,dz.dK h,rp,ss⟩
theorem zG7{K:PySem.W.Frag}(h:zE8 H v):∃t,dz K H v t/\PySem.W.kitOne K t (.type "list")=some false:=by
 obtain⟨h,n⟩:=h;rcases h with⟨x,rfl⟩|rfl|⟨x,rfl⟩|⟨x,rfl⟩|⟨a,rfl,⟨xs,h⟩|⟨xs,h⟩|⟨xs,h⟩⟩
 .exact ⟨_,dz.str x,vx⟩
 .exact ⟨_,dz.non,vY⟩
 .exact ⟨_,dz.bl x,vE⟩
 .exact ⟨_,dz.int x,ww⟩
 .exact absurd h$ n a xs rF
 .exact ⟨_,dz.tup h,vm⟩
 .exact ⟨_,dz.dK h,vR⟩
theorem Oth.is{K:PySem.W.Frag}(h:Oth H v):(∃t,dz K H v t/\PySem.W.kitOne K t (.type "tuple")=some false)\/∃a xs,v= .ref a/\H a=some (.tup xs)/\xs.length≠2:=by
 obtain⟨h,n⟩:=h;rcases h with⟨x,rfl⟩|rfl|⟨x,rfl⟩|⟨x,rfl⟩|⟨a,rfl,⟨xs,h⟩|⟨xs,h⟩|⟨xs,h⟩⟩
 .exact .inl ⟨_,dz.str x,u8⟩
 .exact .inl ⟨_,dz.non,vO⟩
 .exact .inl ⟨_,dz.bl x,u_⟩
 .exact .inl ⟨_,dz.int x,vh⟩
 .exact .inl ⟨_,dz.lst h,vA⟩
 .exact .inr ⟨a,xs,rF,h,n a xs rF h⟩
 .exact .inl ⟨_,dz.dK h,wm⟩
inductive d_(J:JR)(H:Hp)(v:V):Prop
 |mk:∀(t a:Addr)(as:List Addr) (bs:List (List Str)),v= .ref t->H t=some (.tup [.str "blocks",.ref a])->dB H a as bs->eR J bs->d_ J H v
theorem ii:∀{r O:List Str},r.map V.str=O.map V.str->r=O
 |[],[],_=>rfl
 |[],_::_,h=>nomatch h
 |_::_,[],h=>nomatch h
 |x::r,y::O,h=>by
  injection h with h1 h2;injection h1 with h1;rw[h1,ii h2]
theorem dB.inj{a:Addr}{as S:List Addr}{bs O:List (List Str)}(R:dB H a as bs)(R':dB H a S O):bs=O:=by
 have h1:as.map V.ref=S.map V.ref:=by
  have:=R.top.symm.trans R'.top;injection this with this;injection this
 have l:bs.length=O.length:=by
  have:=qAl List.length h1;rw[qAD,qAD,R.len,R'.len]at this;exact this
 refine List.ext_getElem? λi=>?_
 by_cases hi:i<bs.length
 .obtain ⟨b,r,e1,e2,e3,h⟩:=R.at hi;obtain⟨b',r',ad,W,aa,h'⟩:=R'.at$ l▸hi;rw[h1,aa]at e3
  cases e3
  rw[h]at h';injection h' with h';injection h' with h';rw[e2,W,ii h']
 .rw [qC0 Ll,qC0 Ll]
def isS(v:V):Bool:=match v with
 | .str _=>true
 |_=>false
theorem mV :isS v=true↔∃x,v= .str x:=by
 cases v<;>simp[isS]
theorem mi:∀(ys:List V),(ys.filter λv=>!isS v)=[]->∃r:List Str,ys=r.map V.str
 |[],_=>⟨[],rF⟩
 |y::ys,h=>by
  rw[qBF]at h
  cases c:isS y with
  |false=>rw[c]at h;simp at h
  |true=>
   rw[c]at h;obtain⟨x,rfl⟩:=mV.mp c;obtain⟨r,e⟩:=mi ys (by simpa using h);exact⟨x::r,by rw[e];rfl⟩
theorem tj(r:List Str):((r.map V.str).filter λv=>!isS v)=[]:=by
 rw[List.filter_eq_nil_iff];intro v O;obtain⟨x,_,rfl⟩:=qAe.mp O;simp[isS]
theorem mD :∀(xs:List V),(∀x∈xs,∃(b:Addr)(r:List Str),x= .ref b/\H b=some (.lst$ r.map V.str)/\r.length<=64)->∃(as:List Addr) (rs:List (List Str)),xs=as.map V.ref/\as.length=rs.length/\(∀r∈rs,r.length<=64)/\∀(i:Nat)(a:Addr)(r:List Str),as[i]?=some a->rs[i]?=some r->H a=some (.lst$ r.map V.str)
 |[],_=>⟨[],[],rF,rF,(λ_ h=>nomatch h),(λ_ _ _ h=>nomatch h)⟩
 |x::xs,h=>by
  obtain⟨b,r,rfl,W,l⟩:=h x ss;obtain⟨as,rs,e,ll,hr,hh⟩:=mD xs λy hy=>h y$ qAX _ hy;refine⟨b::as,r::rs,by rw[e];rfl,by simp[ll],λq hq=>?_,λi a q O S=>?_⟩
  .rcases qAT.mp hq with z|z
   .rw [z];exact l
   .exact hr q z
  .cases i with
   |zero=>cases O;cases S;exact W
   |succ i=>exact hh i a q O S
section
variable{P:Program}{w:World}{K:PySem.W.Frag}{mg:Str->Option Value}{base:Heap}{C:Addr}
inductive fh(vs:List V)(H:Hp)(Q:VK)(u_3:XK):Prop
 |mk:∀(d:Addr)(v:V)(J:JR)(la:Str->Addr)(L:Str->List Str),vs=[.ref d,v]->DR H d J.ns la L->(∀n∈J.ns,∀y∈J.ns,n∈J.S y->y∈L n)->fE H v->(∀bb H',Kp [] H H'->(d_ J H v->bb=true)->Q (.bl bb) H')->fh vs H Q u_3
abbrev zDu:Stmt:=top 72
theorem zFe:dq ["_law_behind_here","_law_paper","_law_row","_law_length"] ["_law_behind_here","_law_paper"] (zAg zDu):=fnS
theorem j7{f:Addr}{fd:FuncData}(F:Fun K "_law_is_paper" "_law_is_paper" zDu f fd)(T:Txt K mg)(W:Cal P w K mg base "_law_shows" 2 ["_law_behind_here","_law_benches","_law_rows","_law_length"] h_):dw P w K mg base CX0 3 f fd ["_law_behind_here","_law_paper"] fh:=by
 refine F.ok zFe (λvs H Q E h=>?_) λao A outer s H vs Q E hr h=>?_
 .obtain ⟨d,v,J,la,L,rfl,_⟩:=h;rfl
 .obtain ⟨d,v,J,la,L,rfl,D0,aj,hv,kk⟩:=h;have hu:=hu0 hr
  refine⟨_,(zAc (zBk (PW.pt$ zEk (zBm$ zBi$ zAi zBg rR T.z_isinstance zAl$ zAa (pv 1)$ zAa (zBw rR T.z_tuple zGa (v:=.ty "tuple") rF) zAb)$ zEk (zAr zFu (zAi zAp rR T.z_len zBy$ zAa (pv 1) zAb) zAd$ zAv _)$ zEk (zAr (t_ hu) (zBd zDb (pv 1) zAd λ_ _=>rfl) zAu$ zAv _)$ zDv$ zBm$ zBi$ zAi zBg rR T.z_isinstance zAl$ zAa (zBd zDb (pv 1) zAd λ_ _=>rfl)$ zAa (zBw rR T.z_list zCe (v:=.ty "list") rF) zAb) (zAe$ zAw zEs) zAs) (zAc (zA7 qAc rF (zAq$ zBd zDb (pv 1) zAd fun _ _=>rfl) (pgN (i:=2) zFe.nd)
    (zAe (zBk (PW.pt$ zEk (zBm$ zBi$ zAi zBg rR T.z_isinstance zAl$ zAa (pv 2)$ zAa (zBw rR T.z_list zCe (v:=.ty "list") rF) zAb)$ zDv$ zAr (zEt hr) (zBn rF (zBp (sc:=zAg zDu) rF kK) (du.own (x:= "_law_name") du.nil) (zAq$ pv 2) (fun _ _ _ _=>(pgB (i:=0))) (fun _ _ _ _=>(zCl$ zBm$ zBi$ zAi (nM (K:=K)) rR T.z_isinstance zAl$ zAa (pv 0)$ zAa (zBw rR T.z_str iZ (v:=.ty "str") rF) zAb)) fun _ _ _ _=>(pv 0)) (zAj zAb)$ zAv _)
     (zAe$ zAw zEs)
     zAs)))
   (zAc (psS (i:=3) zFe.nd$ zAi (zF8 rF) rR T.z_sum iN$ zAa (zBn rF (zBp (sc:=zAg zDu) rF kK) (du.own (x:= "_law_row") du.nil) (zAq$ zBd zDb (pv 1) zAd fun _ _=>rfl) (fun _ _ _ _=>(pgB (i:=0))) (fun _ _ _ _=>zCm) fun _ _ _ _=>(zAi (zC3 (K:=K)) rR T.z_len zBy$ zAa (pv 0) zAb)) zAb)$ zAe$ zAw$ zAh W hr rF$ zAa (pv 0)$ zAa zAd$ zAa (zBd zDb (pv 1) zAd λ_ _=>rfl)$ zAa (pv 3) zAb))),?_⟩
  refine e_ ?_;intro _ _ _ _;have hz:=qAK;have no:∀{H':Hp},Kp [] H H'->¬d_ J H v->Q (.bl false) H':=λk' n=>kk false _ k' λg=>absurd g n;have two:∀(t:Addr)(x y:V),v= .ref t->H t=some (.tup [x,y])->c_ H x->(x= .str "blocks"->c_ H y/\True)->True:=λ_ _ _ _ _ _ _=>trivial
  cases hv with
  |oth o=>
   have ng:¬d_ J H v:=λ⟨t,a,as,bs,e,S,_,_⟩=>o.2 t _ e S rF;rcases o.is (K:=K)with⟨t,ty,kt⟩|⟨a,xs,rfl,ha,n2⟩
   .exact ⟨_,rF,_,_,_,_,rF,ty,kt,_,rF,no Kp.refl ng⟩
   .refine ⟨_,rF,_,_,_,_,rF,dz.tup ha,zA1,_,rF,dC ?_⟩;refine⟨_,rF,_,_,rF,.inr$ SqT.of ha,rF,_,rF,?_⟩;rw[qAZ λz=>n2$ by injection z with z;lia];exact no Kp.refl ng
  |odd t x n e S wd th=>
   subst e
   have ng:¬d_ J H (.ref t):=λ⟨t',a,as,bs,e,O,_,_⟩=>by
    cases e;rw[S]at O;cases O;exact(wd.2 _ rF).1 rF
   refine⟨_,rF,_,_,_,_,rF,dz.tup S,zA1,_,rF,dC ?_⟩;refine⟨_,rF,_,_,rF,.inr$ SqT.of S,rF,_,rF,dC ?_⟩;refine⟨_,rF,_,_,_,_,rF,rF,SqT.of S,rF,_,rF,wd.1,_,rF,?_⟩;rw[qAZ λz=>(wd.2 _ z).1 rF];exact no Kp.refl ng
  |num t x n e S wd nb=>
   subst e;have ae:x≠ "blocks":= by rcases wd with rfl|rfl<;>decide
   have ng:¬d_ J H (.ref t):=λ⟨t',a,as,bs,e,O,_,_⟩=>by
    cases e;rw[S]at O;cases O;exact ae rF
   refine⟨_,rF,_,_,_,_,rF,dz.tup S,zA1,_,rF,dC ?_⟩;refine⟨_,rF,_,_,rF,.inr$ SqT.of S,rF,_,rF,dC ?_⟩;refine⟨_,rF,_,_,_,_,rF,rF,SqT.of S,rF,_,rF,.inl ⟨x,rF⟩,_,rF,?_⟩;rw[qAZ λz=>ae$ by injection z];exact no Kp.refl ng
  |blk t b e S hb=>
   subst e;refine⟨_,rF,_,_,_,_,rF,dz.tup S,zA1,_,rF,dC ?_⟩;refine⟨_,rF,_,_,rF,.inr$ SqT.of S,rF,_,rF,dC ?_⟩;refine⟨_,rF,_,_,_,_,rF,rF,SqT.of S,rF,_,rF,.inl ⟨_,rF⟩,_,rF,?_⟩;rw[qAV rF];refine dC ?_
   cases hb with
   |no n=>
    obtain⟨ty,h1,h2⟩:=zG7 (K:=K) n
    exact⟨_,rF,_,_,_,_,rF,rF,SqT.of S,rF,_,_,_,_,rF,h1,h2,_,rF,no Kp.refl λ⟨t',a,as,bs,e,O,R,_⟩=>by
     cases e;rw[S]at O;cases O;exact n.2 a _ rF R.top⟩
   |lst a xs e ha af hx=>
    subst e;refine⟨_,rF,_,_,_,_,rF,rF,SqT.of S,rF,_,_,_,_,rF,dz.lst ha,zA1,_,rF,dC ?_⟩
    have ag:∀{i:Nat}{x:V},xs[i]?=some x->(∀(b:Addr)(r:List Str),x= .ref b->H b≠some (.lst$ r.map V.str))->¬d_ J H (.ref t):=λe n ⟨t',a',as,bs,e',O,R,_⟩=>by
     cases e';rw[S]at O;cases O
     have:=ha.symm.trans R.top;injection this with this;injection this with this;rw[this]at e;obtain⟨b,r,_,_,e2,hb⟩:=R.of e;exact n b r e2 hb
    refine⟨_,rF,_,_,_,_,rF,rF,SqT.of S,rF,_,rF,⟨_,SqL.of ha⟩,zA3 (xs:=xs) (λi σ H2=>(∃o2 o3:Option V,σ=[some (.ref d),some (.ref t),o2,o3])/\Kp [] H H2/\∀x∈xs.take i,∃(b:Addr)(r:List Str),x= .ref b/\H b=some (.lst$ r.map V.str)/\r.length<=64) ⟨⟨_,_,rF⟩,Kp.refl,(λ_ h=>by simp at h)⟩ (λi σ H2 _ ⟨_,k2,_⟩=>SqL.of$ k2 _ _ ha ss) ?_ ?_⟩
    .rintro i v σ H2 hv ⟨⟨o2,o3,rfl⟩,k2,n2⟩;have mv:=qAJ hv
     cases hx v mv with
     |no n=>
      obtain⟨ty,h1,h2⟩:=zG7 (K:=K)$ n.kp0 k2;exact⟨_,rF,_,_,_,_,rF,h1,h2,_,rF,no k2$ ag hv λb r e=>n.2 b _ e⟩
     |lst b ys e hb lb tb=>
      subst e;have ad:=k2 _ _ hb ss;refine⟨_,rF,_,_,_,_,rF,dz.lst ad,zA1,_,rF,dC ?_⟩;refine⟨_,rF,_,rF,⟨_,SqL.of ad⟩,λY hY=>zBt ys (λm zs τ H7=>(∃o0,τ=[o0])/\zs=(ys.take m).filter (λv=>!isS v)/\H7=upd H2 Y (.lst zs)) ⟨⟨_,rF⟩,rF,rF⟩ (λm zs τ H7 ⟨_,_,z⟩=>by subst z;exact SqL.of$ (Kp.new (M:=[]) Kp.refl hY) _ _ ad ss) ?_ ?_⟩
      .rintro m u zs τ H7 aa ⟨⟨o0,rfl⟩,rfl,rfl⟩;have k7:Kp [] H2 (upd H2 Y$ .lst$ (ys.take m).filter λv=>!isS v):=Kp.new Kp.refl hY;obtain⟨ty,bb,h1,h2,h3⟩:=oS (K:=K)$ zCu (tb u$ qAJ aa)$ k2.trans k7
       have ak:bb=isS u:=by
        rw[qB5,h3,mV]
       subst ak;have ml:=(qAL.mp aa).1;have h6:=qBe (λv=>!isS v)$ ys.take m;rw[qAU]at h6;refine⟨_,rF,_,_,_,_,rF,h1,h2,_,rF,?_⟩
       cases c:isS u with
       |true=>exact⟨⟨_,rF⟩,by rw[zAk aa,qBY,qBF,c];simp,rF⟩
       |false=>exact⟨_,rF,ac,Ll,⟨_,rF⟩,by rw[zAk aa,qBY,qBF,c];rfl,zB7⟩
      .rintro zs τ H7 ⟨_,rfl,rfl⟩;rw[qAg];obtain⟨H7,e7,k7,h7⟩:=dJ (o:=.lst$ ys.filter λv=>!isS v) hY;rw[e7];refine⟨(by walk_at"ln"),λq hq=>?_⟩;obtain⟨H8,e8,k8,h8⟩:=dJ (o:=.lst []) hq;rw[e8];have K8:=k2.trans$ k7.trans k8;refine neR (SqL.of$ k8 _ _ h7 ss) (SqL.of h8) λbb ah=>⟨_,rF,dE (λc=>no K8$ ag hv λb' r e h=>?_) λc=>⟨⟨_,_,rF⟩,K8,λx ai=>?_⟩⟩
       .cases e
        rw[hb]at h;injection h with h;injection h with h;exact ah.mp c (by rw[h];exact tj r)
       .rw [zAk hv]at ai;rcases qAR.mp ai with z|z
        .exact n2 x z
        .obtain ⟨r,er⟩:=mi ys (by by_cases z:(ys.filter λv=>!isS v)=[];exact z;exact absurd (ah.mpr z) c);rw[er]at hb lb;exact⟨b,r,qAO.mp z,hb,by rw[qAD]at lb;exact lb⟩
    rintro σ H2 ⟨⟨o2,o3,rfl⟩,k2,n2⟩;rw[qAg]at n2;obtain⟨as,bs,rfl,ll,al,rr⟩:=mD xs n2;have R:dB H a as bs:=⟨ha,ll,rr⟩;rw[qAD,ll]at af;have am:=k2 _ _ S ss;have R2:=R.kp k2;refine⟨_,rF,_,_,_,_,rF,rF,SqT.of am,rF,_,rF,⟨_,SqL.of R2.top⟩,λY hY=>zBc (as.map V.ref) (λm ys τ H5=>(∃o0,τ=[o0])/\ys=(((bs.take m).map λB=>(B.length:Int)).map V.int)/\H5=upd H2 Y (.lst ys)) ⟨⟨_,rF⟩,rF,rF⟩ (λm ys τ H5 ⟨_,_,z⟩=>by subst z;exact SqL.of$ (Kp.new (M:=[]) Kp.refl hY) _ _ R2.top ss) ?_ ?_⟩
    .rintro m v ys τ H5 hv ⟨⟨o0,rfl⟩,rfl,rfl⟩;obtain⟨b,B,_,eB,rfl,hb⟩:=R2.of hv;have ml:=(qAL.mp eB).1;have an:=(Kp.new (M:=[]) (l:=Y) (o:=.lst$ ((bs.take m).map λB=>(B.length:Int)).map V.int) Kp.refl hY) _ _ hb ss;refine⟨_,rF,_,_,rF,.inl$ SqL.of an,ac,?_,⟨_,rF⟩,?_,zB7⟩
     .rw [qAD,qAD,qAU];lia
     .rw [zAk eB,qAP,qAP,qAD];rfl
    .rintro ys τ H5 ⟨_,rfl,rfl⟩;rw[qAD,ll,qAg];obtain⟨H5,e5,k5,h5⟩:=dJ (o:=.lst$ (bs.map λB=>(B.length:Int)).map V.int) hY;rw[e5];have K5:=k2.trans k5;refine⟨Y,_,rF,SqL.of h5,?_⟩;refine⟨_,rF,_,rF,_,_,_,_,rF,rF,SqT.of$ K5 _ _ S ss,rF,_,rF,d,a,_,J,as,bs,la,L,rF,D0.kp0 K5,aj,R.kp K5,af,al,rF,λbb H6 k6 g=>kk bb H6 (K5.trans k6) λ⟨t',a',ap,aq,e',O,R',G'⟩=>g ?_⟩
     cases e';rw[S]at O;cases O
     rw[R.inj R'];exact G'
end
end My
namespace L2
open PySem PySem.Spec PyProof.Rows
def zH3(v:V)(ns:List Str):Bool:=match v with
 | .str x=>decide (x∈ns)
 |_=>false
end L2
namespace My
open PySem L2
variable{P:Program}{w:World}{K:PySem.W.Frag}{mg:Str->Option Value}{base:Heap}{C:Addr}
variable{H H':Hp}{v:V}{ns:List Str}{f Cp p:Addr}{fd:FuncData}{J:JR}{as:List Addr}
theorem rM{K:PySem.W.Frag}(h:c_ H v):(∃x,v= .str x)\/(∃t,dz K H v t/\PySem.W.kitOne K t (.type "str")=some false/\∀ns,zH3 v ns=false):=by
 rcases h with h|rfl|⟨b,rfl⟩|⟨i,rfl⟩|⟨a,rfl,⟨xs,h⟩|⟨xs,h⟩|⟨xs,h⟩⟩
 .exact .inl h
 .exact .inr ⟨_,dz.non,qO,λ_=>rfl⟩
 .exact .inr ⟨_,dz.bl b,pE,λ_=>rfl⟩
 .exact .inr ⟨_,dz.int i,rg,λ_=>rfl⟩
 .exact .inr ⟨_,dz.lst h,px,λ_=>rfl⟩
 .exact .inr ⟨_,dz.tup h,p_,λ_=>rfl⟩
 .exact .inr ⟨_,dz.dK h,rp,λ_=>rfl⟩
theorem mZ(h:zH3 v ns=true):∃x,v= .str x/\x∈ns:=by
 cases v with
 |str x=>exact⟨x,rF,qBm h⟩
 |_=>cases h
theorem oE{st:Addr}{B S:List Str}(h:c_ H v)(k:Kp [st] H H')(hs:dO H st B)(O:dO H' st S):c_ H' v:=by
 rcases h with h|h|h|h|⟨a,e,h⟩
 .exact .inl h
 .exact .inr$ .inl h
 .exact .inr$ .inr$ .inl h
 .exact .inr$ .inr$ .inr$ .inl h
 .by_cases z:a=st
  .subst z;exact .inr$ .inr$ .inr$ .inr ⟨a,e,.inr$ .inr ⟨_,O⟩⟩
  .rcases h with⟨xs,h⟩|⟨xs,h⟩|⟨xs,h⟩
   .exact .inr$ .inr$ .inr$ .inr ⟨a,e,.inl ⟨xs,k _ _ h$ nm1 z⟩⟩
   .exact .inr$ .inr$ .inr$ .inr ⟨a,e,.inr$ .inl ⟨xs,k _ _ h$ nm1 z⟩⟩
   .exact .inr$ .inr$ .inr$ .inr ⟨a,e,.inr$ .inr ⟨xs,k _ _ h$ nm1 z⟩⟩
inductive xc(ns B:List Str)(H:Hp)(v:V):Prop
 |mk:∀(r:Addr)(row:List Str),v= .ref r->H r=some (.lst$ row.map V.str)->row≠[]->(∀x∈row,x∈ns)->(B++row).Nodup->xc ns B H v
section
inductive gj(K:PySem.W.Frag)(vs:List V)(H:Hp)(Q:VK)(u_3:XK):Prop
 |mk:∀(v:V)(l:Addr)(ns:List Str),vs=[v,.ref l]->c_ H v->(SqL K H l (ns.map V.str)\/SqT K H l (ns.map V.str))->Q (.bl$ zH3 v ns) H->gj K vs H Q u_3
theorem ub(F:Fun K "is_one_of" "is_one_of" zD0 f fd)(T:Txt K mg):dw P w K mg base CX0 1 f fd ["thing","names"] (gj K):=by
 refine F.ok zGp (λvs H Q E h=>?_) λV A outer s H vs Q E hr h=>?_
 .obtain ⟨v,l,ns,rfl,_⟩:=h;rfl
 .obtain ⟨v,l,ns,rfl,O,S,k⟩:=h;refine⟨_,(zAe$ zAw$ i6 (zAi zBg rR T.z_isinstance zAl$ zAa (pv 0)$ zAa (zBw rR T.z_str iZ (v:=.ty "str") rF) zAb)$ gp$ zCs zFw (pv 0) (pv 1) rR),?_⟩;rcases rM (K:=K) O with⟨x,rfl⟩|⟨t,ty,W,e⟩
  .refine ⟨_,rF,_,_,_,_,rF,dz.str x,zA1,_,rF,eZ ?_⟩;refine⟨_,rF,_,rF,_,_,rF,S,rF,zDd ns,?_⟩;rw[qAB dD,zH5];exact k
  .refine ⟨_,rF,_,_,_,_,rF,ty,W,_,rF,dC ?_⟩;rw[e]at k;exact k
inductive lw(C:Addr)(vs:List V)(H:Hp)(Q:VK)(u_3:XK):Prop
 |mk:∀(j r:Addr)(J:JR)(x:Str)(row:List Str),vs=[.ref j,.str x,.ref r]->dG C H j J->x∈J.ns->Txs H r row->row.length<=64->(∀y∈row,y∈J.ns)->(∀bb H',Kp [] H H'->(bb=true↔∀y∈row,x∈J.S y)->Q (.bl bb) H')->lw C vs H Q u_3
theorem tJ(F:Fun K "has_all_behind" "has_all_behind" zBl f fd)(T:Txt K mg)(U:JC K mg C)(O:Mth P w K mg base C "is_ahead" 3 ["self","one","other"] (eL C)):dw P w K mg base CX0 4 f fd ["jobs","name","row"] (lw C):=by
 refine F.ok zDs (λvs H Q E h=>?_) λad A outer s H vs Q E hr h=>?_
 .obtain ⟨j,r,J,x,W,rfl,_⟩:=h;rfl
 .obtain ⟨j,r,J,x,W,rfl,A0,hx,S,lr,ok,k⟩:=h;refine⟨_,(zAe$ zAw$ zAi (zE6 _ rF) rR T.z_all zI3$ zAa (zBn rF (zBp (sc:=zAg zBl) rF kK) (du.own (x:="other")$ dtk (i:=1) rF$ dtk (i:=0) rF du.nil) (zAq$ pv 2) (λ_ _ _ _=>(pgB (i:=0))) (λ_ _ _ _=>zCm) λaa s₀ H₀ ex=>(i9 O U.cl hr (pv 2)$ zAa (pv 1)$ zAa (pv 0) zAb)) zAb),?_⟩
  refine⟨_,rF,_,rF,⟨_,SqL.of S⟩,λB hB=>zBc (W.map V.str) (λi ys τ H3=>(∃o0,τ=[o0,some (.str x),some (.ref j)])/\ys=((W.take i).map λy=>V.bl$ decide$ x∈J.S y)/\Kp [] H H3/\H3 B=some (.lst ys)) ⟨⟨_,rF⟩,rF,Kp.new Kp.refl hB,ac⟩ (λi ys τ H3 ⟨_,_,k3,_⟩=>SqL.of$ k3 r _ S ss) ?_ ?_⟩
  .rintro i v ys τ H3 hv ⟨⟨o0,rfl⟩,rfl,k3,h3⟩;obtain⟨y,ey,rfl⟩:=zA9 hv;have yn:=ok y$ qAJ ey;have A3:=A0.kp0 k3;refine⟨_,rF,j,J.dx,_,rF,A3.ob,mw _ _ _ kK kK kK,_,rF,_,rF,j,J,x,y,rF,A3,hx,yn,?_⟩;refine⟨h3,?_,⟨_,rF⟩,?_,Kp.new k3 hB,ac⟩
   .rw [qAD,qAU,qAK];lia
   .rw [zAk ey,qAP];rfl
  .rintro ys τ H3 ⟨_,rfl,k3,h3⟩;rw[qAD,qAg]at h3;refine⟨B,W.map λy=>decide$ x∈J.S y,rF,SqL.of ?_,?_⟩
   .rw [h3,qBO];rfl
   .refine k _ _ k3 ?_;rw[qCg,qBt];exact⟨λh y hy=>qBm$ h y hy,λh y hy=>qAV$ h y hy⟩
inductive pL(Cp:Addr)(vs:List V)(H:Hp)(Q:VK)(E:XK):Prop
 |mk:∀(l st:Addr)(v:V)(ns B:List Str),vs=[.ref l,.ref st,v]->Txs H l ns->dO H st B->dW H v->B.Nodup->B.length<=20->(∀x∈B,x∈ns)->ns.length<=20 ->
  (∀(r:Addr)(row:List Str) H',v= .ref r->H r=some (.lst$ row.map V.str)->row≠[]->(∀x∈row,x∈ns)->(B++row).Nodup->Kp [st] H H'->dO H' st (B++row)->Q .non H')->(∀H',Kp [st] H H'->¬xc ns B H v->E (.ref Cp) none H')->pL Cp vs H Q E
theorem vX(F:Fun K "check_block" "check_block" zC2 f fd)(T:Txt K mg)(U:XC K mg "NoPaper" Cp)(O:Cal P w K mg base "is_one_of" 1 ["thing","names"] (gj K)):dw P w K mg base (CX1 P w) 2 f fd ["names","stood","block"] (pL Cp):=by
 refine Fun.okX F zCw (λvs H Q E h=>?_) λai A outer s H vs Q E hr h=>?_
 .obtain ⟨l,st,v,ns,B,rfl,_⟩:=h;rfl
 .obtain ⟨l,st,v,ns,B,rfl,hl,ad,hv,af,lB,sB,few,k,kx⟩:=h;have hu:=zF2 hr;have one:(1:Nat)<=sizeLine:=dD
  refine⟨_,(zAc (zBk (PW.pt$ zEk (zBm$ zBi$ zAi zBg rR T.z_isinstance zAl$ zAa (pv 2)$ zAa (zBw rR T.z_list zCe (v:=.ty "list") rF) zAb)$ zDv$ zBm$ zG6 (pv 2) λ_=>rfl) (zAe$ zDk zGq rF rF U.mgC U.ok$ zAa zAu zAb) zAs) (zAe (zA7 PassesOwn.leaving rF (zAq$ pv 2) (pgN (i:=3) zCw.nd)
    (zAc (zBk (zBm$ zBi$ zAh O hr rF$ zAa (pv 3)$ zAa (pv 0) zAb)
     (zAe$ zDk zGq rF rF U.mgC U.ok$ zAa zAu zAb)
     zAs)
    (zAc (zBk (zEg$ zHp hu (pv 3)$ pv 1)
     (zAe$ zDk zGq rF rF U.mgC U.ok$ zAa zAu zAb)
     zAs)$ zAe$ zD4 hu (pv 1) (pv 3) zEs rF))))),?_⟩
  refine fJ ?_;intro _ _
  cases hv with
  |no n=>
   obtain⟨ty,h1,h2⟩:=zG7 (K:=K) n;exact⟨_,rF,_,_,_,_,rF,h1,h2,_,rF,eZ ⟨one,kx H Kp.refl λ⟨r,W,e,h,_,_,_⟩=>n.2 r _ e h⟩⟩
  |lst r xs e S aj tx=>
   subst e
   have eq:∀{r':Addr}{W:List Str},V.ref r= .ref r'->H r'=some (.lst$ W.map V.str)->xs=W.map V.str:=λe h=>by
    cases e
    rw[S]at h;injection h with h;injection h
   refine⟨_,rF,_,_,_,_,rF,dz.lst S,zA1,_,rF,dC ?_⟩
   by_cases ne:xs=[]
   .subst ne;exact⟨_,rF,false,.inl ⟨_,SqL.of S,rF⟩,eZ ⟨one,kx H Kp.refl λ⟨r',W,e,h,n,_,_⟩=>n$ qCd.mp (eq e h).symm⟩⟩
   refine⟨_,rF,true,.inl ⟨_,SqL.of S,by cases xs with
    |nil=>exact absurd rF ne
    |cons a b=>rfl⟩,dC ?_⟩
   have ag:r≠st:=zCp S ad λz=>nomatch z;refine⟨_,rF,_,rF,⟨_,SqL.of S⟩,zA3 (xs:=xs) (λi σ H2=>∃W:List Str,(∃o3:Option V,σ=[some (.ref l),some (.ref st),some (.ref r),o3])/\Kp [st] H H2/\dO H2 st (B++W)/\xs.take i=W.map V.str/\(∀x∈W,x∈ns)/\(B++W).Nodup) ⟨[],⟨_,rF⟩,Kp.refl,by rw[qAm];exact ad,rF,(λ_ h=>nomatch h),by rw[qAm];exact af⟩ (λi σ H2 _ ⟨_,_,k2,_⟩=>SqL.of$ k2 _ _ S$ nm1 ag) ?_ ?_⟩
   .rintro i v σ H2 hv ⟨W,⟨o3,rfl⟩,k2,h2,et,sr,nd⟩;refine gv ?_;intro _ _ _;have tv:=oE (tx v$ qAJ hv) k2 ad h2;have il:=(qAL.mp hv).1;refine⟨_,rF,_,rF,v,l,ns,rF,tv,.inl (SqL.of$ k2 _ _ hl$ nm1$ zCp hl ad λz=>nomatch z),_,rF,?_⟩
    cases c:zH3 v ns with
    |false=>
     refine⟨one,kx H2 k2 λ⟨r',aa,e,h,_,q,_⟩=>?_⟩;rw[eq e h]at hv;obtain⟨x,ex,rfl⟩:=zA9 hv;rw[show zH3 (V.str x) ns=decide (x∈ns)from rfl,qAV$ q x$ qAJ ex]at c
     cases c
    |true=>
     obtain⟨x,rfl,xn⟩:=mZ c;refine dC ?_;obtain⟨o,g1,g2⟩:=zEm h2 x;refine⟨_,rF,_,rF,_,_,rF,g1,_,rF,?_⟩;rw[g2]
     by_cases nx:x∈B++W
     .rw [qAV nx];refine⟨one,kx H2 k2 λ⟨r',aa,e,h,_,_,ah⟩=>?_⟩;have e1:=eq e h;rw[e1]at hv et;obtain⟨y,ey,ez⟩:=zA9 hv
      cases ez
      have e2:aa.take i=W:=ii (by rw[qBk];exact et);have ae:(B++(aa.take i++[x])).Nodup:=ah.sublist (List.Sublist.append (List.Sublist.refl _)$ by rw[<-zAk ey];exact List.take_sublist _ _);rw[e2,<-qBK]at ae;exact(qBX.mp ae).2.2 x nx x ss rF
     .rw [qAZ nx];refine dC ?_;have ll:(B++W).length<=20:=qAW (zB3 nd λy hy=>(qAR.mp hy).elim (sB y)$ sr y) few;refine⟨_,rF,_,rF,_,_,rF,fA.k (k:=Sum.inr x) h2 ?_,?_⟩
      .rw [zEa,qAK];lia
      refine⟨W++[x],⟨_,rF⟩,Kp.put k2 ss,?_,by rw[zAk hv,et,qAP];rfl,λy hy=>?_,?_⟩
      .show upd _ _ _ _=_;rw[ac,zD3 _ nx,<-qBK];unfold dT1;rw[qAP (l₁:=B++W)];rfl
      .rcases qAR.mp hy with z|z
       .exact sr y z
       .rw [qAO.mp z];exact xn
      .rw [<-qBK];exact qBX.mpr ⟨nd,ss,λa ha b hb z=>nx$ by rw[qAO.mp hb]at z;exact z▸ha⟩
   .rintro σ H2 ⟨W,_,k2,h2,et,sr,nd⟩;rw[qAg]at et;exact k r W H2 rF (et▸S) (λz=>ne$ by rw[et,z];rfl) sr nd k2 h2
end
inductive mr(J:JR)(H:Hp)(v:V):Prop
 |mk:∀(a:Addr)(as:List Addr) (bs:List (List Str)),v= .ref a->dB H a as bs->eR J bs->mr J H v
structure Pre(J:JR)(H:Hp)(ys:List V)(as:List Addr)(bs:List (List Str)):Prop where
 e:ys=as.map V.ref
 len:as.length=bs.length
 row:∀(i:Nat)(a:Addr)(r:List Str),as[i]?=some a->bs[i]?=some r->H a=some (.lst$ r.map V.str)
 ne:∀B∈bs,B≠[]
 ns:∀B∈bs,∀x∈B,x∈J.ns
 nd:bs.flatten.Nodup
theorem Pre.more{ys:List V}{bs:List (List Str)}{a:Addr}{r:List Str}(p:Pre J H ys as bs)(ha:H a=some (.lst$ r.map V.str))(ne:r≠[])(ns:∀x∈r,x∈J.ns)(nd:(bs.flatten++r).Nodup):Pre J H (ys++[.ref a]) (as++[a]) (bs++[r]):=by
 refine⟨by rw[p.e,qAP];rfl,by rw[qAN,qAN,p.len];rfl,λi b q O S=>?_,λB W=>?_,λB W=>?_,by rw[qBn,qBA,qCk,qAm];exact nd⟩
 .by_cases hp:i<as.length
  .rw [qA5 hp]at O;rw[qA5$ p.len▸hp]at S;exact p.row i b q O S
  .have:i=as.length:=by
    have:=(qAL.mp O).1;rw[qAN,qAn]at this;lia
   subst this;rw[qBJ$ qAG _,qCC]at O;rw[p.len,qBJ$ qAG _,qCC]at S
   cases O;cases S
   exact ha
 .rcases qAR.mp W with z|z
  .exact p.ne B z
  .rw [qAO.mp z];exact ne
 .rcases qAR.mp W with z|z
  .exact p.ns B z
  .rw [qAO.mp z];exact ns
theorem Pre.few{ys:List V}{bs:List (List Str)}(p:Pre J H ys as bs)(few:J.ns.length<=20):bs.flatten.length<=20:=qAW (zB3 p.nd λx O=>by
 obtain⟨B,S,h⟩:=qDB.mp O;exact p.ns B S x h) few
section
inductive iH(C Cp:Addr)(vs:List V)(H:Hp)(Q:VK)(E:XK):Prop
 |mk:∀(j:Addr)(v:V)(J:JR),vs=[.ref j,v]->dG C H j J->dM H v->¬mr J H v->(∀H',Kp [] H H'->E (.ref Cp) none H')->iH C Cp vs H Q E
theorem sF(F:Fun K "check_blocks" "check_blocks" zBz f fd)(T:Txt K mg)(U:JC K mg C)(X:XC K mg "NoPaper" Cp)(S:Mth P w K mg base C "names" 1 ["self"] (fK C))(O:jr P w K mg base "check_block" 2 ["names","stood","block"] (pL Cp))(af:Cal P w K mg base "has_all_behind" 4 ["jobs","name","row"] (lw C)):dw P w K mg base (CX1 P w) 5 f fd ["jobs","blocks"] (iH C Cp):=by
 refine Fun.okX F zAx (λvs H Q E h=>?_) λaz A outer s H vs Q E hr h=>?_
 .obtain ⟨j,v,J,rfl,_⟩:=h;rfl
 .obtain ⟨j,v,J,rfl,A0,hv,ng,kx⟩:=h;have an:=hr.mono (j:=1) dD;have ao:=hr.mono (j:=2) dD;have one:(1:Nat)<=sizeLine:=dD
  refine⟨_,(zAc (zBk (zBm$ zBi$ zAi zBg rR T.z_isinstance zAl$ zAa (pv 1)$ zAa (zBw rR T.z_list zCe (v:=.ty "list") rF) zAb) (zAe$ zDk zGq rF rF X.mgC X.ok$ zAa zAu zAb) zAs) (zAc (psS (i:=2) zAx.nd zBv)
   (zAc (zA7 PassesOwn.leaving rF (zAq$ pv 1) (pgN (i:=3) zAx.nd)$ zAe$ zA2$ zFt (E:=λ_=>E) O ao rF (mJ λ_ _ _ _ h=>h)$ zAa (gS S U.cl an$ pv 0)$ zAa (pv 2)$ zAa (pv 3) zAb)
   (zAe (zA7 PassesOwn.leaving rF (kJ rF T.z_zip$ zAa (pv 1)$ zAa (zB1 zCi (pv 1) (zCd zAd) zCr) zAb) (zIv rF$ zBf (pgN (i:=4) zAx.nd)$ zBf (pgN (i:=5) zAx.nd) zD5)
    (zAe (zBk (zBm$ zBi$ zAi (zE6 _ rF) rR T.z_all zI3$ zAa (zBn rF (zBp (sc:=zAg zBz) rF kK) (du.own (x:= "name")$ dtk (i:=0) rF$ dtk (i:=5) rF du.nil) (zAq$ pv 4) (fun _ _ _ _=>(pgB (i:=0))) (fun _ _ _ _=>zCm) fun ay s₀ H₀ ex=>(zAh af hr rF$ zAa (pv 1)$ zAa (pv 0)$ zAa (pv 2) zAb)) zAb)
     (zAe$ zDk zGq rF rF X.mgC X.ok$ zAa zAu zAb)
     zAs))))))),?_⟩
  refine e_ ?_;intro _ _ _ _
  cases hv with
  |no n=>
   obtain⟨ty,h1,h2⟩:=zG7 (K:=K) n;exact⟨_,rF,_,_,_,_,rF,h1,h2,_,rF,eZ ⟨one,kx H Kp.refl⟩⟩
  |lst bl xs e hx ap tx=>
  subst e;refine⟨_,rF,_,_,_,_,rF,dz.lst hx,zA1,_,rF,dC ?_⟩;refine λst aq=>?_;have fs:Fre H st:=aq;have k1:Kp [] H (upd H st$ .dK []):=Kp.new Kp.refl fs;have e1:dO (upd H st$ .dK []) st []:=ac;generalize upd H st (.dK [])=H1 at k1 e1;refine⟨_,rF,_,rF,⟨_,SqL.of$ k1 _ _ hx ss⟩,zA3 (xs:=xs) (λi σ H2=>∃as bs,(∃o3:Option V,σ=[some (.ref j),some (.ref bl),some (.ref st),o3,none,none])/\Kp [] H H2/\dO H2 st bs.flatten/\Pre J H (xs.take i) as bs) ⟨[],[],⟨_,rF⟩,k1,e1,rF,rF,(λ_ _ _ h=>nomatch h),(λ_ h=>nomatch h),(λ_ h=>nomatch h),qBC⟩ (λi σ H2 _ ⟨_,_,_,k2,_⟩=>SqL.of$ k2 _ _ hx ss) ?_ ?_⟩
  .rintro i v σ H2 hv ⟨as,bs,⟨o3,rfl⟩,k2,h2,p⟩;have bv:=tx v$ qAJ hv;have A2:=A0.kp0 k2;refine⟨_,rF,j,J.dx,_,rF,A2.ob,mw _ _ _ kK kK kK,j,J,rF,A2,λn H3 fn hn k3=>?_⟩;have W:=k2.trans k3
   refine⟨_,rF,_,rF,n,st,v,J.ns,bs.flatten,rF,hn,k3 _ _ h2 ss,bv.kp0 W,p.nd,p.few A0.few,(λx hx=>by
    obtain⟨B,hB,h⟩:=qDB.mp hx;exact p.ns B hB x h),A0.few,λr aa H4 ev ai ne sr nd k4 h4=>?_,λH4 k4 nb=>?_⟩
   .subst ev
    have ar:H r=some (.lst$ aa.map V.str):=by
     cases bv with
     |lst a ys e h _ _=>
      cases e
      have:=W _ _ h ss;rw[ai]at this;rw[h,<-this]
     |no n'=>
      exact absurd ai$ n'.kp0 W |>.2 r _ rfl
    refine⟨as++[r],bs++[aa],⟨_,rF⟩,zH0 W fs k4,?_,by rw[zAk hv];exact p.more ar ne sr nd⟩;rw[qBn,qBA,qCk,qAm];exact h4
   .exact kx H4$ zH0 W fs k4
  rintro σ H2 ⟨as,bs,⟨o3,rfl⟩,k2,_,p⟩;rw[qAg]at p;obtain⟨rfl,len,aa,pne,ad,aj⟩:=p;have R:dB H bl as bs:=⟨hx,len,aa⟩;rw[qAD,len]at ap;have ae:∀B∈bs,B.length<=20:=λB hB=>qAW (zB3 (mT aj hB)$ ad B hB) A0.few;refine⟨_,rF,_,rF,_,rF,_,_,rF,SqL.of$ k2 _ _ R.top ss,λ(sl:Addr) au=>?_⟩;have ec:fI (as.map V.ref) (some 1) none=(as.drop 1).map V.ref:=by rw[zF3 _ dD,qBl];rfl
  rw[ec];have k3:Kp [] H2 (upd H2 sl$ .lst$ (as.drop 1).map V.ref):=Kp.new Kp.refl au;have e3:upd H2 sl (.lst$ (as.drop 1).map V.ref) sl=some (.lst$ (as.drop 1).map V.ref):=ac;generalize upd H2 sl (.lst$ (as.drop 1).map V.ref)=H3 at k3 e3;have K3:=k2.trans k3;refine⟨bl,sl,rF,⟨_,SqL.of$ K3 _ _ R.top ss⟩,⟨_,SqL.of e3⟩,iz (xs:=as.map V.ref) (ys:=(as.drop 1).map V.ref) (λi σ H4=>(∃o4 o5:Option V,σ=[some (.ref j),some (.ref bl),some (.ref st),o3,o4,o5])/\Kp [] H3 H4/\∀(q:Nat)(B B':List Str),q<i->bs[q]?=some B->bs[q+1]?=some B'->∀x∈B,∀y∈B',x∈J.S y) ⟨⟨_,_,rF⟩,Kp.refl,(λ_ _ _ h=>nomatch h)⟩ (λi σ H4 ⟨_,k4,_⟩=>⟨SqL.of$ (K3.trans k4) _ _ R.top ss,SqL.of$ k4 _ _ e3 ss⟩) ?_ ?_⟩
  .rintro i v1 v2 σ H4 t ag ah ⟨⟨o4,o5,rfl⟩,k4,n4⟩ ht
   have hi:i<bs.length:=by
    have:=(qAL.mp ag).1;rw[qAD,R.len]at this;exact this
   have av:i+1<bs.length:=by
    have:=(qAL.mp ah).1;rw[qAD,qAz,R.len]at this;lia
   obtain⟨a,B,ea,eB,ev,ha⟩:=R.at hi;obtain⟨a',B',aw,ak,aA,ax⟩:=R.at av;rw[ev]at ag
   cases ag
   have e2:((as.drop 1).map V.ref)[i]?=some (.ref a'):=by
    rw[qAY,qCL,qCs,aw];rfl
   rw[e2]at ah
   cases ah
   have kt:Kp [] H4 (upd H4 t$ .tup [.ref a,.ref a']):=Kp.new Kp.refl ht;refine⟨_,_,rF,.inl$ .inl ac,rF,_,_,rF,_,_,rF,rF,?_⟩;generalize upd H4 t (.tup [.ref a,.ref a'])=H5 at kt;have K5:=(K3.trans k4).trans kt;have al:=K5 _ _ ha ss;have mB:=qAJ eB;have am:=qAJ ak;refine⟨_,rF,_,rF,⟨_,SqL.of al⟩,λY hY=>zBc (B.map V.str) (λp ys τ H6=>∃zs:List Bool,(∃o0,τ=[o0,some (.ref j),some (.ref a')])/\ys=zs.map V.bl/\zs.length=p/\(zs.all id=true↔∀x∈B.take p,∀y∈B',x∈J.S y)/\Kp [] H5 H6/\H6 Y=some (.lst ys)) ⟨[],⟨_,rF⟩,rF,rF,ss,Kp.new Kp.refl hY,ac⟩ (λp ys τ H6 ⟨_,_,_,_,_,k6,_⟩=>SqL.of$ k6 _ _ al ss) ?_ ?_⟩
   .rintro p v ys τ H6 hv ⟨zs,⟨o0,rfl⟩,rfl,zl,za,k6,h6⟩;obtain⟨x,ex,rfl⟩:=zA9 hv;have mx:=qAJ ex;have K6:=K5.trans k6;have lb:=ae B mB;have pl:=(qAL.mp ex).1;refine⟨_,rF,_,rF,_,rF,j,a',J,x,B',rF,A0.kp0 K6,ad B mB x mx,K6 _ _ ax ss,by have:=ae B' am;lia,ad B' am,λbb H7 k7 hb=>?_⟩;refine⟨k7 _ _ h6 ss,?_,zs++[bb],⟨_,rF⟩,by rw[qAP];rfl,by rw[qAN,zl];rfl,?_,Kp.new (k6.trans k7) hY,ac⟩
    .rw [qAD,qAK];lia
    .rw [List.all_append,qBS,za,zAk ex];simp only[List.all_cons,List.all_nil,Bool.and_true,id];rw[hb];exact⟨λh y hy=>(qAR.mp hy).elim (h.1 y) λz=>by rw[qAO.mp z];exact h.2,λh=>⟨λy hy=>h y$ qAp _ hy,h x ss⟩⟩
   .rintro ys τ H6 ⟨zs,_,rfl,zl,za,k6,h6⟩;rw[qAD,qAg]at za;have K6:=K5.trans k6;refine⟨Y,zs,rF,SqL.of h6,_,rF,?_⟩
    cases c:zs.all id with
    |false=>exact⟨one,kx H6 K6⟩
    |true=>
     refine dC ⟨⟨_,_,rF⟩,(k4.trans kt).trans k6,λq D D' hq d1 d2=>?_⟩
     by_cases z:q=i
     .subst z;rw[eB]at d1;rw[ak]at d2
      cases d1;cases d2
      exact za.mp c
     .exact n4 q D D' Ll d1 d2
  .rintro i σ H4 hi ⟨_,k4,n4⟩;refine absurd (mr.mk bl as bs rF R ⟨pne,ad,aj,λq D D' e1 e2=>n4 q D D' ?_ e1 e2⟩) ng;have:=(qAL.mp e2).1;rw[qAD,qAD,qAz,len]at hi;lia
inductive kw(C Cp:Addr)(vs:List V)(H:Hp)(Q:VK)(E:XK):Prop
 |mk:∀(j:Addr)(b:Int)(v:V)(J:JR),vs=[.ref j,.int b,v]->dG C H j J->dM H v->¬mr J H v->(∀H',Kp [] H H'->E (.ref Cp) none H')->kw C Cp vs H Q E
theorem tz(F:Fun K "shown_by_blocks" "shown_by_blocks" zBb f fd)(S:jr P w K mg base "check_blocks" 5 ["jobs","blocks"] (iH C Cp)):dw P w K mg base (CX1 P w) 6 f fd ["jobs","benches","blocks"] (kw C Cp):=by
 refine Fun.okX F zDg (λvs H Q E h=>?_) λV A outer s H vs Q E O h=>?_
 .obtain ⟨j,b,v,J,rfl,_⟩:=h;rfl
 .obtain ⟨j,b,v,J,rfl,W,hv,ng,kx⟩:=h
  refine⟨_,(zAc (zA2$ zFt (E:=λ_=>E) S O rF (mJ λ_ _ _ _ h=>h)$ zAa (pv 0)$ zAa (pv 2) zAb)$ zAe zAz),?_⟩
  exact⟨_,rF,_,rF,j,v,J,rF,W,hv,ng,kx⟩
def rA(C Cp:Addr):Sp:=λvs H Q E=>mf C vs H Q E\/kw C Cp vs H Q E
end
structure Wds(K:PySem.W.Frag)(mg:Str->Option Value)(W:Addr):Prop where
 g:mg "WORDS"=some (.ref W)
 s:∀H,SqT K H W ((["blocks","behind","ahead"]:List Str).map V.str)
section
inductive eG(C Cn Cp:Addr)(vs:List V)(H:Hp)(Q:VK)(E:XK):Prop
 |bench:∀(j:Addr)(bv pv:V),vs=[.ref j,bv,pv]->c_ H bv->fU bv=false->E (.ref Cn) none H->eG C Cn Cp vs H Q E
 |bad:∀(j:Addr)(b:Int)(pv:V)(J:JR),vs=[.ref j,.int b,pv]->dG C H j J->1<=b->fE H pv->¬d_ J H pv->(∀H',Kp [] H H'->E (.ref Cp) none H')->eG C Cn Cp vs H Q E
 |good:∀(j t a:Addr)(b:Int)(J:JR)(as:List Addr) (bs:List (List Str)),vs=[.ref j,.int b,.ref t]->dG C H j J->1<=b->b<10^100->H t=some (.tup [.str "blocks",.ref a])->dB H a as bs->bs.length<=20->eR J bs->(∀H',Kp [] H H'->Q (.int$ sL b bs) H')->eG C Cn Cp vs H Q E
abbrev zJb:Stmt:=top 35
theorem jp:dq ["jobs","benches","paper"] ["jobs","benches","paper"] (zAg zJb):=fnS
theorem oW{Cn W:Addr}(F:Fun K "shown" "shown" zJb f fd)(T:Txt K mg)(X:XC K mg "NoPaper" Cp)(WD:Wds K mg W)(ae:jr P w K mg base "check_benches" 2 ["benches"] (jx Cn))(S:Cal P w K mg base "is_one_of" 1 ["thing","names"] (gj K))(ad:jr P w K mg base "shown_by_blocks" 6 ["jobs","benches","blocks"] (rA C Cp))(aa:Cal P w K mg base "is_whole" 1 ["thing"] eK):dw P w K mg base (CX1 P w) 7 f fd ["jobs","benches","paper"] (eG C Cn Cp):=by
 refine Fun.okX F jp (λvs H Q E h=>?_) λaj A outer s H vs Q E hr h=>?_
 .rcases h with⟨j,bv,pv,rfl,_⟩|⟨j,b,pv,J,rfl,_⟩|⟨j,t,a,b,J,as,bs,rfl,_⟩<;>rfl
 .have af:=hr.mono (j:=1) dD;have ag:=hr.mono (j:=2) dD;have hu:=hu0 hr;have one:(1:Nat)<=sizeLine:=dD
  refine⟨_,(zAc (zA2$ zFt (E:=λ_=>E) ae ag rF (mJ λ_ _ _ _ h=>h)$ zAa (pv 1) zAb) (zAc (zBk (PW.pt$ zEk (zBm$ zBi$ zAi zBg rR T.z_isinstance zAl$ zAa (pv 2)$ zAa (zBw rR T.z_tuple zGa (v:=.ty "tuple") rF) zAb)$ zEk (zAr zFu (zAi zAp rR T.z_len zBy$ zAa (pv 2) zAb) zAd$ zAv _)$ zDv$ zBm$ zBi$ zAh S af rF$ zAa (zBd zDb (pv 2) zAd fun _ _=>rfl)$ zAa (zBs (v:=.ref W) rR WD.g rF) zAb)
    (zAe$ zDk zGq rF rF X.mgC X.ok$ zAa zAu zAb)
    zAs)
   (zAc (zBk (zAr (qj hu) (zBd zDb (pv 2) zAd fun _ _=>rfl) zAu$ zAv _)
    (zAe$ zAw$ zFt (E:=λ_=>E) ad hr rF (mJ λ_ _ _ _ h=>h)$ zAa (pv 0)$ zAa (pv 1)$ zAa (zBd zDb (pv 2) zAd λ_ _=>rfl) zAb)
    zAs)
   (zAc (zBk (PW.pt$ zEk (zBm$ zBi$ zAh aa af rF$ zAa (zBd zDb (pv 2) zAd fun _ _=>rfl) zAb)$ zDv$ zAr jY (zBd zDb (pv 2) zAd fun _ _=>rfl) zAd$ zAv _)
    (zAe$ zDk zGq rF rF X.mgC X.ok$ zAa zAu zAb)
    zAs)$ zAc zAz$ zAe zAz)))),?_⟩
  refine vd ?_;intro _ _ _ _ _
  cases h with
  |bench j bv pv e hb nb kx=>
   subst e;exact⟨_,rF,.inr ⟨bv,rF,hb,nb,kx⟩⟩
  |bad j b pv J e A0 b1 hv ng kx=>
   subst e;refine⟨_,rF,.inl ⟨b,rF,b1,?_⟩⟩
   cases hv with
   |oth o=>
    rcases o.is (K:=K)with⟨t,ty,kt⟩|⟨a,xs,rfl,ha,n2⟩
    .exact ⟨_,rF,_,_,_,_,rF,ty,kt,_,rF,eZ ⟨one,kx H Kp.refl⟩⟩
    .refine ⟨_,rF,_,_,_,_,rF,dz.tup ha,zA1,_,rF,dC ?_⟩;refine⟨_,rF,_,_,rF,.inr$ SqT.of ha,rF,_,rF,?_⟩;rw[qAZ λz=>n2$ by injection z with z;lia];exact⟨one,kx H Kp.refl⟩
   |odd t x n e O wd th=>
    subst e;refine⟨_,rF,_,_,_,_,rF,dz.tup O,zA1,_,rF,dC ?_⟩;refine⟨_,rF,_,_,rF,.inr$ SqT.of O,rF,_,rF,dC ?_⟩;refine⟨_,rF,_,_,_,_,rF,rF,SqT.of O,rF,_,W,["blocks","behind","ahead"],rF,wd.1,.inr$ WD.s H,_,rF,?_⟩
    have c:zH3 x ["blocks","behind","ahead"]=false:=by
     cases c:zH3 x ["blocks","behind","ahead"]with
     |false=>rfl
     |true=>
      obtain⟨y,rfl,hy⟩:=mZ c;obtain⟨h1,h2,h3⟩:=wd.2 y rF;simp[h1,h2,h3]at hy
    rw[c];exact⟨one,kx H Kp.refl⟩
   |num t x n e O wd nb=>
    subst e;have ah:x≠ "blocks":= by rcases wd with rfl|rfl<;>decide
    refine⟨_,rF,_,_,_,_,rF,dz.tup O,zA1,_,rF,dC ?_⟩;refine⟨_,rF,_,_,rF,.inr$ SqT.of O,rF,_,rF,dC ?_⟩;refine⟨_,rF,_,_,_,_,rF,rF,SqT.of O,rF,_,W,["blocks","behind","ahead"],rF,.inl ⟨_,rF⟩,.inr$ WD.s H,_,rF,?_⟩;rw[show zH3 (V.str x) ["blocks","behind","ahead"]=true by rcases wd with rfl|rfl<;>decide];refine dC ?_;refine⟨_,rF,_,_,_,_,rF,rF,SqT.of O,rF,_,rF,.inl ⟨_,rF⟩,_,rF,?_⟩;rw[qAZ λz=>ah$ by injection z];refine dC ?_;refine⟨_,rF,_,_,_,_,rF,rF,SqT.of O,rF,n,rF,nb.1,?_⟩
    cases c:gf n with
    |false=>exact⟨_,rF,eZ ⟨one,kx H Kp.refl⟩⟩
    |true=>
     obtain⟨i,rfl⟩:=g5 c;refine⟨_,rF,dC ?_⟩;refine⟨_,rF,_,_,_,_,rF,rF,SqT.of O,rF,_,_,rF,rF,_,rF,?_⟩;rw[qAV$ nb.2 i rF];exact⟨one,kx H Kp.refl⟩
   |blk t v e O hb=>
    subst e;refine⟨_,rF,_,_,_,_,rF,dz.tup O,zA1,_,rF,dC ?_⟩;refine⟨_,rF,_,_,rF,.inr$ SqT.of O,rF,_,rF,dC ?_⟩;refine⟨_,rF,_,_,_,_,rF,rF,SqT.of O,rF,_,W,["blocks","behind","ahead"],rF,.inl ⟨_,rF⟩,.inr$ WD.s H,_,rF,?_⟩;rw[show zH3 (V.str "blocks") ["blocks","behind","ahead"]=true by decide];refine dC ?_;refine⟨_,rF,_,_,_,_,rF,rF,SqT.of O,rF,_,rF,.inl ⟨_,rF⟩,_,rF,?_⟩;rw[qAV rF];exact⟨_,rF,_,rF,_,rF,_,_,_,_,rF,rF,SqT.of O,rF,.inr ⟨j,b,v,J,rF,A0,hb,λ⟨a,as,bs,e,R,G⟩=>ng ⟨t,a,as,bs,rF,e▸O,R,G⟩,kx⟩⟩
  |good j t a b J as bs e A0 b1 b2 O R ai G k=>
   subst e;refine⟨_,rF,.inl ⟨b,rF,b1,?_⟩⟩;refine⟨_,rF,_,_,_,_,rF,dz.tup O,zA1,_,rF,dC ?_⟩;refine⟨_,rF,_,_,rF,.inr$ SqT.of O,rF,_,rF,dC ?_⟩;refine⟨_,rF,_,_,_,_,rF,rF,SqT.of O,rF,_,W,["blocks","behind","ahead"],rF,.inl ⟨_,rF⟩,.inr$ WD.s H,_,rF,?_⟩;rw[show zH3 (V.str "blocks") ["blocks","behind","ahead"]=true by decide];refine dC ?_;refine⟨_,rF,_,_,_,_,rF,rF,SqT.of O,rF,_,rF,.inl ⟨_,rF⟩,_,rF,?_⟩;rw[qAV rF];exact⟨_,rF,_,rF,_,rF,_,_,_,_,rF,rF,SqT.of O,rF,.inl ⟨j,a,b,J,as,bs,rF,A0,R,ai,G,b1,b2,k⟩⟩
end
section
inductive iY(C:Addr)(vs:List V)(H:Hp)(Q:VK)(u_3:XK):Prop
 |bench:∀(j:Addr)(bv pv:V),vs=[.ref j,bv,pv]->c_ H bv->fU bv=false->(∀H',Kp [] H H'->Q (.str "bench") H')->iY C vs H Q u_3
 |bad:∀(j:Addr)(b:Int)(pv:V)(J:JR),vs=[.ref j,.int b,pv]->dG C H j J->1<=b->fE H pv->¬d_ J H pv->(∀H',Kp [] H H'->Q (.str "paper") H')->iY C vs H Q u_3
structure nU(K:PySem.W.Frag)(CB Cn Cp Ct Cm:Addr)(D1 D2:Nat->Addr)(Ce:Addr)(b1 b2 b3 b4:Bool):Prop where
 ok:gt K Ce=true
 sub:(jQ K Ce).contains (.ref CB)=true
 kd:xk K Cn Cp Ct Cm D1 D2 Ce b1 b2 b3 b4
abbrev lD:Stmt:=top 73
theorem lU:dq ["_law_jobs_here","_law_benches","_law_paper","_law_e"] ["_law_jobs_here","_law_benches","_law_paper"] (zAg lD):=fnS
theorem tw{CB V Ct Cm:Addr}{D1 D2:Nat->Addr}(F:Fun K "_law_told" "_law_told" lD f fd)(be:mg "BenchError"=some (.ref CB))(W:gt K CB=true)(Rn:nU K CB V Cp Ct Cm D1 D2 V true false false false)(Rp:nU K CB V Cp Ct Cm D1 D2 Cp false true false false)
  (O:jr P w K mg base "shown" 7 ["jobs","benches","paper"] (eG C V Cp)) (S:uL P w K mg base "_law_kind" 1 ["_law_e"] (kL K V Cp Ct Cm D1 D2)):dw P w K mg base CX0 8 f fd ["_law_jobs_here","_law_benches","_law_paper"] (iY C):=by
 refine F.ok lU (λvs H Q E h=>?_) λad A outer s H vs Q E hr h=>?_
 .rcases h with⟨j,bv,pv,rfl,_⟩|⟨j,b,pv,J,rfl,_⟩<;>rfl
 .have aa:=hr.mono (j:=1) dD
  refine⟨_,(zAc (ua (i:=3) rF rF rF rF lU.nd rF rF rF be W (λpl ξ E p ae=>zAe$ zA2$ zFt (E:=E) O hr rF p$ zAa (pv 0)$ zAa (pv 1)$ zAa (pv 2) zAb) λa=>zAe$ zAw$ qd S aa rF$ zAa (pv 3) zAb)$ zAe$ zAw zAu),?_⟩
  have wn:pU true false false false="bench":= dD
  have wp:pU false true false false="paper":= dD
  cases h with
  |bench j bv pv e hb nb k=>
   subst e;rw[<-wn]at k;refine⟨_,rF,_,rF,_,rF,.bench j bv pv rF hb nb ⟨V,rF,Rn.ok,Rn.sub,λa ha=>?_⟩⟩;exact⟨_,rF,V,true,false,false,false,rF,ac,Rn.kd,λH' k'=>k H'$ Kp.trans (Kp.new Kp.refl ha) k'⟩
  |bad j b pv J e A0 b1 hv ng k=>
   subst e;rw[<-wp]at k;refine⟨_,rF,_,rF,_,rF,.bad j b pv J rF A0 b1 hv ng λH1 k1=>⟨Cp,rF,Rp.ok,Rp.sub,λa ha=>?_⟩⟩;exact⟨_,rF,Cp,false,true,false,false,rF,ac,Rp.kd,λH' k'=>k H'$ (k1.trans$ Kp.new Kp.refl ha).trans k'⟩
theorem nI{V:Addr}(F:Fun K "check_benches" "check_benches" zB4 f fd)(U:XC K mg "NoBench" V)(O:Cal P w K mg base "is_whole" 1 ["thing"] fL)(S:Cal P w K mg base "is_whole" 1 ["thing"] eK):dw P w K mg base (CX1 P w) 2 f fd ["benches"] (jx V) :=
 ((zEh F O).lift).both (oO F U S) λ_ _ _ _ h=>h
theorem sK(F:Fun K "shown_by_blocks" "shown_by_blocks" zBb f fd)(T:Txt K mg)(S:Cal P w K mg base "check_blocks" 5 ["jobs","blocks"] (mW C))(O:Cal P w K mg base "turns_filled" 1 ["many","benches"] sO)(V:jr P w K mg base "check_blocks" 5 ["jobs","blocks"] (iH C Cp)):dw P w K mg base (CX1 P w) 6 f fd ["jobs","benches","blocks"] (rA C Cp) :=
 ((zDl F T S O).lift).both (tz F V) λ_ _ _ _ h=>h
def ofL(ds:List Addr)(i:Nat):Addr:=ds.getD i 0
def kdB(K:PySem.W.Frag)(S Cp V W:Addr)(ds es:List Addr)(O:Addr)(b1 b2 b3 b4:Bool):Bool:=zFb K O&&(PySem.W.kitOne K (.ref O) (.ref S)==some b1)&&(PySem.W.kitOne K (.ref O) (.ref Cp)==some b2)&&(PySem.W.kitOne K (.ref O) (.ref V)==some b3)&&(PySem.W.kitOne K (.ref O) (.ref W)==some b4)&&(PySem.W.kitAny K (.ref O) (ds.map Value.ref)==some false)&&(PySem.W.kitAny K (.ref O) (es.map Value.ref)==some false)&&(PySem.W.kitOne K (.ref O) (.type "ValueError")==some true)
theorem nU.of{CB S Cp V W O:Addr}{d0 d1 d2 d3 d4 d5 d6 d7 d8 e0 e1 e2:Addr}{b1 b2 b3 b4:Bool}(h:kdB K S Cp V W [d0,d1,d2,d3,d4,d5,d6,d7,d8] [e0,e1,e2] O b1 b2 b3 b4=true)(x:gt K O=true)(s:(jQ K O).contains (.ref CB)=true):nU K CB S Cp V W (ofL [d0,d1,d2,d3,d4,d5,d6,d7,d8]) (ofL [e0,e1,e2]) O b1 b2 b3 b4:=by
 unfold kdB at h;simp only[qBS,qBQ]at h;obtain⟨⟨⟨⟨⟨⟨⟨h1,h2⟩,h3⟩,h4⟩,h5⟩,h6⟩,h7⟩,h8⟩:=h;exact⟨x,s,h1,h2,h3,h4,h5,h6,h7,h8⟩
end
theorem TA.rank{qs:List (List Str×Addr)}{r:Str->Nat}(G:qI ns qs r){a b:Str}(h:TA qs a b):r a<r b:=by
 obtain⟨q,O,S,V⟩:=h;have:=G.rk q O;rw[S,V]at this;exact this
theorem Way.rank{qs:List (List Str×Addr)}{r:Str->Nat}(G:qI ns qs r){a b:Str}(h:Way qs a b):r a<r b:=by
 induction h with
 |one h=>exact TA.rank G h
 |more _ h O=>exact qCt O$ TA.rank G h
def sQ(ns:List Str)(L:Str->List Str):JR:=⟨0,0,0,0,ns,[],[],λ_=>0,λy=>ns.filter λn=>decide$ y∈L n⟩
theorem zJr{L:Str->List Str}{n y:Str}:n∈(sQ ns L).S y↔n∈ns/\y∈L n:=by
 unfold sQ;rw[qBZ,decide_eq_true_iff]
theorem eR.to{L:Str->List Str}{bs:List (List Str)}(G:eR (sQ ns L) bs)(e:J.ns=ns)(h:∀n∈ns,∀y∈ns,y∈L n->n∈J.S y):eR J bs:=by
 refine⟨G.ne,λB hB x O=>e▸G.ns B hB x O,G.nd,λi B S V W x O y hy=>?_⟩;exact h x (G.ns B (qAJ V) x O) y (G.ns S (qAJ W) y hy) (zJr.mp$ G.nx i B S V W x O y hy).2
section
inductive fZ(C:Addr)(vs:List V)(H:Hp)(Q:VK)(u_3:XK):Prop
 |mk:∀(j t a:Addr)(b:Int)(J:JR)(as:List Addr) (bs:List (List Str)),vs=[.ref j,.int b,.ref t]->dG C H j J->1<=b->b<10^100->H t=some (.tup [.str "blocks",.ref a])->dB H a as bs->bs.length<=20->eR J bs->(∀H',Kp [] H H'->Q (.int$ sL b bs) H')->fZ C vs H Q u_3
theorem oR{W:Addr}(F:Fun K "shown" "shown" zJb f fd)(T:Txt K mg)(WD:Wds K mg W)(aa:Cal P w K mg base "check_benches" 2 ["benches"] fM)(O:Cal P w K mg base "is_one_of" 1 ["thing","names"] (gj K))(S:Cal P w K mg base "shown_by_blocks" 6 ["jobs","benches","blocks"] (mf C)):dw P w K mg base CX0 7 f fd ["jobs","benches","paper"] (fZ C):=by
 refine F.ok jp (λvs H Q E h=>?_) λag A outer s H vs Q E hr h=>?_
 .obtain ⟨j,t,a,b,J,as,bs,rfl,_⟩:=h;rfl
 .obtain ⟨j,t,a,b,J,as,bs,rfl,A0,b1,b2,ht,R,ad,G,k⟩:=h;have ae:=hr.mono (j:=1) dD;have af:=hr.mono (j:=2) dD;have hu:=hu0 hr
  refine⟨_,(zAc (zA2$ zAh aa af rF$ zAa (pv 1) zAb) (zAc (zBk (PW.pt$ zEk (zBm$ zBi$ zAi zBg rR T.z_isinstance zAl$ zAa (pv 2)$ zAa (zBw rR T.z_tuple zGa (v:=.ty "tuple") rF) zAb)$ zEk (zAr zFu (zAi zAp rR T.z_len zBy$ zAa (pv 2) zAb) zAd$ zAv _)$ zDv$ zBm$ zBi$ zAh O ae rF$ zAa (zBd zDb (pv 2) zAd fun _ _=>rfl)$ zAa (zBs (v:=.ref W) rR WD.g rF) zAb)
    (zAe zAz)
    zAs)
   (zAc (zBk (zAr (qj hu) (zBd zDb (pv 2) zAd fun _ _=>rfl) zAu$ zAv _)
    (zAe$ zAw$ zAh S hr rF$ zAa (pv 0)$ zAa (pv 1)$ zAa (zBd zDb (pv 2) zAd λ_ _=>rfl) zAb)
    zAs)$ zAc zAz$ zAc zAz$ zAe zAz))),?_⟩
  refine⟨_,rF,b,rF,b1,?_⟩;refine⟨_,rF,_,_,_,_,rF,dz.tup ht,zA1,_,rF,dC ?_⟩;refine⟨_,rF,_,_,rF,.inr$ SqT.of ht,rF,_,rF,dC ?_⟩;refine⟨_,rF,_,_,_,_,rF,rF,SqT.of ht,rF,_,W,["blocks","behind","ahead"],rF,.inl ⟨_,rF⟩,.inr$ WD.s H,_,rF,?_⟩;rw[show zH3 (V.str "blocks") ["blocks","behind","ahead"]=true by decide];refine dC ?_;refine⟨_,rF,_,_,_,_,rF,rF,SqT.of ht,rF,_,rF,.inl ⟨_,rF⟩,_,rF,?_⟩;rw[qAV rF];exact⟨_,rF,_,rF,_,rF,_,_,_,_,rF,rF,SqT.of ht,rF,j,a,b,J,as,bs,rF,A0,R,ad,G,b1,b2,k⟩
inductive pS(vs:List V)(H:Hp)(Q:VK)(u_3:XK):Prop
 |mk:∀(x y:V)(t a:Addr)(b:Int)(as:List Addr) (bs:List (List Str)),vs=[x,y,.int b,.ref t]->1<=b->b<10^100->H t=some (.tup [.str "blocks",.ref a])->dB H a as bs->bs.length<=20->(∀H',Q (.int$ sL b bs) H')->pS vs H Q u_3
abbrev mX:Stmt:=top 64
theorem vj:dq ["_law_names_here","_law_behind_here","_law_benches","_law_paper","_law_tall_here","_law_many"] ["_law_names_here","_law_behind_here","_law_benches","_law_paper"] (zAg mX):=fnS
theorem ve(F:Fun K "_law_due" "_law_due" mX f fd)(T:Txt K mg):dw P w K mg base CX0 1 f fd ["_law_names_here","_law_behind_here","_law_benches","_law_paper"] pS:=by
 refine F.ok vj (λvs H Q E h=>?_) λaa A outer s H vs Q E hr h=>?_
 .obtain ⟨x,y,t,a,b,as,bs,rfl,_⟩:=h;rfl
 .obtain ⟨x,y,t,a,b,as,bs,rfl,b1,b2,W,R,ad,k⟩:=h
  refine⟨_,(zAc (zBk (zAr zD8 (zBd zDb (pv 3) zAd λ_ _=>rfl) zAu$ zAv _) (zAe$ zAw$ zAi (zF8 rF) rR T.z_sum iN$ zAa (zBn rF (zBp (sc:=zAg mX) rF kK) (du.own (x:="_law_row")$ dtk (i:=2) rF du.nil) (zAq$ zBd zDb (pv 3) zAd λ_ _=>rfl) (λ_ _ _ _=>(pgB (i:=0))) (λ_ _ _ _=>zCm) λ_ _ _ _=>(zAn zBr (zAn zE9 (zAn zCy (zAi (zC3 (K:=K)) rR T.z_len zBy$ zAa (pv 0) zAb)$ pv 1) zAd)$ pv 1)) zAb) zAs)$ zAc zAz$ zAc zAz$ zAc zAz$ zAe zAz),?_⟩
  refine⟨_,rF,_,_,_,_,rF,rF,SqT.of W,rF,rF,_,rF,eZ ?_⟩;refine⟨_,rF,_,_,_,_,rF,rF,SqT.of W,rF,_,rF,⟨_,SqL.of R.top⟩,λY hY=>zBc (as.map V.ref) (λi ys O S=>(∃o0,O=[o0,some (.int b)])/\ys=((bs.take i).map λB=>V.int$ tf (B.length:Int) b)/\S=upd H Y (.lst ys)) ⟨⟨_,rF⟩,rF,rF⟩ (λi ys O S ⟨_,_,z⟩=>by subst z;exact SqL.of$ (Kp.new (M:=[]) Kp.refl hY) _ _ R.top ss) ?_ ?_⟩
  .rintro i v ys O S hv ⟨⟨o0,rfl⟩,rfl,rfl⟩;obtain⟨c,B,_,eB,rfl,hc⟩:=R.of hv;have kY:Kp [] H (upd H Y$ .lst$ (bs.take i).map λB=>V.int$ tf (B.length:Int) b):=Kp.new Kp.refl hY;refine⟨_,rF,_,_,rF,.inl$ SqL.of$ kY _ _ hc ss,_,rF,_,_,rF,rF,_,_,rF,rF,_,rF,_,_,rF,rF,⟨Ll,b2⟩,ac,?_,⟨_,rF⟩,?_,zB7⟩
   .rw [qAD,qAU,qAK];lia
   .rw [zAk eB,qAP,qAD];rfl
  .rintro ys O S ⟨_,rfl,rfl⟩;have eT:bs.take (as.map V.ref).length=bs:=by rw[qAD,R.len,qAg]
   rw[eT];refine⟨Y,bs.map λB:List Str=>tf (B.length:Int) b,rF,SqL.of (by rw[ac,qBO];rfl),?_⟩;exact k _
end
theorem pne{a:Addr}{o:HO}(P:zB9 H p)(h:H a=some o)(n:∀x y:Int,o≠.lst [.int x,.int y]):a≠p:=λz=>by
 obtain⟨x,y,e,_⟩:=P;rw[z,e]at h
 cases h
 exact n x y rF
theorem rY(x y:Int):HO.lst (as.map V.ref)≠.lst [.int x,.int y]:=λz=>by
 injection z with z
 cases as with
 |nil=>cases z
 |cons a as=>injection z with z;cases z
theorem sD{r:List Str}(x y:Int):HO.lst (r.map V.str)≠.lst [.int x,.int y]:=λz=>by
 injection z with z
 cases r with
 |nil=>cases z
 |cons a as=>injection z with z;cases z
theorem dB.kpp{l:Addr}{rs:List (List Str)}(R:dB H l as rs)(P:zB9 H p)(k:Kp [p] H H'):dB H' l as rs:=⟨k _ _ R.top$ nm1$ pne P R.top rY,R.len,λi a r O S=>k _ _ (R.row i a r O S)$ nm1$ pne P (R.row i a r O S) sD⟩
theorem TxB.kpp(h:TxB H v)(P:zB9 H p)(k:Kp [p] H H'):TxB H' v:=by
 obtain⟨a,as,rs,e,R,O,S⟩:=h;exact⟨a,as,rs,e,R.kpp P k,O,S⟩
theorem DR.kpp{d:Addr}{O:Str->Addr}{L:Str->List Str}(D:DR H d ns O L)(P:zB9 H p)(k:Kp [p] H H'):DR H' d ns O L:=⟨k _ _ D.top (nm1$ pne P D.top λ_ _ z=>nomatch z),λn S=>k _ _ (D.row n S)$ nm1$ pne P (D.row n S) λ_ _ z=>nomatch z⟩
theorem dW.back{b:Addr}{r:List Str}(h:dW H (.ref b))(k:Kp [] H H')(e:H' b=some (.lst$ r.map V.str)):H b=some (.lst$ r.map V.str):=by
 cases h with
 |lst a ys O h _ _=>
  cases O
  have:=k _ _ h ss;rw[e]at this;rw[h,<-this]
 |no n=>exact absurd e$ (n.kp0 k).2 b _ rF
theorem fE.back(h:fE H v)(k:Kp [] H H')(g:d_ J H' v):d_ J H v:=by
 obtain⟨t,a,as,bs,rfl,O,R,G⟩:=g
 cases h with
 |blk t' b e h W=>
  cases e
  have e:=k _ _ h ss;rw[O]at e
  cases e
  refine⟨t,a,as,bs,rF,h,?_,G⟩
  cases W with
  |lst a' xs e S _ hx=>
   cases e
   have e:=k _ _ S ss;rw[R.top]at e
   cases e
   exact⟨S,R.len,λi b r V e2=>(hx (.ref b)$ qAe.mpr ⟨b,qAJ V,rF⟩).back k$ R.row i b r V e2⟩
  |no n=>exact absurd R.top$ (n.kp0 k).2 a _ rF
 |num t' x n e h w _=>
  cases e
  have e:=k _ _ h ss;rw[O]at e
  cases e
  rcases w with w|w<;>exact absurd w dD
 |odd t' x n e h w _=>
  cases e
  have e:=k _ _ h ss;rw[O]at e
  cases e
  exact absurd rF (w.2 _ rF).1
 |oth o=>exact absurd rF$ (o.kp0 k).2 t _ rF O
structure Hlv(H:Hp)(h:Addr)(hs:List V)(ns:List Str):Prop where
 top:H h=some (.lst hs)
 ne:ns≠[]->hs≠[]
 len:hs.length<=40000
 all:∀v∈hs,TxB H v
theorem Hlv.kp0{h:Addr}{hs:List V}(x:Hlv H h hs ns)(k:Kp [] H H'):Hlv H' h hs ns:=⟨k _ _ x.top ss,x.ne,x.len,λv O=>(x.all v O).kp0 k⟩
theorem Hlv.kpp{h:Addr}{hs:List V}(x:Hlv H h hs ns)(P:zB9 H p)(k:Kp [p] H H'):Hlv H' h hs ns:=⟨k _ _ x.top (nm1 (pne P x.top λa b z=>by
 injection z with z;subst z;obtain⟨_,_,_,e,_⟩:=x.all (.int a) ss
 cases e)),x.ne,x.len,λv O=>(x.all v O).kpp P k⟩
structure Stt(C:Addr)(H:Hp)(l d c h x:Addr)(ns:List Str)(la:Str->Addr)(L:Str->List Str)(as:List Addr)(bs:List (List Str))(hs:List V)(J:JR):Prop where
 l:Txs H l ns
 d:DR H d ns la L
 c:dB H c as bs
 h:Hlv H h hs ns
 j:dG C H x J
theorem Stt.kp0{C:Addr}{l d c h x:Addr}{O:Str->Addr}{L:Str->List Str}{bs:List (List Str)}{hs:List V}(s:Stt C H l d c h x ns O L as bs hs J)(k:Kp [] H H'):Stt C H' l d c h x ns O L as bs hs J:=⟨k _ _ s.l ss,s.d.kp0 k,s.c.kp k,s.h.kp0 k,s.j.kp0 k⟩
section
inductive jb(K:PySem.W.Frag)(vs:List V)(H:Hp)(Q:VK)(u_3:XK):Prop
 |mk:∀(a:Addr)(ns:List Int),vs=[.ref a]->SqL K H a (ns.map V.int)->ns.length<=63->(∀H',Q (.bl true) H')->jb K vs H Q u_3
abbrev fY:Stmt:=top 74
theorem zEe:dq ["_law_script","_law_purse_here","_law_names_here","_law_orders","_law_behind_here","_law_rows","_law_halves_here","_law_jobs_here","_law_benches","_law_cell_here","_law_paper"] ["_law_script"] (zAg fY):=fnS
theorem u6(F:Fun K "law" "law" fY f fd)(T:Txt K mg)(ax:Cal P w K mg base "_law_cell" 1 ["_law_script","_law_k"] (lq K))(ap:Cal P w K mg base "_law_purse" 1 ["_law_cell_here","_law_k"] iG)(ay:Cal P w K mg base "_law_take" 1 ["_law_purse_here","_law_many"] eV)(aA:Cal P w K mg base "_law_jobs" 3 ["_law_purse_here","_law_most"] iB)(ag:Cal P w K mg base "_law_behind" 1 ["_law_names_here","_law_orders"] fo)
  (ah:Cal P w K mg base "_law_blocks" 2 ["_law_purse_here","_law_names_here","_law_behind_here"] fv) (aq:Cal P w K mg base "_law_loose" 2 ["_law_names_here","_law_behind_here"] iT) (ai:Cal P w K mg base "_law_halves" 2 ["_law_names_here","_law_behind_here"] fP) (aH:Cal P w K mg base "_law_bad" 4 ["_law_cell_here","_law_names_here","_law_rows","_law_halves_here"] pz) (aa:Cal P w K mg base "_law_is_paper" 3 ["_law_behind_here","_law_paper"] fh)
  (ad:Cal P w K mg base "_law_no_bench" 1 ["_law_cell_here"] fz) (af:Cal P w K mg base "_law_told" 8 ["_law_jobs_here","_law_benches","_law_paper"] (iY C)) (ar:Cal P w K mg base "shown" 7 ["jobs","benches","paper"] (fZ C)) (aI:Cal P w K mg base "_law_due" 1 ["_law_names_here","_law_behind_here","_law_benches","_law_paper"] pS) (aB:Mkr P w K mg base C "Jobs" 4 ["self","names","orders"] (iE C)):dw P w K mg base CX0 9 f fd ["_law_script"] (jb K):=by
 refine F.ok zEe (λvs H Q E h=>?_) λbH A outer s H vs Q E hr h=>?_
 .obtain ⟨a,ns,rfl,_⟩:=h;rfl
 .obtain ⟨sc,is,rfl,hS,bG,k⟩:=h;have aj:=hr.mono (j:=1) dD;have aJ:=hr.mono (j:=2) dD;have aT:=hr.mono (j:=3) dD;have ba:=hr.mono (j:=4) dD;have bc:=hr.mono (j:=5) dD;have bd:=hr.mono (j:=7) dD
  refine⟨_,(PSZ.to (zBe (eY$ by exact(psS (i:=1) zEe.nd$ zAh ap aj rF$ zAa (zAh ax aj rF$ zAa (pv 0)$ zAa zAd zAb)$ zAa zAd zAb)) (zBe (eY$ by exact (iU (zAh aA aT rF$ zAa (pv 1)$ zAa zAd zAb)$ zIv rF$ zBf (pgN (i:=2) zEe.nd)$ zBf (pgN (i:=3) zEe.nd) zD5))
   (zBe (eY$ by exact (psS (i:=4) zEe.nd$ zAh ag aj rF$ zAa (pv 2)$ zAa (pv 3) zAb))
   (zBe (eY$ by exact (psS (i:=5) zEe.nd$ zAh ah aJ rF$ zAa (pv 1)$ zAa (pv 2)$ zAa (pv 4) zAb))
   (zBe (eY$ by exact (psS (i:=6) zEe.nd$ zAj zAb))
   (zBe (eY (by exact (zBk (zAr (zEt hr) (pv 2) (zAj zAb)$ zAv _)
    (zAe$ psS (i:=6) zEe.nd$ zAn zC0 (zAh aq aJ rF$ zAa (pv 2)$ zAa (pv 4) zAb)$ zAh ai aJ rF$ zAa (pv 2)$ zAa (pv 4) zAb)
    zAs)))
   (zBe (eY$ by exact (psS (i:=7) zEe.nd$ qf aB bc rF$ zAa (zA8 zBu rR T.z_list zCe$ zAa (pv 2) zAb)$ zAa (zA8 zBu rR T.z_list zCe$ zAa (pv 3) zAb) zAb))
   (zBe (eY$ by exact (psS (i:=8) zEe.nd$ zAn zCy zAd$ zAh ay aj rF$ zAa (pv 1)$ zAa zAd zAb))
   (zBe (eY (zA7 qAc rF (zAq$ @zAn _ _ _ _ _ _ _ _ zC0 (by exact (zB1 zCi (pv 0) (zCd zAd)$ zCd zAd))$ @zFg _ _ _ _$ zA5 zAd$ zA5 zAd$ zA5 zAd$ zA5 zAd$ zA5 zAd$ zA5 zAd$ zA5 zAd$ zA5 zAd$ zA5 zAd$ zA5 zAd$ zA5 zAd$ zA5 zAd zCn) (by exact (pgN (i:=9) zEe.nd))
    (PSZ.to (zBe (eY$ by exact (psS (i:=10) zEe.nd$ zAh aH ba rF$ zAa (zAn zBr (zAi jV rR T.z_abs pR$ zAa (pv 9) zAb) zAd)$ zAa (pv 2)$ zAa (pv 5)$ zAa (pv 6) zAb))
    (zBe (eY (by exact (zBk (PW.pt$ zHl (zBm$ zBi$ zAh aa aT rF$ zAa (pv 4)$ zAa (pv 10) zAb)$ zGg$ zAr zFu (zAh af hr rF$ zAa (pv 7)$ zAa (pv 8)$ zAa (pv 10) zAb) zAu$ zAv _)
     (zAe zAz)
     zAs)))
    (zEq (eY (by exact (zBk (zAr zFu (zAh af hr rF$ zAa (pv 7)$ zAa (zAh ad aj rF$ zAa (zAi jV rR T.z_abs pR$ zAa (pv 9) zAb) zAb)$ zAa (zBd zA0 (zAj$ zAa (pv 10)$ zAa (zCa$ zAa zAu$ zAa (pv 5) zAb) zAb) (zAn zBa (pv 9) zAd) fun _ _=>rfl) zAb) zAu$ zAv _)
     (zAe zAz)
     zAs)))))))))$ zEq$ eY$ by exact(zAw$ zCs zD8 (zAh ar bd rF$ zAa (pv 7)$ zAa (pv 8)$ zAa (zCa$ zAa zAu$ zAa (pv 5) zAb) zAb) (zAh aI aj rF$ zAa (pv 2)$ zAa (pv 4)$ zAa (pv 8)$ zAa (zCa$ zAa zAu$ zAa (pv 5) zAb) zAb)$ zAv _))))))))))),?_⟩
  refine wt ?_;intro _ _ _ _ _ _ _ _ _;have hz:=qAK;refine⟨_,rF,sc,is,0,rF,hS,dD,λc0=>?_⟩;refine⟨c0,0,rF,dD,dD,λp H1 fp P1 k1=>?_⟩;refine⟨_,rF,p,20,rF,dD,dD,P1,λt l m ns qs r H2 _ _ ht ft fl fm fq hl hm G P2 K2=>?_⟩;have k2:Kp [] H H2:=Kp.drop k1 fp K2;refine⟨_,_,rF,.inl$ .inl ht,rF,_,_,rF,_,_,rF,rF,?_⟩;refine⟨_,rF,_,rF,l,m,ns,qs,rF,hl,hm,G.nd,G.few,G.qfew,G.qin,λd la L H3 D3 hL k3=>?_⟩;have P3:=P2.kp k3 ss;have aK:Txs H3 l ns:=k3 _ _ hl ss;have be:∀n∈ns,(L n).Nodup/\∀x∈L n,x∈ns:=λn hn=>⟨(hL n hn).1,λx hx=>(Way.to hm.two G.qin$ ((hL n hn).2 x).mp hx).2⟩;refine⟨_,rF,_,rF,_,rF,p,l,d,sQ ns L,r,la,L,rF,P3,aK,D3.rd,G.nd,G.few,λn hn x hx=>?_,λn hn x hx=>?_,λc as bs H4 fc bI R4 aL BG P4 K4=>?_⟩
  .obtain ⟨h1,h2⟩:=zJr.mp hx;exact Way.rank G$ ((hL x h1).2 n).mp h2
  .rw [zJr];exact⟨λh=>⟨hn,h⟩,λh=>h.2⟩
  have aC:Txs H4 l ns:=K4 _ _ aK$ nm1$ zJe aK P3;have D4:=D3.rd.kpp P3 K4
  have bf:fF H4 m qs:=by
   have aM:=hm.kp k3 ss ss
   exact aM.kp K4 (nm1 (pne P3 aM.top λx y z=>by
    injection z with z
    cases qs with
    |nil=>cases z
    |cons a as=>injection z with z;cases z)) (λq hq=>nm1$ pne P3 (aM.row q hq) λ_ _ z=>nomatch z)
  refine⟨(by walk_at"ln"),λh0 q0=>?_⟩;obtain⟨H5,e5,k5,h5⟩:=dJ (o:=.lst []) q0;rw[e5];refine gN ?_;dsimp only;refine qz (λσ H'=>∃h hs,σ=[some (.ref sc),some (.ref p),some (.ref l),some (.ref m),some (.ref d),some (.ref c),some (.ref h),none,none,none,none]/\Kp [] H4 H'/\Hlv H' h hs ns) ?_ λkey=>?_
  rotate_left
  .refine ⟨_,rF,(by walk_at"ln"),λe0 qe=>?_⟩;obtain⟨H6,e6,k6,h6⟩:=dJ (o:=.lst []) qe;rw[e6];have ae:=k5.trans k6;refine neR (SqL.of$ ae _ _ aC ss) (SqL.of h6) λbb aU=>⟨_,rF,dE (λc2=>?_) λc2=>key _ _ ⟨h0,[],rF,ae,k6 _ _ h5 ss,λnn=>?_,ss,(λ_ h=>nomatch h)⟩⟩
   .have nn:ns≠[]:=λz=>aU.mp c2 (by rw[z];rfl);refine⟨_,rF,_,rF,l,d,ns,la,L,rF,ae _ _ aC ss,D4.kp0 ae,G.few,λs1 aN H7 k7 f7 h7 l7 t7=>?_⟩;refine⟨_,rF,_,rF,l,d,ns,la,L,rF,(ae.trans k7) _ _ aC ss,D4.kp0$ ae.trans k7,D3.ne,G.nd,G.few,nn,be,λs2 aO H8 k8 f8 h8 n8 l8 t8=>?_⟩;refine⟨s1,s2,aN,aO,rF,rF,k8 _ _ h7 ss,h8,Ll,λh hh=>?_⟩;obtain⟨H9,e9,k9,h9⟩:=dJ (o:=.lst$ aN++aO) hh;rw[e9];refine key _ _ ⟨h,aN++aO,rF,ae.trans$ k7.trans$ k8.trans k9,h9,λ_ z=>n8 (List.append_eq_nil_iff.mp z).2,by rw[qAN];lia,λv hv=>?_⟩;rcases qAR.mp hv with z|z
    .exact (t7 v z).b.kp0$ k8.trans k9
    .exact (t8 v z).b.kp0 k9
   .exact absurd (aU.mpr λz=>nn$ qCd.mp z) c2
  rintro σ H6 ⟨h,hs,rfl,k6,bg⟩;have aV:Txs H6 l ns:=k6 _ _ aC ss;have aD:=bf.kp k6 ss ss;have P6:=P4.kp k6 ss;refine⟨_,rF,_,_,rF,.inl$ SqL.of aV,λa1 bh=>?_⟩;obtain⟨H7,e7,k7,h7⟩:=dJ (o:=.lst$ ns.map V.str) bh;rw[e7];have aW:=aD.kp k7 ss ss;refine⟨_,rF,_,_,rF,.inl$ SqL.of aW.top,λa2 bi=>?_⟩;obtain⟨H8,e8,k8,h8⟩:=dJ (o:=.lst$ qs.map λq=>V.ref q.2) bi;rw[e8];refine λx dx hx bj bJ=>?_;have fx:Fre H8 x:=hx;have k9:Kp [] H8 (upd (upd H8 dx$ .own x) x$ .ins C dx []):=Kp.new (Kp.new Kp.refl bj) fx;have aP:(upd (upd H8 dx$ .own x) x$ .ins C dx []) x=some (.ins C dx []):=ac;generalize upd (upd H8 dx$ .own x) x (.ins C dx [])=H9 at k9 aP ⊢;refine⟨x,dx,a1,a2,ns,qs,r,rF,aP,(k8.trans k9) a1 _ h7 ss,⟨k9 a2 _ h8 ss,λq hq=>(k7.trans$ k8.trans k9) _ _ (aD.row q hq) ss,aD.two⟩,G,λJ aX aE ak bk bl aY=>⟨rF,?_⟩⟩;subst bk;have O:Kp [] H6 aX:=(k7.trans k8).trans$ Kp.drop k9 fx aY;have au:=P6.kp O ss;have SW:∀n∈J.ns,∀y∈J.ns,y∈L n↔n∈J.S y:=λn hn y hy=>((hL n hn).2 y).trans (xj aE G bl hy).symm;have BJ:eR J bs:=BG.to rF λn hn y hy h=>(SW n hn y hy).mp h;have al:Stt C aX l d c h x J.ns la L as bs hs J:=⟨O _ _ aV ss,(D4.kp0 k6).kp0 O,(R4.kp k6).kp O,bg.kp0 O,aE⟩;refine⟨_,rF,p,4,rF,au,dD,kK,λdd aZ d0 d1 bK am=>?_⟩;refine⟨_,_,rF,rF,?_⟩
  have p9:∀{a:Addr},Fre H9 a->p≠a:=λ{a} fa=>by
   obtain⟨u,v,e,_⟩:=P6;exact b_ fa$ (k7.trans$ k8.trans k9) _ _ e ss
  have bn:Stt C aZ l d c h x J.ns la L as bs hs J:=⟨am _ _ al.l$ nm1$ zJe al.l au,al.d.kpp au am,al.c.kpp au am,al.h.kpp au am,aE.kp am λa o _ ha=>by
   rw[qAO.mp ha];refine⟨?_,p9 ak.r,p9 ak.p,p9 ak.e,λq hq=>p9$ ak.z q hq,λn hn=>p9$ ak.s n hn⟩;obtain⟨u,v,e,_⟩:=P6;exact b_ fx$ (k7.trans k8) _ _ e ss⟩
  clear al aE ak aY aP k9 k8 k7 h7 h8 aW aD;have a0:Kp [] H aZ:=Kp.drop (((Kp.drop (k2.trans k3) fp K4).trans k6).trans O) fp am;have b1:1<=1+dd:=Ll
  have b2:1+dd<10^100:=Int.lt_trans (show 1+dd<1000 by lia) kK;generalize 1+dd=b at b1 b2;refine⟨_,rF,_,rF,_,rF,_,_,rF,a0.seq hS,λb3 bo=>?_⟩
  obtain⟨js,bp,bL⟩:∃js:List Int,fI (is.map V.int) (some 1) (some 31)=js.map V.int/\js.length<=63:=by
   have hl:=zIa (is.map V.int) (some 1)$ some 31;rw[qAD]at hl;unfold fI at hl ⊢;rw[<-qBl,<-qBk]at hl ⊢;exact⟨_,rF,by rw[qAD]at hl;lia⟩
  rw[bp];obtain⟨bM,bq,br,h12⟩:=dJ (o:=.lst$ js.map V.int) bo;rw[bq];refine⟨(by walk_at"ln"),λb4 bt=>?_⟩;obtain⟨bN,bu,a3,h13⟩:=dJ (o:=.lst [.int 0,.int 5,.int 7,.int 8,.int 9,.int 200,.int 220,.int 480,.int 760,.int 1040,.int 1320,.int 260]) bt;rw[bu];refine⟨b3,b4,_,_,rF,rF,a3 _ _ h12 ss,h13,by rw[qAD,hz];simp;lia,λb5 bw=>?_⟩;obtain⟨a4,bx,bz,h14⟩:=dJ (o:=.lst$ js.map V.int++[.int 0,.int 5,.int 7,.int 8,.int 9,.int 200,.int 220,.int 480,.int 760,.int 1040,.int 1320,.int 260]) bw;rw[bx];have h14:a4 b5=some (.lst$ (js++[0,5,7,8,9,200,220,480,760,1040,1320,260]).map V.int):=by rw[h14,qAP];rfl
  have a5:=bn.kp0$ br.trans$ a3.trans bz;generalize js++[0,5,7,8,9,200,220,480,760,1040,1320,260]=zs at h14;refine⟨_,rF,⟨_,SqL.of h14⟩,zA3 (xs:=zs.map V.int) (λi σ aF=>(∃o9 aQ:Option V,σ=[some (.ref sc),some (.ref p),some (.ref l),some (.ref m),some (.ref d),some (.ref c),some (.ref h),some (.ref x),some (.int b),o9,aQ])/\Kp [] a4 aF) ⟨⟨_,_,rF⟩,Kp.refl⟩ (λi σ aF _ ⟨_,an⟩=>SqL.of$ an _ _ h14 ss) ?_ ?_⟩
  .rintro i v σ aF hv ⟨⟨o9,aQ,rfl⟩,an⟩;rw[qAY]at hv;obtain⟨ce,_,rfl⟩:=qBU.mp hv;have S:=a5.kp0 an;have az:0<=(if ce<0 then -ce else ce):=by split<;>lia
   refine⟨_,rF,ce,rF,_,_,rF,rF,⟨dD,kK⟩,_,rF,_,rF,_,rF,_,l,c,h,J.ns,as,bs,hs,rF,S.l,G.few,S.c,aL,λB hB=>⟨BJ.ne B hB,qAW (zB3 (mT BJ.nd hB)$ BJ.ns B hB) G.few⟩,qCQ az dD,S.h.top,S.h.ne,S.h.len,S.h.all,λpv aR aG hp=>?_⟩;have ao:=S.kp0 aG;refine gN ?_;dsimp only;refine qz (λσ H'=>σ=[some (.ref sc),some (.ref p),some (.ref l),some (.ref m),some (.ref d),some (.ref c),some (.ref h),some (.ref x),some (.int b),some (.int ce),some pv]/\Kp [] aR H') ?_ λkey=>?_
   rotate_left
   .refine ⟨_,rF,_,rF,d,pv,J,la,L,rF,ao.d,λn hn y hy h=>(SW n hn y hy).mpr h,hp,λbb aS W g=>⟨_,rF,?_⟩⟩
    cases bb with
    |true=>exact key _ _ ⟨rF,W⟩
    |false=>
     have ng:¬d_ J aR pv:=λz=>qAd$ g z;have bA:¬d_ J aS pv:=λz=>ng$ hp.back W z;refine⟨_,rF,_,rF,_,rF,.bad x b pv J rF (ao.j.kp0 W) b1 (hp.kp0 W) bA λa6 aw=>?_⟩;refine⟨rF,_,rF,dC ?_⟩;exact key _ _ ⟨rF,W.trans aw⟩
   rintro σ aS ⟨rfl,W⟩;refine⟨_,rF,_,rF,ce,rF,_,rF,λbv a6 tb nb aw=>?_⟩;refine⟨_,rF,_,rF,(by walk_at"ln"),λt1 q1=>?_⟩;obtain⟨a7,bB,a8,h19⟩:=dJ (o:=.tup [.str "blocks",.ref c]) q1;rw[bB];refine⟨(by walk_at"ln"),λb6 q2=>?_⟩;obtain⟨bO,bC,a9,h20⟩:=dJ (o:=.lst [pv,.ref t1]) q2;rw[bC];obtain⟨v',_,av⟩:=u0 (xs:=[pv,.ref t1]) ss ce;refine⟨_,rF,_,_,rF,rF,dD,_,_,_,v',rF,rF,SqL.of h20,av,?_⟩;refine .bench x bv v' rF (zCu tb$ a8.trans a9) nb λbP bD=>?_;exact⟨rF,_,rF,dC ⟨⟨_,_,rF⟩,an.trans$ aG.trans$ W.trans$ aw.trans$ a8.trans$ a9.trans bD⟩⟩
  .rintro σ aF ⟨⟨o9,aQ,rfl⟩,an⟩;have S:=a5.kp0 an;refine⟨_,rF,_,rF,_,rF,(by walk_at"ln"),λt1 q1=>?_⟩;obtain⟨aR,bE,aG,h16⟩:=dJ (o:=.tup [.str "blocks",.ref c]) q1;rw[bE];have ao:=S.kp0 aG;refine⟨x,t1,c,b,J,as,bs,rF,ao.j,b1,b2,h16,ao.c,aL,BJ,λaS W=>?_⟩;refine⟨_,rF,_,rF,_,rF,_,rF,(by walk_at"ln"),λt2 q2=>?_⟩;obtain⟨a6,bF,aw,h18⟩:=dJ (o:=.tup [.str "blocks",.ref c]) q2;rw[bF];refine⟨_,_,t2,c,b,as,bs,rF,b1,b2,h18,ao.c.kp$ W.trans aw,aL,λa7=>⟨rF,?_⟩⟩;rw[qAV rF];exact k a7
end
def Hd(K:PySem.W.Frag)(x q:Str)(st:Stmt)(f:Addr):Prop:=∃O S kV V W an cd ct sl,K.lookup f=some ⟨O,S,.func$ PySem.W.fnOf x q (zDq st) (zCt st) (zAg st) .none kV V W an cd ct,sl⟩/\PySem.W.codeIn K cd q=true/\PySem.W.keepIn K (.ref f)=true
def Dft(K:PySem.W.Frag)(x:Str)(st:Stmt)(f:Addr):Prop:=PySem.W.nsIn K mainGlobals x=some (some$ .ref f)/\Hd K x x st f
def nnB(K:PySem.W.Frag)(x:Str):Bool:=match PySem.W.nsIn K mainGlobals x with
 |some none=>true
 |_=>false
theorem vL{K:PySem.W.Frag}{x:Str}{h:Heap}{mg:Str->Option Value}(X:K.In h)(G:h.Ns mainGlobals mg){xs:List Str}(a:xs.all (nnB K)=true)(m:x∈xs):mg x=none:=by
 have e:=qBt.mp a x m;unfold nnB at e;split at e
 .rename_i O;exact PySem.W.mg_none_of X G O
 .cases e
theorem Hd.to{K:PySem.W.Frag}{x q:Str}{st:Stmt}(t:Hd K x q st f):∃fd,Fun K x q st f fd:=by
 obtain⟨_,_,_,_,_,_,_,_,_,l,c,k⟩:=t;exact⟨_,qA l c k⟩
section
variable{K:PySem.W.Frag}{x q a b c d g:Str}{st:Stmt}{f:Addr}{fd:FuncData}(F:Fun K x q st f fd)
include F
theorem _root_.L2.Fun.b1(h:∀(kV O S:Value)(W:Option Addr)(V ct u:Value),bindArgs (PySem.W.fnOf x q (zDq st) (zCt st) (zAg st) .none kV O S W V ct) ⟨[u],[]⟩=pure [(a,u)]:=by intros;rfl):zDe K fd [a] []:=F.binds λkV O S W V ct us hl=>match us,hl with|[u],_=>h kV O S W V ct u
theorem _root_.L2.Fun.b2(h:∀(kV O S:Value)(W:Option Addr)(V ct u v:Value),bindArgs (PySem.W.fnOf x q (zDq st) (zCt st) (zAg st) .none kV O S W V ct) ⟨[u,v],[]⟩=pure [(a,u),(b,v)]:=by intros;rfl):zDe K fd [a,b] []:=F.binds λkV O S W V ct us hl=>match us,hl with|[u,v],_=>h kV O S W V ct u v
theorem _root_.L2.Fun.b3(h:∀(kV O S:Value)(W:Option Addr)(V ct u v w:Value),bindArgs (PySem.W.fnOf x q (zDq st) (zCt st) (zAg st) .none kV O S W V ct) ⟨[u,v,w],[]⟩=pure [(a,u),(b,v),(c,w)]:=by intros;rfl):zDe K fd [a,b,c] []:=F.binds λkV O S W V ct us hl=>match us,hl with|[u,v,w],_=>h kV O S W V ct u v w
theorem _root_.L2.Fun.b4(h:∀(kV O S:Value)(W:Option Addr)(V ct u v w z:Value),bindArgs (PySem.W.fnOf x q (zDq st) (zCt st) (zAg st) .none kV O S W V ct) ⟨[u,v,w,z],[]⟩=pure [(a,u),(b,v),(c,w),(d,z)]:=by intros;rfl):zDe K fd [a,b,c,d] []:=F.binds λkV O S W V ct us hl=>match us,hl with|[u,v,w,z],_=>h kV O S W V ct u v w z
end
section
variable{K:PySem.W.Frag}{mg:Str->Option Value}{x q:Str}{st:Stmt}{f:Addr}{fd:FuncData}{ps:List Str}{sp:Sp}{k:Nat}(P:Program)(w:World)(base:Heap)
theorem cal(g:mg x=some (.ref f))(F:Fun K x q st f fd)(b:zDe K fd ps [])(h:dw P w K mg base CX0 k f fd ps sp):Cal P w K mg base x k ps sp:=⟨f,fd,g,F.kp,b,h⟩
theorem qC(g:mg x=some (.ref f))(F:Fun K x q st f fd)(b:zDe K fd ps [])(h:dw P w K mg base (CX1 P w) k f fd ps sp):jr P w K mg base x k ps sp:=⟨f,fd,g,F.kp,b,h⟩
theorem xV{sp:Addr->Sp}(g:mg x=some (.ref f))(F:Fun K x q st f fd)(b:zDe K fd ps [])(h:jj P w K mg base k f fd ps sp):uL P w K mg base x k ps sp:=⟨f,fd,g,F.kp,b,h⟩
def Dfm(K:PySem.W.Frag)(C:Addr)(m q:Str)(st:Stmt)(f:Addr):Prop:=PySem.W.findIn K (.ref C) m=some (some$ .ref f)/\PySem.W.isFn K (.ref f)=true/\Hd K m q st f
theorem mth{C:Addr}{m:Str}(t:Dfm K C m q st f)(F:Fun K m q st f fd)(b:zDe K fd ps [])(h:dw P w K mg base CX0 k f fd ps sp):Mth P w K mg base C m k ps sp:=⟨f,fd,⟨t.1,t.2.1,F.kp⟩,b,h⟩
end
theorem wc{l:PySem.W.OpenLaw}{w:World}{K:PySem.W.Frag}{h:Heap}{mg:Str->Option Value}{fa:Addr}(X:K.In h)(G:h.Ns mainGlobals mg)(cN:mg "law"=some (.ref fa)){C f0 f1 f2 f3 f4 f5 f6 f7 f8 f9 cO cP cn cQ cR cS cT cU cV cW cX cY cZ c0 c5 c6 c7 c8 c9 da db de df dg dh di dj dk dl dm O S V af ag aq ar aa aj ak au al ad am aF ae av:Addr}{aD aS:Tok}
  (aC:PySem.W.nsIn K mainGlobals "Jobs"=some (some$ .ref C))
  (aN:PySem.W.nsIn K mainGlobals "BenchError"=some (some$ .ref O))
  (aG:PySem.W.nsIn K mainGlobals "NoBench"=some (some$ .ref S))
  (aH:PySem.W.nsIn K mainGlobals "NoPaper"=some (some$ .ref V))
  (a2:PySem.W.nsIn K mainGlobals "NoTurns"=some (some$ .ref af))
  (a3:PySem.W.nsIn K mainGlobals "TooMany"=some (some$ .ref ag))
  (br:PySem.W.nsIn K mainGlobals "NoEnd"=some (some$ .ref aq))
  (bt:PySem.W.nsIn K mainGlobals "NoJob"=some (some$ .ref ar))
  (aW:PySem.W.nsIn K mainGlobals "NoLength"=some (some$ .ref aa))
  (a8:PySem.W.nsIn K mainGlobals "NoLine"=some (some$ .ref aj))
  (a9:PySem.W.nsIn K mainGlobals "NoName"=some (some$ .ref ak))
  (bu:PySem.W.nsIn K mainGlobals "NoRow"=some (some$ .ref au))
  (ba:PySem.W.nsIn K mainGlobals "NoText"=some (some$ .ref al))
  (aX:PySem.W.nsIn K mainGlobals "NoWindow"=some (some$ .ref ad))
  (bb:PySem.W.nsIn K mainGlobals "NoWood"=some (some$ .ref am))
  (bD:PySem.W.nsIn K mainGlobals "Ring"=some (some$ .ref aF))
  (aY:PySem.W.nsIn K mainGlobals "Stranger"=some (some$ .ref ae))
  (bv:PySem.W.nsIn K mainGlobals "Twice"=some (some$ .ref av))
  (l0:Dft K "_law_take" kQ f0)
  (l1:Dft K "_law_purse" ig f1)
  (l2:Dft K "_law_cell" lK f2)
  (l3:Dft K "is_name" zFp f3)
  (l4:Dft K "is_one_of" zD0 f4)
  (l5:Dft K "check_job" zFf f5)
  (l6:Dft K "check_names" zD2 f6)
  (l7:Dft K "check_parts" zD1 f7)
  (l8:Dft K "told_ahead" zEo f8)
  (l9:Dft K "has_all" zFq f9)
  (co:Dft K "joined" zJd cO)
  (cp:Dft K "all_ahead" zC8 cP)
  (bM:Dfm K C "__init__" "Jobs.__init__" zCk cn)
  (cq:Dfm K C "names" "Jobs.names" zEp cQ)
  (cr:Dfm K C "is_ahead" "Jobs.is_ahead" zC9 cR)
  (bN:Dft K "is_whole" zE1 cS)
  (bO:Dft K "check_benches" zB4 cT)
  (cs:Dft K "turns_filled" zDp cU)
  (bP:Dft K "has_all_behind" zBl cV)
  (bQ:Dft K "check_block" zC2 cW)
  (bR:Dft K "check_blocks" zBz cX)
  (bS:Dft K "shown_by_blocks" zBb cY)
  (bT:Dft K "shown" zJb cZ)
  (cu:Dft K "_law_names" zJc c0)
  (cv:Dft K "_law_pairs" iX c5)
  (cw:Dft K "_law_jobs" iP c6)
  (cx:Dft K "_law_behind" zG4 c7)
  (cy:Dft K "_law_blocks" zE2 c8)
  (cz:Dft K "_law_kind" hV c9)
  (cA:Dft K "_law_no_bench" zGe da)
  (cB:Dft K "_law_halves" zG3 db)
  (cC:Dft K "_law_loose" zGf de)
  (cD:Dft K "_law_put_in" zG2 df)
  (cE:Dft K "_law_bad_row" zFr dg)
  (cF:Dft K "_law_bad" qr dh)
  (cG:Dft K "_law_shows" zHk di)
  (cH:Dft K "_law_is_paper" zDu dj)
  (cI:Dft K "_law_told" lD dk)
  (cJ:Dft K "_law_due" mX dl)
  (dn:Dft K "law" fY dm)
  (pg:PySem.W.plainGet K C Str.empty=true)
  (hd:PySem.W.hasDictIn K C=true)
  (po:PySem.W.plainOver K C=true)
  (sa:PySem.W.findIn K (.ref C) "__setattr__"=some (some$ .builtin "object.__setattr__"))
  (mk:PySem.W.makesIn K C=true)
  (kc:PySem.W.keepIn K (.ref C)=true)
  (bU:PySem.W.findIn K (.ref C) "row"=some none)
  (bw:PySem.W.findIn K (.ref C) "pairs"=some none)
  (bx:PySem.W.findIn K (.ref C) "above"=some none)
  (zz:List.all (α:=Str) ["len","max","range","int","str","list","all","min","dict","bool","abs","reversed","enumerate","any","zip","sum","isinstance","sorted","set","tuple","ValueError"] (nnB K)=true)
  (ao:PySem.W.excIn K S lI "ValueError.__new__"=true)
  (aI:PySem.W.mroIn K S (.ref O)=some true)
  (ap:PySem.W.excIn K V lI "ValueError.__new__"=true)
  (aJ:PySem.W.mroIn K V (.ref O)=some true)
  (cK:gt K O=true)
  (aO:kdB K S V af ag [aq,ar,aa,aj,ak,au,al,ad,am] [aF,ae,av] S true false false false=true)
  (aP:kdB K S V af ag [aq,ar,aa,aj,ak,au,al,ad,am] [aF,ae,av] V false true false false=true)
  (wA:∃(W:Addr)(od:Option Addr)(n:Nat) (sl:Array (Option Value)) (t1 t2 t3:Tok),PySem.W.nsIn K mainGlobals "WORDS"=some (some$ .ref W)/\K.lookup W=some ⟨.type "tuple",od,.seq #[.str "blocks" t1,.str "behind" t2,.str "ahead" t3] n,sl⟩)
  (aE:PySem.W.nsIn K mainGlobals "LONGEST_NAME"=some (some$ .int 8 aD))
  (aT:PySem.W.nsIn K mainGlobals "MOST_JOBS"=some (some$ .int 20 aS))
  :∃fd:FuncData,(∀(s:Shared)(v:Value),BindsTo s fd ⟨[v],[]⟩ [("_law_script",v)])/\∀base:Heap,K.In base->base.Ns mainGlobals mg->gO mg base->(∀q∈([]:List (Addr×Addr)),PySem.W.CodeHd base q.1 q.2)->dw l.prog w K mg base CX0 9 fa fd ["_law_script"] (jb K):=by
 have z:∀x,x∈_->mg x=none:=λx m=>vL X G zz m;have m:=λ(x:Str)(v:Value) (e:PySem.W.nsIn K mainGlobals x=some (some v))=>PySem.W.mg_of X G e;obtain⟨a,_,_,kV,dc,pm,an,cd,ct,_,u,v,k⟩:=dn
 cases cN.symm.trans (m _ _ a)
 have T:Txt K mg:={z_len:=z _ dD,z_max:=z _ dD,z_range:=z _ dD,z_int:=z _ dD,z_str:=z _ dD,z_list:=z _ dD,z_all:=z _ dD,z_min:=z _ dD,z_dict:=z _ dD,z_bool:=z _ dD,z_abs:=z _ dD,z_reversed:=z _ dD,z_enumerate:=z _ dD,z_any:=z _ dD,z_zip:=z _ dD,z_sum:=z _ dD,z_isinstance:=z _ dD,z_sorted:=z _ dD,z_set:=z _ dD,z_tuple:=z _ dD,c_LONGEST_NAME:=⟨_,m _ _ aE⟩,c_MOST_JOBS:=⟨_,m _ _ aT⟩};have U:JC K mg C:=⟨⟨pg,hd,po,sa⟩,bU,bw,bx,m _ _ aC⟩;have XN:XC K mg "NoBench" S:=⟨m _ _ aG,ao⟩;have RN:=nU.of (CB:=O) aO (mP ao)$ nk aI;have XP:XC K mg "NoPaper" V:=⟨m _ _ aH,ap⟩;have RP:=nU.of (CB:=O) aP (mP ap)$ nk aJ;have EB:xb K mg S V af ag (ofL [aq,ar,aa,aj,ak,au,al,ad,am]) (ofL [aF,ae,av]):={c1:=m _ _ aG,c2:=m _ _ aH,c3:=m _ _ a2,c4:=m _ _ a3,n0:=m _ _ br,n1:=m _ _ bt,n2:=m _ _ aW,n3:=m _ _ a8,n4:=m _ _ a9,n5:=m _ _ bu,n6:=m _ _ ba,n7:=m _ _ aX,n8:=m _ _ bb,m0:=m _ _ bD,m1:=m _ _ aY,m2:=m _ _ bv,zv:=z _ dD};obtain⟨W,_,_,_,_,_,_,wg,wl⟩:=wA;have WD:Wds K mg W:=⟨m _ _ wg,λH=>.inr ⟨_,_,_,wl,rF,rF,(show(3:Nat)<=sizeLine by rw[qAK];lia),.cons ⟨_,rF⟩$ .cons ⟨_,rF⟩$ .cons ⟨_,rF⟩ .nil⟩⟩;obtain⟨_,F0⟩:=l0.2.to;obtain⟨_,F1⟩:=l1.2.to;obtain⟨_,F2⟩:=l2.2.to;obtain⟨_,F3⟩:=l3.2.to;obtain⟨_,F4⟩:=l4.2.to;obtain⟨_,F5⟩:=l5.2.to;obtain⟨_,F6⟩:=l6.2.to;obtain⟨_,F7⟩:=l7.2.to;obtain⟨_,F8⟩:=l8.2.to;obtain⟨_,F9⟩:=l9.2.to;obtain⟨_,bV⟩:=co.2.to;obtain⟨_,bW⟩:=cp.2.to;obtain⟨_,cL⟩:=bM.2.2.to;obtain⟨_,bX⟩:=cq.2.2.to;obtain⟨_,bY⟩:=cr.2.2.to;obtain⟨_,bc⟩:=bN.2.to;obtain⟨_,bd⟩:=bO.2.to;obtain⟨_,bZ⟩:=cs.2.to;obtain⟨_,be⟩:=bP.2.to;obtain⟨_,bf⟩:=bQ.2.to;obtain⟨_,bg⟩:=bR.2.to;obtain⟨_,bh⟩:=bS.2.to;obtain⟨_,bi⟩:=bT.2.to;obtain⟨_,b0⟩:=cu.2.to;obtain⟨_,b1⟩:=cv.2.to;obtain⟨_,b2⟩:=cw.2.to;obtain⟨_,b3⟩:=cx.2.to;obtain⟨_,b4⟩:=cy.2.to;obtain⟨_,b5⟩:=cz.2.to;obtain⟨_,b6⟩:=cA.2.to;obtain⟨_,b7⟩:=cB.2.to;obtain⟨_,b8⟩:=cC.2.to;obtain⟨_,b9⟩:=cD.2.to;obtain⟨_,ca⟩:=cE.2.to;obtain⟨_,cb⟩:=cF.2.to;obtain⟨_,cc⟩:=cG.2.to;obtain⟨_,ce⟩:=cH.2.to;obtain⟨_,cf⟩:=cI.2.to;obtain⟨_,cg⟩:=cJ.2.to;have dp:=qA (st:=fY) u v k;refine⟨PySem.W.fnOf "law" "law" (zDq fY) (zCt fY) (zAg fY) .none kV dc pm an cd ct,λs v=>.of_eq rF,λB _ _ BL CH=>?_⟩;have aw:=cal l.prog w B (m _ _ l0.1) F0 F0.b2$ sy F0;have bz:=cal l.prog w B (m _ _ l1.1) F1 F1.b2$ qT F1 T;have bE:=cal l.prog w B (m _ _ l2.1) F2 F2.b2$ tQ F2 T;have a4:=cal l.prog w B (m _ _ l3.1) F3 F3.b1$ kW F3 T;have ax:=cal l.prog w B (m _ _ l4.1) F4 F4.b2$ iu F4 T;have aU:=cal l.prog w B (m _ _ l4.1) F4 F4.b2$ ub F4 T;have ay:=cal l.prog w B (m _ _ l5.1) F5 F5.b2$ iO F5 T ax;have aK:=cal l.prog w B (m _ _ l6.1) F6 F6.b1$ zIj F6 T a4;have aL:=cal l.prog w B (m _ _ l7.1) F7 F7.b2$ zIi F7 T ay;have aQ:=cal l.prog w B (m _ _ l8.1) F8 F8.b2$ zJk F8;have a5:=cal l.prog w B (m _ _ l9.1) F9 F9.b2$ lF F9 T;have bj:=cal l.prog w B (m _ _ co.1) bV bV.b2$ oi bV;have aV:=cal l.prog w B (m _ _ cp.1) bW bW.b2$ iD bW T a5 bj;have bF:Mkr l.prog w K mg B C "Jobs" 4 ["self","names","orders"] (iE C):=⟨cn,_,⟨mk,bM.1,bM.2.1,kc⟩,m _ _ aC,cL.b3,(iV cL T U aK aL aV aQ)⟩;have aZ:=mth l.prog w B cq bX bX.b1$ zJl bX T U;have aA:=mth l.prog w B cr bY bY.b3$ zGw bY T U ay;have aB:=cal l.prog w B (m _ _ bN.1) bc bc.b1$ j_ bc T;have aR:=cal l.prog w B (m _ _ bN.1) bc bc.b1$ nK bc T;have az:=cal l.prog w B (m _ _ bO.1) bd bd.b1$ zEh bd aB;have cM:=qC l.prog w B (m _ _ bO.1) bd bd.b1$ nI bd XN aB aR;have ah:=cal l.prog w B (m _ _ cs.1) bZ bZ.b2$ zHq bZ;have ci:=cal l.prog w B (m _ _ bP.1) be be.b3$ zGj be T U aA;have bG:=cal l.prog w B (m _ _ bP.1) be be.b3$ tJ be T U aA;have aM:=cal l.prog w B (m _ _ bQ.1) bf bf.b3$ zIk bf T ax;have cj:=qC l.prog w B (m _ _ bQ.1) bf bf.b3$ vX bf T XP aU;have ai:=cal l.prog w B (m _ _ bR.1) bg bg.b2$ zHr bg T U aZ aM ci;have bH:=qC l.prog w B (m _ _ bR.1) bg bg.b2$ sF bg T U XP aZ cj bG;have ck:=cal l.prog w B (m _ _ bS.1) bh bh.b3$ zDl bh T ai ah;have bI:=qC l.prog w B (m _ _ bS.1) bh bh.b3$ sK bh T ai ah bH;have bk:=cal l.prog w B (m _ _ bT.1) bi bi.b3$ oR bi T WD az aU ck;have bl:=qC l.prog w B (m _ _ bT.1) bi bi.b3$ oW bi T XP WD cM aU bI aR;have bn:=cal l.prog w B (m _ _ cu.1) b0 b0.b2$ qo b0 T aw;have bA:=cal l.prog w B (m _ _ cv.1) b1 b1.b4$ rG b1 T aw;have bJ:=cal l.prog w B (m _ _ cw.1) b2 b2.b2$ sW b2 T aw bn bA;have a6:=cal l.prog w B (m _ _ cx.1) b3 b3.b2$ oq b3 T;have bo:=cal l.prog w B (m _ _ cy.1) b4 b4.b3$ ls b4 T aw;have bK:=xV l.prog w B (m _ _ cz.1) b5 b5.b1$ rQ b5 T EB;have a0:=cal l.prog w B (m _ _ cA.1) b6 b6.b1$ j9 b6 T;have bp:=cal l.prog w B (m _ _ cB.1) b7 b7.b2$ nu b7;have bB:=cal l.prog w B (m _ _ cC.1) b8 b8.b2$ pF b8 T;have bq:=cal l.prog w B (m _ _ cD.1) b9 b9.b3$ oZ b9 T;have a7:=cal l.prog w B (m _ _ cE.1) ca ca.b4$ lv ca T bq;have cl:=cal l.prog w B (m _ _ cF.1) cb cb.b4$ vM cb T a7;have bC:=cal l.prog w B (m _ _ cG.1) cc cc.b4$ p0 cc T;have a1:=cal l.prog w B (m _ _ cH.1) ce ce.b2$ j7 ce T bC;have bL:=cal l.prog w B (m _ _ cI.1) cf cf.b3$ tw cf (m _ _ aN) cK RN RP bl bK;have cm:=cal l.prog w B (m _ _ cJ.1) cg cg.b4$ ve cg T;exact u6 dp T bE bz aw bJ a6 bo bB bp cl a1 a0 bL bk cm bF
theorem x8{l:PySem.W.OpenLaw}{q:Program}{O:List Str}{XP:(Str->Option Value)->Heap->Prop}{S:World->Heap->Prop}{d:DefRec}{K:Params->PySem.W.Frag}(hn:l.most=some 63)(V:d.params.defaults=[])
  (hY:∀(w:World)(h:Heap),S w h->(K w.params).In h) (hT:∀(w:World)(h:Heap),S w h->PySem.W.TabsAt ([]:List (Addr×Addr)) h) (W:∀(w:World),∀q∈([]:List (Addr×Addr)),(K w.params).lookup q.2=none)
  (F:∀(w:World) (mg:Str->Option Value) (fa:Addr) (h:Heap),(K w.params).In h->h.Ns mainGlobals mg->mg d.name=some (.ref fa) ->
   ∃fd:FuncData,(∀(s:Shared)(u:Value),BindsTo s fd ⟨[u],[]⟩ [("_law_script",u)])/\∀base:Heap,(K w.params).In base->base.Ns mainGlobals mg->gO mg base->(∀q∈([]:List (Addr×Addr)),PySem.W.CodeHd base q.1 q.2)->dw l.prog w (K w.params) mg base CX0 9 fa fd ["_law_script"] (jb$ K w.params)) :
  PySem.W.WalkO q O XP S l.row.toRowW d [] (λf vs=>PySem.call f vs) :=
 L2.py (n:=63) (k:=9) (x:="_law_script") (CX:=λ_=>CX0) (sp:=λw=>jb$ K w.params) hn dD V ⟨rF,dD,dD,rF⟩ hY hT W F (λ_ _ a ns hl hS hH=>⟨a,ns,rF,hS,hl,λ_=>rfl⟩) λ_ _ _ _ _ z=>z
end My
namespace PySem.W.Fast
def tw3293543240583177891:=0
def tw8656069727451543527:=0
def tw9801642894371690798:=0
def tw7902447455241930181:=0
def tw4820519143025223525:=0
def tw137537641723553090:=0
def tw18272455622773477852:=0
def tw8452164830512525007:=0
def tw9652492534727207182:=0
def tw211358699135954162:=0
def tw2162314502263804781:=0
def tw876036431898266542:=0
def tw8437871987970034467:=0
def tw14353559181534534070:=0
def tw12377180525852410652:=0
def tw5452642217957288534:=0
def tw7716393480397028971:=0
def tw4730809787936224987:=0
def tw12837948635721872594:=0
def tw17754095817312470355:=0
def tw6609888148949501670:=0
def tw2231852886242039499:=0
def tw13185360409562038960:=0
def tw12334042339723725481:=0
def tw9031717475562561977:=0
def tw13750259592663499501:=0
def tw10393107482294676253:=0
def tw14192684548316038912:=0
def tw8538493590196916763:=0
def tw5724844341586065678:=0
def tw16448392227855062369:=0
def tw13387849778707196897:=0
def tw2622049266670069191:=0
def tw3565878931229646566:=0
def tw8151928339039899754:=0
def tw5164634470091375152:=0
def tw6162048922392002770:=0
def tw17482091410111158630:=0
def tw14190638153392475719:=0
def tw12845197563403836601:=0
def tw3778537164011605566:=0
def tw12773979349412692344:=0
def tw15708726405724519844:=0
def tw9607818697081861350:=0
def tw12353531366913969162:=0
def tw12976052732640396:=0
def tw17685344689551456445:=0
def tw6166604481211983264:=0
def tw3155696735992796661:=0
def tw15695926332402052397:=0
def tw13057375521421441940:=0
def tw7673617483443268982:=0
def tw6361496716175791256:=0
def tw4158077682148618657:=0
def tw9320035439884661905:=0
def tw179342117435431511:=0
def tw11399815410845089185:=0
def tw6925573056177030071:=0
def tw7800574844775859807:=0
def tw708295749153654702:=0
def tw7467941612323862297:=0
def tw13006860516182030414:=0
def tw12286448636150461876:=0
def tw8892353392595973758:=0
def tw12769060635160033287:=0
def tw7156413433458772854:=0
def tw5905573120313106174:=0
def tw10331552245499425955:=0
def tw250401574027982036:=0
def tw623638276938178648:=0
def tw15825519141054463061:=0
def tw9011219566433806823:=0
def tw8608303441865962753:=0
def tw1692975737612980417:=0
def tw4978490048750586868:=0
def tw355467853757884288:=0
def tw8375367050458799198:=0
def tw8709010804917572877:=0
def tw18312809433938214785:=0
def tw8107674826523322375:=0
def tw1355385446337115338:=0
def tw13109888000925746732:=0
def tw6209040886458737935:=0
def tw15493968708319189763:=0
def tw5186389859973800077:=0
def tw4645983220550978790:=0
def tw11936982513149836523:=0
def tw17291350166986754443:=0
def tw5908433851610580684:=0
def tw2887925205610972807:=0
def tw12900028558443088896:=0
def tw2954408762121069084:=0
def tw1016504470762647125:=0
def tw12163329196177705893:=0
def tw10186240038136795305:=0
def tw11605147857657113158:=0
def tw1411908359164030210:=0
def tw1134691992368672723:=0
def tw990256351347455943:=0
def tw2472442583221663818:=0
def tw7674780611403162032:=0
def tw5735600161457704891:=0
def tw15951178003418635946:=0
def tw6815324803502301530:=0
def tw18050216540197645842:=0
def tw3962445796345103826:=0
def tw11228568641165066869:=0
def tw8420291999585265665:=0
def tw11359026781510087212:=0
def tw1113398356066467984:=0
def tw3656737874402336006:=0
def tw14630358283270677859:=0
def tw6671299604732398478:=0
def tw8979814138999716574:=0
def tw2596291735646111591:=0
def tw1906138010238545117:=0
def tw4629278138245607420:=0
def tw6421087717043786278:=0
def tw10781009108922523046:=0
def tw15321532102208450204:=0
def tw2251568468221193939:=0
def tw14703246335123107639:=0
def tw997562946840564960:=0
def tw6078063238862544395:=0
def tw12684261958254548972:=0
def tw12296878323207572542:=0
def tw8758722411383068297:=0
def tw10085737768593459502:=0
def tw3458443263295035367:=0
def tw17761445678536871600:=0
def tw12935714770809436136:=0
def tw8157578707410030725:=0
def tw6411700429021942830:=0
def tw16326911516554463280:=0
def tw4914185792869949482:=0
def tw16674568712072868427:=0
def tw2469825893659398275:=0
def tw6132158445112309983:=0
def tw12517980897798649761:=0
def tw6930289535448158987:=0
def tw13692874717381013090:=0
def tw18013297904361751180:=0
def tw16450598200631695549:=0
def tw11170784544520886623:=0
def tw6312569887225290446:=0
def tw16551155831967031816:=0
def tw4184754273069827185:=0
def tw15693283282968455016:=0
def tw8030950294989684018:=0
def tw7859428545019959339:=0
def tw17811645955589500446:=0
def tw15168056743299397489:=0
def tw10716408450823640431:=0
def tw15890421457778355108:=0
def tw13142497272585568717:=0
def tw16590233864175947762:=0
def tw14035524561053069123:=0
def tw1006030717497486308:=0
def tw4917045310263011394:=0
def tw15315567768016347108:=0
def tw8109900748728709109:=0
def tw17526818715706235105:=0
def tw1491898999437774297:=0
def tw13003744636263318721:=0
def tw6378753272078735963:=0
def tw17810101442325913996:=0
def tw11610461093017460217:=0
def tw15632337177902050138:=0
def tw3976048767222441727:=0
def tw2276784048084551015:=0
def tw12909551993686431082:=0
def tw13032207230328760341:=0
def tw7049044501136064444:=0
def tw4714910991981568714:=0
def tw17219781529693287839:=0
def tw960933855696838634:=0
def tw7971203848069133132:=0
def tw14996335369651904705:=0
def tw686209465223013455:=0
def tw16692088677385083477:=0
def tw14249512605750745685:=0
def tw16561010638973106190:=0
def tw1773957657993938784:=0
def tw5722720381652930715:=0
def tw13026689204962429455:=0
def tw14456237377452747516:=0
def tw5724092589043670778:=0
def tw13893737050448253310:=0
def tw2400906772046063388:=0
def tw17783884789916728701:=0
def tw7487408242289107210:=0
def tw444178709383148669:=0
def tw9868617655609991039:=0
def tw7476197231263833568:=0
def tw9407846708807374833:=0
def tw4165766836785376187:=0
def tw16147268586538940403:=0
def tw4796425418808458866:=0
def tw12779675390374255944:=0
def tw7218216848879781537:=0
def tw17369921601507395898:=0
def tw7447276070832756379:=0
def tw7559592948503710897:=0
def tw15695717725800610278:=0
def tw8820737497640155707:=0
def tw7386972512282725220:=0
def tw17932452036564942579:=0
def tw6206492608827400274:=0
def tw8263332569356458240:=0
def tw14608469390210137616:=0
def tw9629660987320954212:=0
def tw2301172176430363638:=0
def tw2789833902455127984:=0
def tw11877546627847718961:=0
def tw5626107980397867205:=0
def tw10603506605908884229:=0
def tw10482055994290916874:=0
def tw5443084625888760785:=0
def tw8050742397228701232:=0
def tw15659922768463612759:=0
def tw11750676190637232057:=0
def tw9099168404385571430:=0
def tw9429292007972791328:=0
def tw4566704917968671268:=0
def tw17181609115804767576:=0
def tw7754772990994341488:=0
def tw17985268082863758998:=0
def tw10068638974527759694:=0
def tw4875712043371057631:=0
def tw9502729000345148922:=0
def tw7539123339843991987:=0
def tw5141345722347100157:=0
def tw17612190823541730131:=0
def tw15144206271397775820:=0
def tw948943872550809464:=0
def tw16459235132383686676:=0
def tw18020846080530159012:=0
def tw392028304486028186:=0
def tw10756202473707032538:=0
def tw1968920139444941892:=0
def tw14580071292165075105:=0
def tw3313362583921910068:=0
def tw9348451276355893818:=0
def tw2068703902431214922:=0
def tw40484953689869265:=0
def tw16535921054505756626:=0
def tw6647599771669931021:=0
def tw17903935532012936589:=0
def tw7557629116947686945:=0
def tw11090314203440231433:=0
def tw8660197845317979578:=0
def tw16982619505625584321:=0
def tw7401268652485940305:=0
def tw1144437941728088742:=0
def tw16060058267146884429:=0
def tw17634403225992022043:=0
def tw6270096044356172255:=0
def tw12607525314352907607:=0
def tw2282314131826125518:=0
def tw3549516742968363518:=0
def tw8828290235432482873:=0
def tw6133579402053099866:=0
def tw11578951939971758426:=0
def tw11489456150291867970:=0
def tw18149254411771342869:=0
def tw14285773086348299148:=0
end PySem.W.Fast
open PySem PySem.W PyProof.Rows
set_option maxRecDepth 100000 in
set_option maxHeartbeats 0 in
theorem PySem.Challenge.cw_levelbench_k83_papers_refused_holds : PySem.Challenge.rw_levelbench_k83_papers_refused.Holds := by
 w_on;o_law;k_head;(case hw=>w_witness2)
 k_fill
 refine My.x8  (l:=PySem.Challenge.rw_levelbench_k83_papers_refused) rF rF (λw h Y=>PySem.W.km_in_of Y) (λw h Y=>λ_ h=>nomatch h) (λw=>λ_ h=>nomatch h) ?F
 case F=>
  intro w mg fa h KX G hmg;refine' My.wc  KX G hmg ?h0 ?h1 ?h2 ?h3 ?h4 ?h5 ?h6 ?h7 ?h8 ?h9 ?h10 ?h11 ?h12 ?h13 ?h14 ?h15 ?h16 ?h17 ?h18 ?h19 ?h20 ?h21 ?h22 ?h23 ?h24 ?h25 ?h26 ?h27 ?h28 ?h29 ?h30 ?h31 ?h32 ?h33 ?h34 ?h35 ?h36 ?h37 ?h38 ?h39 ?h40 ?h41 ?h42 ?h43 ?h44 ?h45 ?h46 ?h47 ?h48 ?h49 ?h50 ?h51 ?h52 ?h53 ?h54 ?h55 ?h56 ?h57 ?h58 ?h59 ?h60 ?h61 ?h62 ?h63 ?h64 ?h65 ?h66 ?h67 ?h68 ?h69 ?h70 ?h71 ?h72 ?h73 ?h74 ?h75 ?h76 ?h77
  all_goals try first|k_is|exact⟨by k_is,_,_,_,_,_,_,_,_,_,by k_is,by k_is,by k_is⟩|exact⟨by k_is,_,_,_,_,_,_,_,_,by k_is,by k_is,by k_is⟩|exact⟨by k_is,by k_is,_,_,_,_,_,_,_,_,_,by k_is,by k_is,by k_is⟩|k_exc|kernel_rfl|exact⟨_,_,_,_,_,_,_,by k_is,by k_is⟩
